package field_test

import (
	"math"
	"testing"

	"alidade/api"
	"alidade/field"
	"alidade/fixed"
)

// Written out here, for the tests aren't to share the program's own numbers.
const (
	one  = int64(1) << 40
	most = int64(1) << 62
	h    = int64(1727108826179)
	full = int64(6908435304716)
	day  = int64(86400000)
	last = int64(157766400000)
	way  = int64(1) << 20
)

// number: a degree, an order and a tick, and what Number answers.
type number struct {
	n, m int
	tick int64
	g, h int64
}

// numbers were worked out by the chapter's steps, outside of the program: first, all of the model at tick 0.
func numbers() []number {
	return append(laterNumbers(), []number{
		{1, 0, 0, -32270666275226, 0},
		{1, 1, 0, -1550641248652, 4997830104056},
		{2, 0, 0, -2810571622921, 0},
		{2, 1, 0, 3244548862404, -3445429636799},
		{2, 2, 0, 1812764820714, -895222367335},
		{3, 0, 0, 1496325374240, 0},
		{3, 1, 0, -2643445855499, -62562211620},
		{3, 2, 0, 1367572562628, 261243962760},
		{3, 3, 0, 498518572034, -604291590626},
		{4, 0, 0, 983733053371, 0},
		{4, 1, 0, 879169497570, 306323939498},
		{4, 2, 0, 61352748830, -147334558122},
		{4, 3, 0, -309072718568, 233096465089},
		{4, 4, 0, 13194139533, -412756665067},
		{5, 0, 0, -256076258109, 0},
		{5, 1, 0, 405719790649, 49807876738},
		{5, 2, 0, 205828576720, 241892558111},
		{5, 3, 0, -152502262773, -135129979054},
		{5, 4, 0, -156020699981, 47169048832},
		{5, 5, 0, 22979793021, 116768134870},
		{6, 0, 0, 70698597666, 0},
		{6, 1, 0, 70148841852, -20231013951},
		{6, 2, 0, 84332541850, 18471795347},
		{6, 3, 0, -127213495334, 53766118598},
		{6, 4, 0, -44970025576, -65750795341},
		{6, 5, 0, 16382723254, 11984676743},
		{6, 6, 0, -66850306969, 80044446502},
	}...)
}

func laterNumbers() []number {
	return []number{
		{1, 0, 1, -32270666275226, 0},
		{1, 1, 1, -1550641248652, 4997830104055},
		{2, 0, 1, -2810571622921, 0},
		{2, 1, 1, 3244548862404, -3445429636800},
		{2, 2, 1, 1812764820714, -895222367335},
		{1, 0, day, -32270628345461, 0},
		{1, 1, day, -1550611145664, 4997765382632},
		{2, 0, day, -2810605338267, 0},
		{2, 1, day, 3244532907820, -3445511817956},
		{2, 2, day, 1812739835234, -895255781651},
		{1, 0, 31557600000, -32256812428716, 0},
		{1, 1, 31557600000, -1539646132374, 4974190604059},
		{2, 0, 31557600000, -2822886153152, 0},
		{2, 1, 31557600000, 3238721450777, -3475446304237},
		{2, 2, 31557600000, 1803638874203, -907426946403},
		{1, 0, last / 2, -32236036400172, 0},
		{1, 1, last / 2, -1523157220830, 4938739444241},
		{2, 0, last / 2, -2841353734080, 0},
		{2, 1, last / 2, 3229982327659, -3520461032749},
		{2, 2, last / 2, 1789953077621, -925729638215},
		{1, 0, last - 1, -32201406525118, 0},
		{1, 1, last - 1, -1495673193009, 4879648784428},
		{2, 0, last - 1, -2872135845239, 0},
		{2, 1, last - 1, 3215415792915, -3595492428699},
		{2, 2, last - 1, 1767141334529, -956236909096},
		{1, 0, last, -32201406525117, 0},
		{1, 1, last, -1495673193009, 4879648784427},
		{2, 0, last, -2872135845239, 0},
		{2, 1, last, 3215415792915, -3595492428700},
		{2, 2, last, 1767141334529, -956236909096},
		// Where it tells, if a year is one unit longer or shorter.
		{2, 0, 88038781718, -2844926461026, 0},
		{1, 1, 138140414847, -1502511165124, 4894350424474},
		{2, 1, 134229628773, 3219762082060, -3573104939332},
		{1, 0, 92330650963, -32230132943585, 0},
	}
}

// sample: a place and a tick, and the field that is there.
type sample struct {
	name  string
	place api.Vec
	tick  int64
	want  api.Vec
}

// earthSamples, and those of the sky, were worked out by the chapter's steps, outside of the program.
func earthSamples() []sample {
	all := append(alongSamples(), slantSamples()...)
	return append(append(all, farSamples()...), axisSamples()...)
}

// alongSamples: along the axes.
func alongSamples() []sample {
	return []sample{
		{"the example", api.Vec{7005208482886, 0, 0}, 0,
			api.Vec{17305855237390, -2111630386990, 29747612358906}},
		{"the example, at the last tick", api.Vec{7005208482886, 0, 0}, last,
			api.Vec{17389604388018, -1887768781031, 29728812565332}},
		{"along y", api.Vec{0, 7005208482886, 0}, 0,
			api.Vec{1032460725889, 13891497433372, 44528142434325}},
		{"along y, at the last tick", api.Vec{0, 7005208482886, 0}, last,
			api.Vec{1083172956576, 13866014421726, 44718799064115}},
		{"along -x", api.Vec{-7005208482886, 0, 0}, 0,
			api.Vec{-3897901182234, -6385638501258, 36693227350006}},
		{"along -x, at the last tick", api.Vec{-7005208482886, 0, 0}, last,
			api.Vec{-3761778110290, -6373137467959, 36573507643362}},
		{"along -y", api.Vec{0, -7005208482886, 0}, 0,
			api.Vec{1120374575765, 10652652592740, 30396753502283}},
		{"along -y, at the last tick", api.Vec{0, -7005208482886, 0}, last,
			api.Vec{959726233792, 10205410325870, 30067577372275}},
		{"along z", api.Vec{0, 0, 7005208482886}, 0,
			api.Vec{-2266975151802, 54198301486, -63110648020392}},
		{"along z, at the last tick", api.Vec{0, 0, 7005208482886}, last,
			api.Vec{-2271483250910, 432296001014, -63156821187128}},
		{"along -z", api.Vec{0, 0, -7005208482886}, 0,
			api.Vec{15175752681592, -10129177672532, -57074329183900}},
		{"along -z, at the last tick", api.Vec{0, 0, -7005208482886}, last,
			api.Vec{15070324669414, -10270912732802, -56751117016728}},
	}
}

// slantSamples: in all quarters, and in between.
func slantSamples() []sample {
	return []sample{
		{"x above 0, y above 0, z above 0", api.Vec{5123456789012, 3210987654321, 3777777777777}, 0,
			api.Vec{-40525391511284, -22315052838686, 8143328352491}},
		{"x below 0, y above 0, z above 0", api.Vec{-5123567900123, 3211209876543, 3778111111110}, 1,
			api.Vec{37798050701038, -20851564027956, 10778002911293}},
		{"x above 0, y below 0, z above 0", api.Vec{5123679011234, -3211432098765, 3778444444443}, day,
			api.Vec{-37216805954828, 17618696468689, 9261015973744}},
		{"x below 0, y below 0, z above 0", api.Vec{-5123790122345, -3211654320987, 3778777777776}, 43200000,
			api.Vec{38098488525919, 17772524394024, 4150082031017}},
		{"x above 0, y above 0, z below 0", api.Vec{5123901233456, 3211876543209, -3779111111109}, 31557600000,
			api.Vec{28892824700142, 9806277360996, -4219459877815}},
		{"x below 0, y above 0, z below 0", api.Vec{-5124012344567, 3212098765431, -3779444444442}, last / 2,
			api.Vec{-52180997513993, 26692796778886, -5812006369257}},
		{"x above 0, y below 0, z below 0", api.Vec{5124123455678, -3212320987653, -3779777777775}, last - 1,
			api.Vec{17509089577710, -17549442797181, -616856154167}},
		{"x below 0, y below 0, z below 0", api.Vec{-5124234566789, -3212543209875, -3780111111108}, last,
			api.Vec{-31367834417829, -29937864265987, 4680550364473}},
		{"halves of a quarter", api.Vec{5000000000000, 5000000000000, 0}, 123456789,
			api.Vec{8033709940696, 7005569072450, 35373074281710}},
		{"halves of a quarter, on the other side", api.Vec{-5000000000000, -5000000000000, 0}, 987654321,
			api.Vec{6509655780985, -872925488543, 32109985287327}},
		{"upright halves", api.Vec{5000000000000, 0, -5000000000000}, 100000000000,
			api.Vec{23384284986560, -4437521993535, -8569475904400}},
		{"low, in the south of the Atlantic", api.Vec{4140000000000, -4270000000000, -3900000000000}, 52588800000,
			api.Vec{12477063591049, -20318076971454, 2951916664690}},
		{"near the north pole of needles", api.Vec{-380000000000, 330000000000, 6990000000000}, 4321,
			api.Vec{3221120949610, -3491066174520, -63690971651349}},
		{"near the south pole of needles", api.Vec{-2200000000000, 2100000000000, -6320000000000}, 4294967296,
			api.Vec{-22394182364383, 21142101308186, -65099680578482}},
	}
}

// farSamples: the Norm is just 6 or 10, or one unit on the right side of it.
func farSamples() []sample {
	return []sample{
		{"just 6 along x", api.Vec{6597069766656, 0, 0}, 0,
			api.Vec{23569087598799, -2357573258090, 35979567360565}},
		{"just 6 along -y", api.Vec{0, -6597069766656, 0}, last,
			api.Vec{1362382560391, 12116186880196, 36145427962214}},
		{"just 6 along -z", api.Vec{0, 0, -6597069766656}, last / 2,
			api.Vec{19791420473211, -12513666266281, -68465882768924}},
		{"one above 6", api.Vec{6597069766657, 0, 0}, 0,
			api.Vec{23569087598682, -2357573258090, 35979567360474}},
		{"just 10 along -x", api.Vec{-10995116277760, 0, 0}, 0,
			api.Vec{-1466688640764, -1487005554917, 9120307065341}},
		{"just 10 along y", api.Vec{0, 10995116277760, 0}, last,
			api.Vec{513939127548, 2842494349389, 9958529889268}},
		{"just 10 along z", api.Vec{0, 0, 10995116277760}, 1,
			api.Vec{-106833444962, -363642646747, -17175774099704}},
		{"one below 10", api.Vec{-10995116277759, 0, 0}, 0,
			api.Vec{-1466688640764, -1487005554917, 9120307065341}},
		{"slanting, just 6", api.Vec{3298534895673, -4398046456783, 3646667576314}, 0,
			api.Vec{-42039233096813, 39824112899380, 2358127492586}},
		{"slanting to the south, just 6", api.Vec{3298534895673, -4398046456783, -3646667576314}, day,
			api.Vec{11520167243727, -24907134272384, 5706331341633}},
		{"slanting, cut to 10", api.Vec{-7696581493197, 2199023198763, 7537871864880}, 0,
			api.Vec{12435525008819, -3918245455079, -2495953535722}},
		{"slanting to the south, cut to 10", api.Vec{-7696581493197, 2199023198763, -7537871864880}, last,
			api.Vec{-14069813292237, 2229301994302, -6318529361549}},
	}
}

// axisSamples: the way from the axis is just below a meter, just that, and just above it. Below it a place is taken for one at longitude 0.
func axisSamples() []sample {
	return []sample{
		{"north, on the axis", api.Vec{0, 0, 7333333333333}, 0,
			api.Vec{-1653222885532, -77248039985, -55554422956442}},
		{"north, one beside the axis", api.Vec{0, -1, 7333333333333}, last,
			api.Vec{-1659120605306, 242196069298, -55587467807598}},
		{"north, below, by -x", api.Vec{-1048575, 0, 7333333333333}, 0,
			api.Vec{-1653235377775, -77248146851, -55554421333213}},
		{"north, at, by -x", api.Vec{-1048576, 0, 7333333333333}, 0,
			api.Vec{-1653210393208, -77247933117, -55554424579670}},
		{"north, above, by -x", api.Vec{-1048577, 0, 7333333333333}, 0,
			api.Vec{-1653210393208, -77247933117, -55554424579670}},
		{"north, below, by y", api.Vec{0, 1048575, 7333333333333}, last,
			api.Vec{-1659133106222, 242195975014, -55587466187847}},
		{"north, at, by y", api.Vec{0, 1048576, 7333333333333}, last,
			api.Vec{-1659120699592, 242186271523, -55587468337962}},
		{"north, above, by y", api.Vec{0, 1048577, 7333333333333}, last,
			api.Vec{-1659120699592, 242186271523, -55587468337962}},
		{"north, slanting, cut to below", api.Vec{-629145, -838861, 7333333333333}, 12345678901,
			api.Vec{-1653696892152, -52250716755, -55557007189037}},
		{"north, slanting, at", api.Vec{-629145, -838862, 7333333333333}, 12345678901,
			api.Vec{-1653678711225, -52242789183, -55557009485338}},
		{"north, slanting, cut to at", api.Vec{-629145, -838862, 7333333333333}, 12345678901,
			api.Vec{-1653678711225, -52242789183, -55557009485338}},
		{"north, slanting, above", api.Vec{-629145, -838863, 7333333333333}, 12345678901,
			api.Vec{-1653678080403, -52242769252, -55557009485339}},
		{"south, on the axis", api.Vec{0, 0, -7333333333333}, 0,
			api.Vec{12376364458748, -8672050083529, -49673563010426}},
		{"south, one beside the axis", api.Vec{0, -1, -7333333333333}, last,
			api.Vec{12286432664168, -8785460736954, -49399027783098}},
		{"south, below, by -x", api.Vec{-1048575, 0, -7333333333333}, 0,
			api.Vec{12376375454845, -8672049445743, -49673555146270}},
		{"south, at, by -x", api.Vec{-1048576, 0, -7333333333333}, 0,
			api.Vec{12376353462576, -8672050721317, -49673570874643}},
		{"south, above, by -x", api.Vec{-1048577, 0, -7333333333333}, 0,
			api.Vec{12376353462576, -8672050721317, -49673570874643}},
		{"south, below, by y", api.Vec{0, 1048575, -7333333333333}, last,
			api.Vec{12286443599796, -8785460086586, -49399019963527}},
		{"south, at, by y", api.Vec{0, 1048576, -7333333333333}, last,
			api.Vec{12286433314538, -8785450383266, -49399032068670}},
		{"south, above, by y", api.Vec{0, 1048577, -7333333333333}, last,
			api.Vec{12286433314538, -8785450383266, -49399032068670}},
		{"south, slanting, cut to below", api.Vec{-629145, -838861, -7333333333333}, 12345678901,
			api.Vec{12369338026057, -8680924157697, -49652071971062}},
		{"south, slanting, at", api.Vec{-629145, -838862, -7333333333333}, 12345678901,
			api.Vec{12369334084412, -8680943455700, -49652081178393}},
		{"south, slanting, cut to at", api.Vec{-629145, -838862, -7333333333333}, 12345678901,
			api.Vec{12369334084412, -8680943455700, -49652081178393}},
		{"south, slanting, above", api.Vec{-629145, -838863, -7333333333333}, 12345678901,
			api.Vec{12369329365906, -8680940144204, -49652081178384}},
	}
}

func skySamples() []sample {
	return []sample{
		{"along x", api.Vec{7005208482886, 0, 0}, 0,
			api.Vec{13707475445203, -2404667815449, 43259470549976}},
		{"along x, at the last tick", api.Vec{7005208482886, 0, 0}, last,
			api.Vec{13654823461545, -2433334937494, 43485456773734}},
		{"along y", api.Vec{0, 7005208482886, 0}, 0,
			api.Vec{-5938480184081, 7053925931364, 37865120500755}},
		{"along y, at the last tick", api.Vec{0, 7005208482886, 0}, last,
			api.Vec{-5977506119604, 6884563616677, 37774862054106}},
		{"along -x", api.Vec{-7005208482886, 0, 0}, 0,
			api.Vec{9122251319747, -3398775901740, 31364326540314}},
		{"along -x, at the last tick", api.Vec{-7005208482886, 0, 0}, last,
			api.Vec{8804141644302, -3164539919209, 31015097306702}},
		{"along -y", api.Vec{0, -7005208482886, 0}, 0,
			api.Vec{-4245422668966, -16264773128455, 28760425581967}},
		{"along -y, at the last tick", api.Vec{0, -7005208482886, 0}, last,
			api.Vec{-3971405811017, -16493360342799, 28706851712910}},
		{"along z", api.Vec{0, 0, 7005208482886}, 0,
			api.Vec{-394657778385, 2233015681255, -63110648020392}},
		{"along z, at the last tick", api.Vec{0, 0, 7005208482886}, last,
			api.Vec{-16509887855, 2312194502039, -63156821187128}},
		{"along -z", api.Vec{0, 0, -7005208482886}, 0,
			api.Vec{-6931990387826, -16877535929084, -57074329183900}},
		{"along -z, at the last tick", api.Vec{0, 0, -7005208482886}, last,
			api.Vec{-7152681011869, -16776337155310, -56751117016728}},
		{"x above 0, y above 0, z above 0", api.Vec{4987654321098, 3456789012345, 4004004004004}, 0,
			api.Vec{-39567077114349, -30783776494483, 4452698332764}},
		{"x below 0, y above 0, z above 0", api.Vec{-4987554321099, 3456866790122, 4004059559559}, 1,
			api.Vec{31586779789063, -28156245432413, 534315858617}},
		{"x above 0, y below 0, z above 0", api.Vec{4987454321100, -3456944567899, 4004115115114}, day,
			api.Vec{-36142335100930, 27884157479815, 4293642690861}},
		{"x below 0, y below 0, z above 0", api.Vec{-4987354321101, -3457022345676, 4004170670669}, 21600000,
			api.Vec{34834000152430, 18758156428022, 3076887300577}},
		{"x above 0, y above 0, z below 0", api.Vec{4987254321102, 3457100123453, -4004226226224}, 31557600000,
			api.Vec{24658450313388, 10425727168562, -4592769539185}},
		{"x below 0, y above 0, z below 0", api.Vec{-4987154321103, 3457177901230, -4004281781779}, last / 2,
			api.Vec{-21417875864368, 25796529736809, -5539386380719}},
		{"x above 0, y below 0, z below 0", api.Vec{4987054321104, -3457255679007, -4004337337334}, last - 1,
			api.Vec{21452369359396, -25851299261053, -5555987893736}},
		{"x below 0, y below 0, z below 0", api.Vec{-4986954321105, -3457333456784, -4004392892889}, last,
			api.Vec{-18533856948412, -11637573863930, 7677317074997}},
		{"a sine above 1", api.Vec{7005208482886, 2335069494295, -1401041696578}, 40355338,
			api.Vec{5076776052401, -1139538712400, 21092340943917}},
		{"a cosine above 1", api.Vec{7005208482886, -2335069494296, 1401041696577}, 5188659751,
			api.Vec{-6113102381224, -1919812711321, 26299083404101}},
		{"a sine below -1", api.Vec{-7005208482886, 2335069494295, 1401041696577}, 5253282815,
			api.Vec{19078401180408, -9481742984962, 21687684750810}},
		{"a cosine below -1", api.Vec{-7005208482886, -2335069494296, -1401041696578}, 61896356,
			api.Vec{-21550893637537, -5809237587400, 15355163472844}},
		{"just 6", api.Vec{0, 0, 6597069766656}, last,
			api.Vec{67079084522, 3525408671265, -74472778611812}},
		{"just 10", api.Vec{0, 0, -10995116277760}, 0,
			api.Vec{-1740635434687, -2528110152686, -15081983623492}},
		{"the axis", api.Vec{0, 0, 7005208482886}, 12345678,
			api.Vec{-1994773035531, 1078424377953, -63110651633577}},
		{"below a meter from the axis", api.Vec{524288, -524288, 7005208482886}, 12345678,
			api.Vec{-1994782478667, 1078429050101, -63110649971439}},
		{"above a meter from the axis", api.Vec{1048576, -1048576, 7005208482886}, 12345678,
			api.Vec{-1994789460156, 1078438016520, -63110648261030}},
	}
}

// call: one of the calls that take a place.
type call struct {
	name    string
	work    func(*fixed.Flow, api.Vec, int64) api.Vec
	samples []sample
}

func calls() []call {
	return []call{
		{"Earth", field.Earth, earthSamples()},
		{"Sky", field.Sky, skySamples()},
	}
}

// wrongTicks: ticks that aren't right, some of which are so in their lower 32 bits.
func wrongTicks() []int64 {
	return []int64{
		-1, -2, -day, -last, last + 1, last + 2, last + day, 2 * last,
		1 << 40, 1 << 61, most, most + 1, -most, -most - 1,
		math.MaxInt64, math.MaxInt64 - 1, math.MinInt64, math.MinInt64 + 1,
	}
}

// wrongDegrees: degrees and orders of which the model has nothing, some of which it has in their lower 32 bits.
func wrongDegrees() [][2]int {
	all := [][2]int{
		{0, 0}, {0, 1}, {0, -1}, {-1, 0}, {-1, -1}, {-2, 1}, {-6, 0},
		{1, -1}, {1, 2}, {2, -1}, {2, 3}, {3, -1}, {3, 4}, {4, -1}, {4, 5}, {5, -1}, {5, 6}, {6, -1}, {6, 7}, {6, -6},
		{7, 0}, {7, 1}, {7, 7}, {7, -1}, {7, 8}, {8, 0}, {8, 8}, {27, 0}, {100, 50},
		{1<<32 + 1, 0}, {1<<32 + 6, 6}, {1, 1 << 32}, {6, 1<<32 + 6}, {6, -1 << 32}, {1 << 32, 1 << 32}, {3037000500, 0},
	}
	for _, strange := range []int{math.MinInt, math.MinInt + 1, math.MaxInt, math.MaxInt - 1, math.MaxInt32, math.MinInt32} {
		for _, plain := range []int{-1, 0, 1, 6, 7} {
			all = append(all, [2]int{strange, plain}, [2]int{plain, strange})
		}
		all = append(all, [2]int{strange, strange}, [2]int{strange, -strange}, [2]int{strange, strange - 1})
	}
	return all
}

func TestLimits(t *testing.T) {
	if api.One != one || api.Most != most || api.MaxTick != last {
		t.Error(api.One, api.Most, api.MaxTick)
	}
}

func TestNumber(t *testing.T) {
	f := &fixed.Flow{}
	for _, s := range numbers() {
		if g, h := field.Number(f, s.n, s.m, s.tick); g != s.g || h != s.h || f.Bad {
			t.Errorf("Number(%d, %d, %d): %d, %d, bad %v; want %d, %d", s.n, s.m, s.tick, g, h, f.Bad, s.g, s.h)
		}
	}
}

// All degrees and orders of the model are among the numbers, at tick 0.
func TestNumbersAreWhole(t *testing.T) {
	met := map[[2]int]int{}
	for _, s := range numbers() {
		if s.tick == 0 {
			met[[2]int{s.n, s.m}]++
		}
	}
	for n := 1; n <= 6; n++ {
		for m := 0; m <= n; m++ {
			if met[[2]int{n, m}] != 1 {
				t.Errorf("%d, %d: met %d times", n, m, met[[2]int{n, m}])
			}
		}
	}
	if len(met) != 27 {
		t.Error(len(met))
	}
}

// From degree 3 on the years don't tell.
func TestNumberStaysFromDegreeThreeOn(t *testing.T) {
	for _, s := range numbers() {
		if s.n < 3 {
			continue
		}
		for _, tick := range []int64{1, day, 1 << 32, last / 2, last - 1, last} {
			f := &fixed.Flow{}
			if g, h := field.Number(f, s.n, s.m, tick); g != s.g || h != s.h || f.Bad {
				t.Errorf("Number(%d, %d, %d): %d, %d, bad %v; want %d, %d", s.n, s.m, tick, g, h, f.Bad, s.g, s.h)
			}
		}
	}
}

// badNumber asks for a flow that goes bad at Number, and stays so.
func badNumber(t *testing.T, n, m int, tick int64) {
	t.Helper()
	f := &fixed.Flow{}
	if g, h := field.Number(f, n, m, tick); g != 0 || h != 0 || !f.Bad {
		t.Errorf("Number(%d, %d, %d): %d, %d, bad %v", n, m, tick, g, h, f.Bad)
	}
	if g, h := field.Number(f, 1, 1, 0); g != 0 || h != 0 || !f.Bad {
		t.Errorf("behind Number(%d, %d, %d): %d, %d, bad %v", n, m, tick, g, h, f.Bad)
	}
}

func TestNumberOfWrongDegrees(t *testing.T) {
	for _, d := range wrongDegrees() {
		for _, tick := range []int64{0, day, last, last + 1, -1} {
			badNumber(t, d[0], d[1], tick)
		}
	}
}

func TestNumberAtWrongTicks(t *testing.T) {
	for _, tick := range wrongTicks() {
		for n := 1; n <= 6; n++ {
			for m := 0; m <= n; m++ {
				badNumber(t, n, m, tick)
			}
		}
	}
}

func TestSamples(t *testing.T) {
	for _, c := range calls() {
		for _, s := range c.samples {
			f := &fixed.Flow{}
			if got := c.work(f, s.place, s.tick); got != s.want || f.Bad {
				t.Errorf("%s, %s: %v, bad %v; want %v", c.name, s.name, got, f.Bad, s.want)
			}
		}
	}
}

// badField asks for a flow that goes bad at a place and a tick, and stays so.
func badField(t *testing.T, c call, name string, place api.Vec, tick int64) {
	t.Helper()
	f := &fixed.Flow{}
	if got := c.work(f, place, tick); got != (api.Vec{}) || !f.Bad {
		t.Errorf("%s, %s: of %v at %d: %v, bad %v", c.name, name, place, tick, got, f.Bad)
	}
	if got := c.work(f, api.Vec{7 * one}, 0); got != (api.Vec{}) || !f.Bad {
		t.Errorf("%s, behind %s: %v, bad %v", c.name, name, got, f.Bad)
	}
}

func TestFieldsAtWrongTicks(t *testing.T) {
	for _, c := range calls() {
		for _, tick := range wrongTicks() {
			for _, s := range c.samples {
				badField(t, c, "a wrong tick", s.place, tick)
			}
			badField(t, c, "a wrong tick and place", api.Vec{one}, tick)
		}
	}
}

// spot: a place at which no field is told.
type spot struct {
	name  string
	place api.Vec
}

// wrongPlaces: of Earth.
func wrongPlaces() []spot {
	return []spot{
		{"the middle", api.Vec{}},
		{"one beside the middle", api.Vec{1}},
		{"in the Earth", api.Vec{-5 * one}},
		{"just below 6 along x", api.Vec{6*one - 1}},
		{"just below 6 along -x", api.Vec{1 - 6*one}},
		{"just below 6 along y", api.Vec{0, 6*one - 1}},
		{"just below 6 along -y", api.Vec{0, 1 - 6*one}},
		{"just below 6 along z", api.Vec{0, 0, 6*one - 1}},
		{"just below 6 along -z", api.Vec{0, 0, 1 - 6*one}},
		{"slanting, cut to below 6", api.Vec{3298534895673, -4398046456783, 3646667576313}},
		{"slanting to the south, cut to below 6", api.Vec{3298534895673, -4398046456783, -3646667576313}},
		{"just above 10 along x", api.Vec{10*one + 1}},
		{"just above 10 along -x", api.Vec{-1 - 10*one}},
		{"just above 10 along y", api.Vec{0, 10*one + 1}},
		{"just above 10 along -y", api.Vec{0, -1 - 10*one}},
		{"just above 10 along z", api.Vec{0, 0, 10*one + 1}},
		{"just above 10 along -z", api.Vec{0, 0, -1 - 10*one}},
		{"slanting, above 10", api.Vec{-7696581493197, 2199023198763, 7537871864881}},
		{"slanting to the south, above 10", api.Vec{-7696581493197, 2199023198763, -7537871864881}},
		{"out with the moon", api.Vec{0, 385 * one, 0}},
		// In 64 bits the squares of these wrap round.
		{"far, along x", api.Vec{1 << 60}},
		{"far, all along", api.Vec{1 << 52, -1 << 52, 1 << 52}},
		{"as far as numbers go", api.Vec{0, 0, -most}},
		{"the Norm just cut to a number", api.Vec{most, 3037000499}},
		{"the Norm just no number", api.Vec{most, 3037000500}},
		{"the Norm no number by z", api.Vec{7 * one, 0, most}},
		{"the Norm no number", api.Vec{most, most, most}},
	}
}

// wrongTurns: of Sky; those that are so at tick 0, and at others, too.
func wrongTurns() []spot {
	return []spot{
		{"the middle", api.Vec{}},
		{"in the Earth", api.Vec{3 * one, 4 * one, one}},
		{"just below 6 along z", api.Vec{0, 0, 6*one - 1}},
		{"just below 6 along -z", api.Vec{0, 0, 1 - 6*one}},
		{"just above 10 along z", api.Vec{0, 0, 10*one + 1}},
		{"just above 10 along -z", api.Vec{0, 0, -1 - 10*one}},
		{"out with the moon", api.Vec{0, 385 * one, 0}},
		{"as far as numbers go, along x", api.Vec{most}},
		{"as far as numbers go, along -y", api.Vec{0, -most}},
		{"as far as numbers go, along z", api.Vec{0, 0, most}},
		// The sum or the difference leaves the numbers, wherever the Earth has turned, but at the very quarters; there the Norm does.
		{"a sum, both above 0", api.Vec{most, most, 7 * one}},
		{"a sum, x below 0", api.Vec{-most, most, 7 * one}},
		{"a sum, y below 0", api.Vec{most, -most, 7 * one}},
		{"a sum, both below 0", api.Vec{-most, -most, 7 * one}},
	}
}

func TestWrongPlaces(t *testing.T) {
	earth, sky := calls()[0], calls()[1]
	for _, tick := range []int64{0, 1, 12345678, day, last / 2, last} {
		for _, s := range wrongPlaces() {
			badField(t, earth, s.name, s.place, tick)
		}
		for _, s := range wrongTurns() {
			badField(t, sky, s.name, s.place, tick)
		}
	}
}

// At these ticks a sine or a cosine of the Earth's turn is one unit more than 1: a product leaves the numbers.
func TestSkyWhereAProductIsNoNumber(t *testing.T) {
	sky := calls()[1]
	for _, tick := range []int64{40355338, 5188659751, 5253282815, 61896356} {
		for _, place := range []api.Vec{{most}, {-most}, {0, most}, {0, -most}, {most, 7 * one}, {7 * one, -most, one}} {
			badField(t, sky, "a product", place, tick)
		}
	}
}

// One part is no number: it is used, whatever the others are.
func TestPartsThatAreNoNumbers(t *testing.T) {
	for _, c := range calls() {
		for _, a := range []int64{most + 1, -most - 1, math.MaxInt64, math.MaxInt64 - 1, math.MinInt64, math.MinInt64 + 1} {
			for _, place := range []api.Vec{{}, {7 * one}, {0, 7 * one}, {0, 0, 7 * one}, {4 * one, 4 * one, 4 * one}, {a, a, a}} {
				for i := range place {
					strange := place
					strange[i] = a
					badField(t, c, "a part that is no number", strange, 0)
					badField(t, c, "a part that is no number", strange, last/3)
				}
			}
		}
	}
}

func TestBadAheadAndNil(t *testing.T) {
	for _, s := range numbers() {
		for _, tick := range append(wrongTicks(), s.tick) {
			f := &fixed.Flow{Bad: true}
			if g, h := field.Number(f, s.n, s.m, tick); g != 0 || h != 0 || !f.Bad {
				t.Errorf("Number(%d, %d, %d) in a bad flow: %d, %d, bad %v", s.n, s.m, tick, g, h, f.Bad)
			}
			if g, h := field.Number(nil, s.n, s.m, tick); g != 0 || h != 0 {
				t.Errorf("Number(%d, %d, %d) in no flow: %d, %d", s.n, s.m, tick, g, h)
			}
		}
	}
	for _, d := range wrongDegrees() {
		f := &fixed.Flow{Bad: true}
		if g, h := field.Number(f, d[0], d[1], 0); g != 0 || h != 0 || !f.Bad {
			t.Errorf("Number(%d, %d, 0) in a bad flow: %d, %d, bad %v", d[0], d[1], g, h, f.Bad)
		}
		if g, h := field.Number(nil, d[0], d[1], 0); g != 0 || h != 0 {
			t.Errorf("Number(%d, %d, 0) in no flow: %d, %d", d[0], d[1], g, h)
		}
	}
	for _, c := range calls() {
		for _, s := range c.samples {
			badAheadOrNil(t, c, s.place, s.tick)
		}
		for _, s := range append(wrongPlaces(), wrongTurns()...) {
			badAheadOrNil(t, c, s.place, 0)
		}
		for _, tick := range wrongTicks() {
			badAheadOrNil(t, c, api.Vec{7 * one}, tick)
		}
		badAheadOrNil(t, c, api.Vec{math.MinInt64, math.MaxInt64, math.MinInt64}, 0)
	}
}

func badAheadOrNil(t *testing.T, c call, place api.Vec, tick int64) {
	t.Helper()
	f := &fixed.Flow{Bad: true}
	if got := c.work(f, place, tick); got != (api.Vec{}) || !f.Bad {
		t.Errorf("%s(%v, %d) in a bad flow: %v, bad %v", c.name, place, tick, got, f.Bad)
	}
	if got := c.work(nil, place, tick); got != (api.Vec{}) {
		t.Errorf("%s(%v, %d) in no flow: %v", c.name, place, tick, got)
	}
}

// One flow that is good goes through all calls that are, twice, and each answers as it does alone.
func TestOneFlowForAll(t *testing.T) {
	f := &fixed.Flow{}
	for range 2 {
		for _, c := range calls() {
			for _, s := range c.samples {
				if got := c.work(f, s.place, s.tick); got != s.want || f.Bad {
					t.Fatalf("%s, %s: %v, bad %v", c.name, s.name, got, f.Bad)
				}
			}
		}
		for _, s := range numbers() {
			if g, h := field.Number(f, s.n, s.m, s.tick); g != s.g || h != s.h || f.Bad {
				t.Fatalf("Number(%d, %d, %d): %d, %d, bad %v", s.n, s.m, s.tick, g, h, f.Bad)
			}
		}
	}
}

// Calls that go on beside each other don't tell on each other: nothing is kept.
func TestCallsBesideEachOther(t *testing.T) {
	done := make(chan string)
	for range 4 {
		go func() {
			wrong := ""
			for _, c := range calls() {
				for _, s := range c.samples {
					if c.work(&fixed.Flow{}, s.place, s.tick) != s.want {
						wrong = c.name + ", " + s.name
					}
				}
			}
			done <- wrong
		}()
	}
	for range 4 {
		if wrong := <-done; wrong != "" {
			t.Error(wrong)
		}
	}
}
