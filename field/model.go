package field

import (
	"alidade/api"
	"alidade/clock"
	"alidade/fixed"
)

// The model's greatest degree.
const degrees = 6

// A year of 365.25 days.
const year int64 = 401596622045184

// So many tenths of a nanotesla are a microtesla.
const tenths int64 = 10000

// atZero: g and h at tick 0, in tenths of a nanotesla, degree by degree from 1 on, and in each by orders from 0 on.
var atZero = [27][2]int64{
	{-293500, 0}, {-14103, 45455},
	{-25562, 0}, {29509, -31336}, {16487, -8142},
	{13609, 0}, {-24042, -569}, {12438, 2376}, {4534, -5496},
	{8947, 0}, {7996, 2786}, {558, -1340}, {-2811, 2120}, {120, -3754},
	{-2329, 0}, {3690, 453}, {1872, 2200}, {-1387, -1229}, {-1419, 429}, {209, 1062},
	{643, 0}, {638, -184}, {767, 168}, {-1157, 489}, {-409, -598}, {149, 109}, {-608, 728},
}

// inYear: what comes to the first ones of atZero in a year.
var inYear = [5][2]int64{
	{126, 0}, {100, -215},
	{-112, 0}, {-53, -273}, {-83, -111},
}

// Number: g and h of a degree and an order at a tick, in microteslas; the flow goes bad where the model has none.
func Number(f *fixed.Flow, n, m int, tick int64) (int64, int64) {
	if n < 1 || n > degrees || m < 0 || m > n || !clock.Right(tick) {
		f.Fail()
		return 0, 0
	}
	row := n*(n+1)/2 - 1 + m
	g, h := microteslas(f, atZero[row][0]), microteslas(f, atZero[row][1])
	if row < len(inYear) {
		y := f.Div(clock.Days(f, tick), year)
		g = f.Add(g, f.Mul(y, microteslas(f, inYear[row][0])))
		h = f.Add(h, f.Mul(y, microteslas(f, inYear[row][1])))
	}
	return g, h
}

func microteslas(f *fixed.Flow, count int64) int64 {
	return f.Part(api.One, count, tenths)
}
