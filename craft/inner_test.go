package craft

import (
	"math"
	"testing"

	"alidade/api"
	"alidade/filter"
)

// No step comes to a way to Fine in which the flow goes bad, as Pair asks ahead of it whether sun and field stand apart: so it is asked here.
func TestAWayToFineOnWhichTheFlowGoesBad(t *testing.T) {
	x, y, z := api.Vec{api.One}, api.Vec{0, api.One}, api.Vec{0, 0, api.One}
	went := api.Plan{Mode: api.Fine, Faults: api.FaultGap}
	for name, views := range map[string][2][2]api.Vec{
		"one direction of the sky":  {{x, x}, {x, y}},
		"one direction of the body": {{x, y}, {z, api.Vec{0, 0, -api.One}}},
		"no direction":              {{x, y}, {api.Vec{}, y}},
		"no number":                 {{x, api.Vec{math.MaxInt64}}, {x, y}},
	} {
		p, g := entered(went, views[0], views[1])
		if p != (api.Plan{Mode: api.Coarse, Faults: api.FaultGap | api.FaultFilter}) || g != (api.Guess{}) {
			t.Errorf("%s: %+v, %+v", name, p, g)
		}
	}
	p, g := entered(went, [2]api.Vec{x, y}, [2]api.Vec{x, y})
	if p != went || g != filter.Start(api.Quat{0, 0, 0, api.One}) {
		t.Errorf("apart: %+v, %+v", p, g)
	}
}
