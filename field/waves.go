package field

import (
	"alidade/api"
	"alidade/fixed"
)

// rounds: by order, the cosine and the sine of so many times a longitude.
type rounds struct {
	cos, sin [degrees + 1]int64
}

// roundsOf answers the rounds of a longitude's cosine and sine.
func roundsOf(f *fixed.Flow, u, v int64) rounds {
	var its rounds
	its.cos[0] = api.One
	for m := 1; m <= degrees; m++ {
		c, s := its.cos[m-1], its.sin[m-1]
		its.cos[m] = f.Sub(f.Mul(c, u), f.Mul(s, v))
		its.sin[m] = f.Add(f.Mul(s, u), f.Mul(c, v))
	}
	return its
}

// shapes: by degree and order, how high the model's waves are at an angle from the north: p, its change d, and q, which is p without one sine, for dividing by that one fails above a pole. What is of a degree below its order isn't there: a map answers 0 for it.
type shapes struct {
	p, d, q map[[2]int]int64
}

// shapesOf answers the shapes of an angle's cosine and sine.
func shapesOf(f *fixed.Flow, c, s int64) shapes {
	its := shapes{
		p: map[[2]int]int64{{0, 0}: api.One, {1, 1}: s},
		d: map[[2]int]int64{{0, 0}: 0, {1, 1}: c},
		q: map[[2]int]int64{{1, 1}: api.One},
	}
	for n := 1; n <= degrees; n++ {
		for m := range n {
			its.workBelow(f, n, m, c, s)
		}
		if n > 1 {
			its.workEven(f, n, c, s)
		}
	}
	return its
}

// workBelow works the shapes of an order below its degree, by those of the two degrees ahead.
func (its shapes) workBelow(f *fixed.Flow, n, m int, c, s int64) {
	here, last, other := [2]int{n, m}, [2]int{n - 1, m}, [2]int{n - 2, m}
	k := rootOf(f, n, m)
	a := f.Div(rootOf(f, n-1, m), k)
	b := f.Div(f.Part(api.One, int64(2*n-1), 1), k)
	its.p[here] = f.Sub(f.Mul(b, f.Mul(c, its.p[last])), f.Mul(a, its.p[other]))
	change := f.Sub(f.Mul(c, its.d[last]), f.Mul(s, its.p[last]))
	its.d[here] = f.Sub(f.Mul(b, change), f.Mul(a, its.d[other]))
	if m > 0 {
		its.q[here] = f.Sub(f.Mul(b, f.Mul(c, its.q[last])), f.Mul(a, its.q[other]))
	}
}

// workEven works the shapes of an order that is its degree, above 1, by those of the one ahead.
func (its shapes) workEven(f *fixed.Flow, n int, c, s int64) {
	here, last := [2]int{n, n}, [2]int{n - 1, n - 1}
	j := f.Sqrt(f.Part(api.One, int64(2*n-1), int64(2*n)))
	its.p[here] = f.Mul(j, f.Mul(s, its.p[last]))
	its.d[here] = f.Mul(j, f.Add(f.Mul(s, its.d[last]), f.Mul(c, its.p[last])))
	its.q[here] = f.Mul(j, f.Mul(s, its.q[last]))
}

// rootOf answers the root of n n - m m.
func rootOf(f *fixed.Flow, n, m int) int64 {
	return f.Sqrt(int64(n*n-m*m) * api.One)
}
