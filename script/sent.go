package script

import (
	"alidade/api"
	"alidade/frame"
	"alidade/orders"
	"alidade/sensor"
)

// raw answers the bytes that a line tells one by one.
func raw(rest []string) (string, bool) {
	if len(rest) != 1 {
		return "", false
	}
	return bytesOf(rest[0])
}

// reading answers the bytes of a sensor's frame, of its tick and counts.
func reading(kind int, rest []string) (string, bool) {
	many := 3
	if kind == api.KindSun {
		many = 6
	}
	n, ok := numbersOf(rest, 1+many)
	if !ok {
		return "", false
	}
	var counts [6]int
	for i, c := range n[1:] {
		counts[i] = int(c)
	}
	return wrapped(sensor.Write(kind, n[0], counts))
}

// order answers the bytes of an order without elements.
func order(rest []string) (string, bool) {
	n, ok := numbersOf(rest, 2)
	if !ok || n[1] == api.OrderOrbit {
		return "", false
	}
	return wrapped(orders.Write(api.Order{Seq: int(n[0]), Code: int(n[1])}))
}

// elements answers the bytes of an order that says where the body is.
func elements(rest []string) (string, bool) {
	n, ok := numbersOf(rest, 8)
	if !ok {
		return "", false
	}
	return wrapped(orders.Write(api.Order{
		Seq:   int(n[0]),
		Code:  api.OrderOrbit,
		Orbit: api.Orbit{A: n[1], E: n[2], I: n[3], Node: n[4], Peri: n[5], M: n[6], At: n[7]},
	}))
}

// wrapped answers the bytes of a frame that could be written.
func wrapped(x api.Frame, ok bool) (string, bool) {
	if !ok {
		return "", false
	}
	return frame.Wrap(x)
}
