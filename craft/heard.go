package craft

import (
	"alidade/api"
	"alidade/frame"
	"alidade/orders"
	"alidade/sensor"
)

// Where counting what is rejected ends: it is told in two bytes.
const mostRejects = 1<<16 - 1

// heard: what sensors and the ground said in a step. A reading that isn't there is the zero value, an order 0.
type heard struct {
	gyro, sun, mag api.Reading
	order          int
}

// there tells whether a sensor was heard: no sensor's kind is 0.
func there(r api.Reading) bool {
	return r.Kind != 0
}

// take answers the craft once it took the frames among the bytes, and what was heard by them.
func take(c api.Craft, tick int64, bytes string) (api.Craft, heard) {
	found, left, over := frame.Scan(c.Left + bytes)
	c.Left = left
	if over > 0 {
		c.Rejects = rejected(c.Rejects)
	}
	var in heard
	for _, x := range found {
		switch x.Kind {
		case api.KindGyro, api.KindSun, api.KindMag:
			c, in = hearSensor(c, in, x, tick)
		case api.KindOrder:
			c, in = hearGround(c, in, x)
		default:
			c.Rejects = rejected(c.Rejects)
		}
	}
	return c, in
}

// hearSensor takes a sensor's frame. One that is rejected leaves the reading that there is.
func hearSensor(c api.Craft, in heard, x api.Frame, tick int64) (api.Craft, heard) {
	r, ok := sensor.Read(x)
	if !ok || !sensor.Fresh(r, tick) {
		c.Rejects = rejected(c.Rejects)
		return c, in
	}
	switch r.Kind {
	case api.KindGyro:
		in.gyro = r
	case api.KindSun:
		in.sun = r
	case api.KindMag:
		in.mag = r
	}
	return c, in
}

// hearGround takes an order. One with which something is wrong is acknowledged, too, so that the ground hears of it.
func hearGround(c api.Craft, in heard, x api.Frame) (api.Craft, heard) {
	o, wrong := orders.Read(x)
	c.Ack, c.Err = o.Seq, wrong
	if wrong != 0 {
		c.Rejects = rejected(c.Rejects)
		return c, in
	}
	switch o.Code {
	case api.OrderSafe, api.OrderWake:
		in.order = o.Code
	case api.OrderOrbit:
		c.Orbit, c.Placed = o.Orbit, true
	case api.OrderClear:
		c.Rejects, c.Plan.Faults = 0, 0
	}
	return c, in
}

// rejected answers a count of rejects and one more.
func rejected(n int) int {
	if n >= mostRejects {
		return mostRejects
	}
	return n + 1
}
