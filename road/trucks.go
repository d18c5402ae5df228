package road

import (
	"slices"

	"sastrugi/api"
	"sastrugi/bear"
	"sastrugi/check"
	"sastrugi/convoy"
	"sastrugi/crew"
	"sastrugi/probe"
)

// takeOut takes out the trucks that surely have arrived.
func (d *dispatcher) takeOut() {
	d.Trucks = slices.DeleteFunc(d.Trucks, func(x api.Rolling) bool { return d.arrival(x.Truck).Hi <= d.Minute })
}

// leaving is a truck that wants to go on now.
type leaving struct {
	api.Rolling
	need int      // how thick the ice has to be for it
	off  api.Span // its arrival
}

// letOn lets a truck on, or tells why it may not go now.
func (d *dispatcher) letOn(l line) (line, api.Errno) {
	x, e := d.weighed(l)
	if e != api.OK {
		return nil, e
	}
	if e := d.checkHours(x); e != api.OK {
		return nil, e
	}
	closures, e := d.shutFor(x)
	switch {
	case e != api.OK:
		return nil, e
	case len(closures) > 0:
		return gates(closures), api.OK
	}
	if e := d.checkRow(x); e != api.OK {
		return nil, e
	}
	start, e := d.release(x)
	switch {
	case e != api.OK:
		return nil, e
	case start != d.Minute:
		return say("later", start), api.OK
	}
	d.send(x)
	return say("go", len(d.Trucks)), api.OK
}

// weighed returns the truck of which a line says that it wants to go on. It returns an error if there is no such driver, if it may be too heavy, for what is allowed or for any ice, or if the road is full.
func (d *dispatcher) weighed(l line) (leaving, api.Errno) {
	asked, e := l.request()
	if e != api.OK {
		return leaving{}, e
	}
	driver, e := d.driver(asked.name)
	if e != api.OK {
		return leaving{}, e
	}
	weight, e := d.weigh(asked.readings)
	if e != api.OK {
		return leaving{}, e
	}
	need, e := d.need(weight)
	switch {
	case e != api.OK:
		return leaving{}, e
	case need > api.MaxIce:
		return leaving{}, api.ErrOver
	case len(d.Trucks) >= api.MaxTrucks:
		return leaving{}, api.ErrFull
	}
	truck := api.Truck{Way: asked.way, Start: d.Minute, Pace: d.region.Pace}
	return leaving{api.Rolling{Driver: driver, Weight: weight, Truck: truck}, need, d.arrival(truck)}, api.OK
}

// weigh returns the greatest weight that a truck may have, of which the axles have these readings, ErrOver unless it surely weighs no more than is allowed.
func (d *dispatcher) weigh(readings []int) (int, api.Errno) {
	verdict, total, e := crew.Pass(d.region.Scale, readings, d.region.Allow)
	switch {
	case e != api.OK:
		return 0, e
	case verdict != api.Sure:
		return 0, api.ErrOver
	}
	return total.Hi, api.OK
}

// checkHours returns ErrLate unless the driver surely may drive until the truck has arrived.
func (d *dispatcher) checkHours(x leaving) api.Errno {
	verdict, e := crew.May(d.region.Rules, d.Drivers[x.Driver], x.Truck.Start, x.off.Hi-x.Truck.Start)
	return check.First(e, check.Late(verdict == api.Sure))
}

// shutFor returns the places that are shut for a truck, in the first hour of its way in which there are any.
func (d *dispatcher) shutFor(x leaving) ([]api.Closure, api.Errno) {
	for h := d.now(); h <= hour(x.off.Hi); h++ {
		closures, e := probe.Close(d.region.Survey, d.Looks, d.Marks, x.need, h)
		if e != api.OK || len(closures) > 0 {
			return closures, e
		}
	}
	return nil, api.OK
}

// checkRow returns ErrOver unless the ice bears all trucks on their way, with one more, in a row that is as dense as may be: even if each of them weighs as much as the heaviest one, and the ice is as thin as it may have become when the last one arrives.
func (d *dispatcher) checkRow(x leaving) api.Errno {
	weight, last := x.Weight, x.off.Hi
	for _, other := range d.Trucks {
		weight = max(weight, other.Weight)
		last = max(last, d.arrival(other.Truck).Hi)
	}
	thick, e := probe.Least(d.region.Survey, d.Looks, 0, places(d.region)-1, hour(last))
	if e != api.OK {
		return e
	}
	row := slices.Repeat([]api.Span{{Lo: weight, Hi: weight}}, len(d.Trucks)+1)
	gap, e := bear.Gap(d.region.Plate, thick.Lo, row)
	if e != api.OK || 0 <= gap && gap <= d.region.Gap {
		return e
	}
	return api.ErrOver
}

// release returns the first minute, not long from now, in which a truck may be let on, ErrState if there is none.
func (d *dispatcher) release(x leaving) (int, api.Errno) {
	window := api.Span{Lo: d.Minute, Hi: min(d.Minute+api.MaxHold, api.MaxClock)}
	start, e := convoy.Release(d.rolling(), x.Truck.Way, x.Truck.Pace, window)
	if e == api.ErrMissing {
		return 0, api.ErrState
	}
	return start, e
}

// send writes down a truck that goes, and the turn of its driver.
func (d *dispatcher) send(x leaving) {
	d.Trucks = append(d.Trucks, x.Rolling)
	driver := &d.Drivers[x.Driver]
	driver.Turns = append(driver.Turns, api.Turn{From: api.Span{Lo: d.Minute, Hi: d.Minute}, To: x.off})
}
