package road

import (
	"slices"

	"sastrugi/api"
	"sastrugi/bear"
	"sastrugi/check"
	"sastrugi/convoy"
	"sastrugi/fuel"
	"sastrugi/probe"
)

// Places are 100 metres long, hours and days have so many minutes.
const (
	longPlace = 100
	longHour  = 60
	longDay   = api.MaxDay
)

// dispatcher is the desk of a region.
type dispatcher struct {
	api.Desk
	region api.Region
}

// begin returns the dispatcher of a region before the first line. The desk shares no memory with the region, not even behind the ends of its slices: what is written down later may go there.
func begin(r api.Region) dispatcher {
	d := dispatcher{region: r}
	for _, x := range r.Drivers {
		x.Turns = nil
		d.Drivers = append(d.Drivers, x)
	}
	d.Book = api.Book{Accounts: slices.Clone(r.Book.Accounts), Moves: slices.Clone(r.Book.Moves)}
	return d
}

// hour returns the hour of a minute.
func hour(minute int) int { return minute / longHour }

// now returns the hour that it is.
func (d *dispatcher) now() int { return hour(d.Minute) }

// later returns the minute so many minutes from now, ErrRange if the clock does not go so far.
func (d *dispatcher) later(minutes int) (int, api.Errno) {
	minute := d.Minute + minutes
	return minute, check.Number(minute, 0, api.MaxClock)
}

// find returns the number of the driver with a name, and whether there is one.
func find(drivers []api.Driver, name string) (int, bool) {
	i := slices.IndexFunc(drivers, func(x api.Driver) bool { return x.Name == name })
	return i, i >= 0
}

// driver returns the number of the driver with a name, ErrMissing if there is none.
func (d *dispatcher) driver(name string) (int, api.Errno) {
	i, _ := find(d.Drivers, name)
	return i, check.Index(i, len(d.Drivers))
}

// places returns how many places the road of a region has.
func places(r api.Region) int {
	long := 0
	for _, reach := range r.Survey.Reaches {
		long += reach.Long
	}
	return long
}

// convoyOf returns the convoy of trucks on the road of a region.
func convoyOf(r api.Region, trucks ...api.Truck) api.Convoy {
	return api.Convoy{Length: longPlace * places(r), Gap: r.Gap, Fails: r.Fails, Trucks: trucks}
}

// rolling returns the convoy of the trucks that are on their way.
func (d *dispatcher) rolling() api.Convoy {
	var trucks []api.Truck
	for _, x := range d.Trucks {
		trucks = append(trucks, x.Truck)
	}
	return convoyOf(d.region, trucks...)
}

// arrival returns between which minutes a truck is off that has the road alone.
func (d *dispatcher) arrival(x api.Truck) api.Span {
	// There is no error: the region has been checked with such a truck.
	off, _ := convoy.Off(convoyOf(d.region, x))
	return off
}

// need returns how thick the ice has to be for a weight.
func (d *dispatcher) need(weight int) (int, api.Errno) {
	return bear.Need(d.region.Plate, weight, 0)
}

// shut returns the places that are shut now, for a weight.
func (d *dispatcher) shut(weight int) ([]api.Closure, api.Errno) {
	need, e := d.need(weight)
	if e != api.OK {
		return nil, e
	}
	return probe.Close(d.region.Survey, d.Looks, d.Marks, need, d.now())
}

// lost returns the words that tell how many litres are missing from all accounts together.
func (d *dispatcher) lost() (line, api.Errno) {
	_, total, e := fuel.Losses(d.Book)
	return say("lost", total.Lo, total.Hi), e
}
