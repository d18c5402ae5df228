package road

import (
	"strings"

	"sastrugi/api"
	"sastrugi/crew"
	"sastrugi/rows"
)

// report returns the report on the desk, with the places that are shut for a weight.
func (d *dispatcher) report(weight int) (string, api.Errno) {
	closures, e := d.shut(weight)
	if e != api.OK {
		return "", e
	}
	drivers, e := d.drivers()
	if e != api.OK {
		return "", e
	}
	lost, e := d.lost()
	if e != api.OK {
		return "", e
	}
	list := []line{say("minute", d.Minute)}
	list = append(list, gateRows(closures)...)
	list = append(list, d.trucks()...)
	list = append(list, drivers...)
	list = append(list, lost, say("end"))
	var text strings.Builder
	for _, l := range list {
		text.WriteString(rows.Line(l))
	}
	return text.String(), api.OK
}

// gateRows returns a row for each part of the road that is shut, or one that says that it is open.
func gateRows(closures []api.Closure) []line {
	if len(closures) == 0 {
		return []line{say(wordOpen)}
	}
	var list []line
	for _, x := range closures {
		list = append(list, append(say(wordShut), gate(x)...))
	}
	return list
}

// trucks returns a row for each truck on its way.
func (d *dispatcher) trucks() []line {
	var list []line
	for _, x := range d.Trucks {
		list = append(list, append(line{"truck", wayWord(x.Truck.Way)}, say(d.Drivers[x.Driver].Name, x.Weight, x.Truck.Start)...))
	}
	return list
}

// drivers returns a row for each driver.
func (d *dispatcher) drivers() ([]line, api.Errno) {
	var list []line
	for _, x := range d.Drivers {
		verdict, _, _, e := crew.Legal(d.region.Rules, x)
		if e != api.OK {
			return nil, e
		}
		list = append(list, line{"driver", x.Name, tell(verdict)})
	}
	return list, api.OK
}
