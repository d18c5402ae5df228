package crew

import (
	"iter"

	"sastrugi/api"
	"sastrugi/choose"
)

// none stands for no driver.
const none = -1

// work is hauls that have to be done, and drivers for them.
type work struct {
	rules   api.Rules
	drivers []api.Driver
	hauls   []api.Haul
}

// assign returns which driver does which haul, and how many hauls are done.
func (w work) assign() (who []int, done int) {
	return choose.Best(choose.Lists(len(w.hauls), w.follow), given, len(w.hauls))
}

// follow hands out the drivers who may do the haul behind those of a list, then none. (Who may not do some hauls may not do more of them, so no choice is missed.)
func (w work) follow(list []int) iter.Seq[int] {
	return func(yield func(int) bool) {
		next := len(list)
		choice := make([]int, next+1)
		copy(choice, list)
		for who, d := range w.drivers {
			choice[next] = who
			if (driver{d}).mayDo(w.rules, w.of(choice, who)) && !yield(who) {
				return
			}
		}
		yield(none)
	}
}

// of returns the hauls of a driver in a choice, which is one of the drivers for each of the first hauls.
func (w work) of(choice []int, who int) []api.Haul {
	var hauls []api.Haul
	for i, n := range choice {
		if n == who {
			hauls = append(hauls, w.hauls[i])
		}
	}
	return hauls
}

// mayDo tells whether a driver may do some hauls.
func (d driver) mayDo(u api.Rules, hauls []api.Haul) bool {
	for _, h := range hauls {
		more, e := d.with(h.From, h.Long)
		if e != api.OK || h.Skills&^d.Skills != 0 {
			return false
		}
		d = more
	}
	return keep(u, d.worst)
}

// given returns how many hauls of a choice have a driver.
func given(choice []int) int {
	n := 0
	for _, who := range choice {
		if who != none {
			n++
		}
	}
	return n
}
