package convoy

import (
	"slices"

	"sastrugi/api"
)

// What a truck does: what it is told, or it fails.
const (
	told   = 0
	failed = 1
)

// paths are the paths that a truck may go: that of one that does what it is told, and, if any truck may fail, that of one that fails.
type paths []path

// pathsOf returns the paths of a truck of a convoy.
func pathsOf(c api.Convoy, truck api.Truck) paths {
	x := trip{truck, c.Length}
	if c.Fails == 0 {
		return paths{told: x.path()}
	}
	return paths{told: x.path(), failed: x.failing().path()}
}

// allPaths returns the paths of each truck of a convoy.
func allPaths(c api.Convoy) []paths {
	var list []paths
	for _, x := range c.Trucks {
		list = append(list, pathsOf(c, x))
	}
	return list
}

// earliest returns the first minute in which the truck may be off. One that fails is never behind one that does what it is told.
func (x paths) earliest() int { return x[len(x)-1].off.Lo }

// latest returns the greatest minute in which the last truck is off; 0 if there are none.
func latest(trucks []paths) int {
	last := 0
	for _, x := range trucks {
		last = max(last, x[told].off.Hi)
	}
	return last
}

// lastOff returns between which minutes the last truck of a convoy is off: at the latest none fails, and at the earliest those fail that would be off last.
func lastOff(c api.Convoy) api.Span {
	trucks := allPaths(c)
	off := api.Span{Hi: latest(trucks)}
	var early []int
	for _, x := range trucks {
		off.Lo = max(off.Lo, x.earliest())
		early = append(early, x[told].off.Lo)
	}
	slices.Sort(early)
	if obey := len(early) - c.Fails; obey > 0 {
		off.Lo = max(off.Lo, early[obey-1])
	}
	return off
}

// caught returns the verdict on whether a truck is on the lane in a storm: Sure if there is a minute in which it surely is, Never if there is none in which it may be.
func (x paths) caught(storm api.Span) int {
	verdict := api.Never
	for minute := storm.Lo; minute <= storm.Hi; minute++ {
		switch x.verdict(minute) {
		case api.Sure:
			return api.Sure
		case api.Open:
			verdict = api.Open
		}
	}
	return verdict
}

// verdict returns the verdict on whether a truck is on the lane in a minute, whichever path it goes.
func (x paths) verdict(minute int) int {
	verdict := x[told].at(minute).verdict()
	for _, p := range x {
		if p.at(minute).verdict() != verdict {
			return api.Open
		}
	}
	return verdict
}
