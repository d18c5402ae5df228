package probe

import (
	"cmp"
	"slices"
)

// none is the state of places that runs leaves out.
const none = 0

// runs puts places together, ascending, that are one behind the other and have the same state: part makes one of all places from a first to a last one, as many as can be. Places with the state none are left out.
func runs[T any](long int, state func(place int) int, part func(from, to, state int) T) []T {
	var list []T
	from, now := 0, none
	end := func(behind int) {
		if now != none {
			list = append(list, part(from, behind-1, now))
		}
	}
	for place := range long {
		if next := state(place); next != now {
			end(place)
			from, now = place, next
		}
	}
	end(long)
	return list
}

// past returns the part of a list that is not behind an hour, in the order of hours; of one hour, in the order of the list.
func past[T any](list []T, hour int, of func(T) int) []T {
	var until []T
	for _, x := range list {
		if of(x) <= hour {
			until = append(until, x)
		}
	}
	slices.SortStableFunc(until, func(x, y T) int { return cmp.Compare(of(x), of(y)) })
	return until
}
