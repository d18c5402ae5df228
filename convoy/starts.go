package convoy

import (
	"iter"
	"slices"

	"sastrugi/api"
)

// release returns the first minute of a window in which a truck may start so that it meets no other one, and whether there is one. Its path is given as if it started in the minute 0.
func (r rule) release(others []paths, next path, window api.Span) (int, bool) {
	taken := make([]bool, window.Hi-window.Lo+1)
	for _, x := range others {
		for _, p := range x {
			p.take(taken, window, next, r.near)
		}
	}
	i := slices.Index(taken, false)
	return window.Lo + i, i >= 0
}

// take marks the minutes of a window as taken in which another truck must not start, since it may come too near this one.
func (p path) take(taken []bool, window api.Span, next path, near func(x, y api.Span) bool) {
	for i, s := range p.spots {
		if none(s.lane) {
			continue
		}
		minute := p.start + i
		earliest := max(window.Lo, minute-len(next.spots)+1)
		for start := earliest; start <= min(window.Hi, minute); start++ {
			if near(s.lane, next.spots[minute-start].lane) {
				taken[start-window.Lo] = true
			}
		}
	}
}

// choices are the paths of each truck with each start that it may be given.
type choices [][]paths

// allChoices returns the choices of the trucks of a convoy.
func allChoices(c api.Convoy, starts []int) choices {
	var list choices
	for _, x := range c.Trucks {
		var of []paths
		for _, start := range starts {
			x.Start = start
			of = append(of, pathsOf(c, x))
		}
		list = append(list, of)
	}
	return list
}

// lists hands out all lists of places, one for each truck, in lexicographic order. (It is always the same slice, with other places.)
func (c choices) lists() iter.Seq[[]int] {
	return func(yield func([]int) bool) {
		list := make([]int, len(c))
	next:
		for yield(list) {
			for i := len(list) - 1; i >= 0; i-- {
				if list[i]+1 < len(c[i]) {
					list[i]++
					clear(list[i+1:])
					continue next
				}
			}
			return
		}
	}
}

// pick returns the paths of the trucks with a list.
func (c choices) pick(list []int) []paths {
	var trucks []paths
	for i, place := range list {
		trucks = append(trucks, c[i][place])
	}
	return trucks
}

// best returns the first list with which no two trucks meet and the last one is off the earliest; nil if there is none.
func (r rule) best(c choices) []int {
	var best []int
	least, apart := 0, r.apart(c)
	for list := range c.lists() {
		last := latest(c.pick(list))
		if (best == nil || last < least) && apart(list) {
			best, least = slices.Clone(list), last
		}
	}
	return best
}

// pair is two trucks, each with the place of its start.
type pair struct{ first, place, second, other int }

// apart returns a function that tells whether no two trucks meet with a list. What it finds of a pair it keeps, since the pair is in many lists.
func (r rule) apart(c choices) func(list []int) bool {
	known := map[pair]bool{}
	meet := func(p pair) bool {
		met, ok := known[p]
		if !ok {
			_, met = r.first([]paths{c[p.first][p.place], c[p.second][p.other]})
			known[p] = met
		}
		return met
	}
	return func(list []int) bool {
		for i := range list {
			for j := i + 1; j < len(list); j++ {
				if meet(pair{i, list[i], j, list[j]}) {
					return false
				}
			}
		}
		return true
	}
}
