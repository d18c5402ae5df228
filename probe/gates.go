package probe

import (
	"slices"
	"sort"

	"sastrugi/api"
	"sastrugi/check"
)

// unseen stands for the hour of a look that was never taken: it is before all hours that any place asks for.
const unseen = -api.MaxHour - 1

// Stale returns the places that are stale in an hour, as Spans.
func Stale(s api.Survey, l []api.Look, hour int) ([]api.Span, api.Errno) {
	if e := check.First(CheckLooks(s, l), checkHour(hour)); e != api.OK {
		return nil, e
	}
	r := lay(s)
	stale := r.stale(pastLooks(l, hour), hour)
	state := func(place int) int {
		if stale(place) {
			return api.ReasonStale
		}
		return none
	}
	return runs(r.long(), state, func(from, to, _ int) api.Span { return api.Span{Lo: from, Hi: to} }), api.OK
}

// pastLooks returns the looks up to an hour, in the order of their hours.
func pastLooks(l []api.Look, hour int) []api.Look {
	return past(l, hour, func(x api.Look) int { return x.Hour })
}

// stale tells whether a place is stale in an hour, as a function of the place. The looks are past ones, in the order of their hours.
func (r road) stale(l []api.Look, hour int) func(place int) bool {
	seen := slices.Repeat([]int{unseen}, r.long()) // the last hour in which a look saw each place
	for _, x := range l {
		s := both(sees(r.sight, x), api.Span{Lo: 0, Hi: r.long() - 1})
		for place := s.Lo; place <= s.Hi; place++ {
			seen[place] = x.Hour
		}
	}
	return func(place int) bool { return seen[place] < hour-r.of[place].Every }
}

// sees returns the places that a look sees, whether the road has them or not.
func sees(sight [3]int, x api.Look) api.Span {
	far := sight[x.Kind-1]
	return around(x.At, far, far)
}

// Plan returns the places at which to look in an hour, by looks of one kind, so that no place is stale; and stale places of which no look of that kind sees two, as a proof that fewer looks are not enough.
func Plan(s api.Survey, l []api.Look, hour, kind int) (places, proof []int, e api.Errno) {
	e = check.First(CheckLooks(s, l), checkHour(hour), check.Kind(kind, api.LookRadar))
	if e != api.OK {
		return nil, nil, e
	}
	r, far := lay(s), s.Sight[kind-1]
	stale, behind := r.stale(pastLooks(l, hour), hour), 0
	for place := range r.long() {
		if place < behind || !stale(place) {
			continue
		}
		// Some look has to see this place. The one that is farthest on sees all that any of them sees from here on.
		places = append(places, min(place+far, r.long()-1))
		proof = append(proof, place)
		behind = place + 2*far + 1
	}
	return places, proof, api.OK
}

// Close returns the places that are shut in an hour, as closures.
func Close(s api.Survey, l []api.Look, m []api.Mark, need, hour int) ([]api.Closure, api.Errno) {
	if e := checkGate(s, l, m, need, hour); e != api.OK {
		return nil, e
	}
	r := lay(s)
	gate := r.gate(pastLooks(l, hour), pastMarks(m, hour), need, hour)
	return runs(r.long(), gate, func(from, to, reason int) api.Closure {
		return api.Closure{From: from, To: to, Reason: reason}
	}), api.OK
}

// checkGate returns the first error of the arguments of Close.
func checkGate(s api.Survey, l []api.Look, m []api.Mark, need, hour int) api.Errno {
	return check.First(CheckLooks(s, l), CheckMarks(s, m), check.Number(need, 0, api.MaxIce), checkHour(hour))
}

// gate returns the reason for which a place is shut in an hour, none if it is open, as a function of the place. The looks and the marks are past ones, in the order of their hours.
func (r road) gate(l []api.Look, m []api.Mark, need, hour int) func(place int) int {
	known, covered, stale := r.bounds(l, hour), r.covered(m, hour), r.stale(l, hour)
	return func(place int) int {
		switch {
		case known(place).Lo < need:
			return api.ReasonThin
		case covered[place] != api.Never:
			return api.ReasonMark
		case stale(place):
			return api.ReasonStale
		}
		return none
	}
}

// Lasts returns the last hour up to which a place that is open in an hour stays open, if no looks and no marks follow; -1 if it is shut in that hour.
func Lasts(s api.Survey, l []api.Look, m []api.Mark, need, hour, place int) (int, api.Errno) {
	if e := checkGate(s, l, m, need, hour); e != api.OK {
		return 0, e
	}
	r := lay(s)
	if e := check.Index(place, r.long()); e != api.OK {
		return 0, e
	}
	looks, marks := pastLooks(l, hour), pastMarks(m, hour)
	shut := func(hour int) bool { return r.gate(looks, marks, need, hour)(place) != none }
	if shut(hour) {
		return -1, api.OK
	}
	// Without looks and mends to come, what is known to be there becomes less, marks spread, and looks become old: what is shut stays so.
	return hour + sort.Search(api.MaxHour-hour, func(i int) bool { return shut(hour + 1 + i) }), api.OK
}
