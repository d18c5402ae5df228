// Package frost is layer 1: see shared/doc/01-frost.md. It says how ice grows and melts, when it bears, and how much water may be pumped on it.
package frost

import (
	"iter"
	"sort"

	"sastrugi/api"
	"sastrugi/check"
)

// Step returns what is known after a day.
func Step(l api.Frost, x api.Ice, d api.Weather) (api.Ice, api.Errno) {
	if e := checkAll(l, x, []api.Weather{d}); e != api.OK {
		return api.Ice{}, e
	}
	return step(l, x, d), api.OK
}

// Run returns what is known after each day.
func Run(l api.Frost, x api.Ice, days []api.Weather) ([]api.Ice, api.Errno) {
	if e := checkAll(l, x, days); e != api.OK {
		return nil, e
	}
	var list []api.Ice
	for y := range after(l, x, days) {
		list = append(list, y)
	}
	return list, api.OK
}

// after hands out what is known after each day. (The numbers may leave the bounds of valid ice.)
func after(l api.Frost, x api.Ice, days []api.Weather) iter.Seq[api.Ice] {
	return func(yield func(api.Ice) bool) {
		for _, d := range days {
			x = step(l, x, d)
			if !yield(x) {
				return
			}
		}
	}
}

// last returns what is known after the last day.
func last(l api.Frost, x api.Ice, days []api.Weather) api.Ice {
	for y := range after(l, x, days) {
		x = y
	}
	return x
}

// Bearing returns the bearing thickness of ice, and whether it is sound.
func Bearing(l api.Frost, x api.Ice) (thick api.Span, sound int, e api.Errno) {
	if e := check.First(Check(l), CheckIce(x)); e != api.OK {
		return api.Span{}, 0, e
	}
	return bears(l, x), soundness(x), api.OK
}

func bears(l api.Frost, x api.Ice) api.Span {
	counts := shares(x.White, l.White)
	return api.Span{Lo: x.Black.Lo + counts.Lo, Hi: x.Black.Hi + counts.Hi}
}

func soundness(x api.Ice) int {
	switch {
	case x.Wet.Hi == 0:
		return api.Sure
	case x.Wet.Lo > 0:
		return api.Never
	}
	return api.Open
}

// Ready returns the number of the first day (from 1 on) after which the ice surely bears and is sound, and that of the first one after which it may be so; 0 if there is none.
func Ready(l api.Frost, x api.Ice, days []api.Weather, need int) (sure, perhaps int, e api.Errno) {
	list, e := Run(l, x, days)
	if e == api.OK {
		e = check.Number(need, 0, api.MaxThick)
	}
	if e != api.OK {
		return 0, 0, e
	}
	sure = first(list, func(y api.Ice) bool {
		return soundness(y) == api.Sure && bears(l, y).Lo >= need
	})
	perhaps = first(list, func(y api.Ice) bool {
		return soundness(y) != api.Never && bears(l, y).Hi >= need
	})
	return sure, perhaps, api.OK
}

// first returns the number (from 1 on) of the first one in a list that is good; 0 if none is.
func first[T any](list []T, good func(T) bool) int {
	for i, x := range list {
		if good(x) {
			return i + 1
		}
	}
	return 0
}

// Flood returns the greatest Water, up to most, with which the day at leaves no water on the ice for sure after the last day; -1 if there is none.
func Flood(l api.Frost, x api.Ice, days []api.Weather, at, most int) (int, api.Errno) {
	e := checkAll(l, x, days)
	if e == api.OK {
		e = check.First(check.Number(at, 1, len(days)), check.Number(most, 0, api.MaxWater))
	}
	if e != api.OK {
		return 0, e
	}
	before, day := last(l, x, days[:at-1]), days[at-1]
	dries := func(water int) bool {
		day.Water = water
		return last(l, step(l, before, day), days[at:]).Wet.Hi == 0
	}
	// More water never leaves less of it; but the first millimetre also takes the snow away, so that no water may leave more than some does.
	some := sort.Search(most, func(i int) bool { return !dries(i + 1) })
	if some > 0 || dries(0) {
		return some, api.OK
	}
	return -1, api.OK
}

// Core returns the ice that both x and a core of it allow.
func Core(x, core api.Ice) (api.Ice, api.Errno) {
	if e := check.First(CheckIce(x), CheckIce(core)); e != api.OK {
		return api.Ice{}, e
	}
	both := known(x)
	for i, s := range known(core) {
		both[i] = api.Span{Lo: max(both[i].Lo, s.Lo), Hi: min(both[i].Hi, s.Hi)}
		if both[i].Lo > both[i].Hi {
			return api.Ice{}, api.ErrClash
		}
	}
	return both.ice(), api.OK
}

// Index returns the span of the sum of the cold of all days.
func Index(days []api.Weather) (api.Span, api.Errno) {
	if e := checkDays(days); e != api.OK {
		return api.Span{}, e
	}
	var sum api.Span
	for _, d := range days {
		sum.Lo += d.Cold.Lo
		sum.Hi += d.Cold.Hi
	}
	return sum, api.OK
}
