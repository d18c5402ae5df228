package crew

import (
	"iter"
	"slices"

	"sastrugi/api"
	"sastrugi/check"
)

// The rules that a minute may break.
const (
	ruleDrive = 1 // they have driven for too long since their last rest
	ruleMost  = 2 // they have driven for too long in the Day minutes up to now
)

// driver is a driver of whose turns it is not known exactly from when to when they truly were.
type driver struct{ api.Driver }

// worst hands out the minutes in which somebody drives each of whose turns is as long as it may be. A minute that breaks a rule with fewer minutes does so with more of them: so if none breaks one here, none does whatever truly is.
func (d driver) worst(yield func(minute int) bool) {
	for _, t := range d.Turns {
		if !handOut(t.From.Lo, t.To.Hi, yield) {
			return
		}
	}
}

// best hands out the minutes in which somebody drives each of whose turns is as short as it may be. They drive in all of these whatever truly is: so if one breaks a rule here, it always does.
func (d driver) best(yield func(minute int) bool) {
	for _, t := range d.Turns {
		if !handOut(t.From.Hi, t.To.Lo, yield) {
			return
		}
	}
}

// handOut hands out the minutes from one on, up to another one that is none of them, and tells whether more are wanted.
func handOut(from, to int, yield func(minute int) bool) bool {
	for minute := from; minute < to; minute++ {
		if !yield(minute) {
			return false
		}
	}
	return true
}

// firstBreach returns which rule is broken first by somebody who drives in some minutes, and in which one; 0 and 0 if none is.
func firstBreach(u api.Rules, minutes iter.Seq[int]) (rule, minute int) {
	var driven []int
	since := 0 // how many of them are behind the last rest
	for now := range minutes {
		if n := len(driven); n > 0 && now-driven[n-1] > u.Rest {
			since = 0
		}
		since++
		driven = append(driven, now)
		before := len(driven) - 1 - u.Most // there are Most minutes behind this one, up to now
		switch {
		case since > u.Drive:
			return ruleDrive, now
		case before >= 0 && driven[before] > now-u.Day:
			return ruleMost, now
		}
	}
	return 0, 0
}

// keep tells whether somebody who drives in some minutes keeps to the rules.
func keep(u api.Rules, minutes iter.Seq[int]) bool {
	rule, _ := firstBreach(u, minutes)
	return rule == 0
}

// verdict returns the verdict on whether a driver keeps to the rules.
func (d driver) verdict(u api.Rules) int {
	switch {
	case keep(u, d.worst):
		return api.Sure
	case !keep(u, d.best):
		return api.Never
	}
	return api.Open
}

// with returns a driver with a turn more, from a minute on for so many minutes.
func (d driver) with(at, long int) (driver, api.Errno) {
	clashes := func(t api.Turn) bool { return at < t.To.Hi && at+long > t.From.Lo }
	e := check.First(checkRoom(d.Driver), check.Clash(!slices.ContainsFunc(d.Turns, clashes)))
	if e != api.OK {
		return driver{}, e
	}
	place := 0 // behind all turns that end before it
	for place < len(d.Turns) && d.Turns[place].To.Hi <= at {
		place++
	}
	more := api.Turn{From: api.Span{Lo: at, Hi: at}, To: api.Span{Lo: at + long, Hi: at + long}}
	d.Turns = slices.Concat(d.Turns[:place], []api.Turn{more}, d.Turns[place:])
	return d, api.OK
}

// mayDrive tells whether a driver surely may drive from a minute on for so many minutes.
func (d driver) mayDrive(u api.Rules, at, long int) bool {
	more, e := d.with(at, long)
	return e == api.OK && keep(u, more.worst)
}
