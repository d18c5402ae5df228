package convoy

import (
	"iter"

	"sastrugi/api"
)

// trip is a truck on its way on a road of a length.
type trip struct {
	api.Truck
	length int
}

// failing returns the trip of the truck if it fails.
func (x trip) failing() trip {
	x.Holds = nil
	return x
}

// turn returns how far along the truck's way a metre of the road is, and also which metre is so far along its way.
func (x trip) turn(metre int) int {
	if x.Way == api.WayDown {
		return x.length - metre
	}
	return metre
}

// metres returns the metres of the road that are a part of the truck's way.
func (x trip) metres(part api.Span) api.Span {
	if x.Way == api.WayDown {
		return api.Span{Lo: x.turn(part.Hi), Hi: x.turn(part.Lo)}
	}
	return part
}

// state is how far a truck may have gone in a minute, and how far it goes at most up to the next one: to a bay, or to the end. Where it has gone so far already, it is not on the lane. The zero value is the state before Start.
type state struct {
	gone api.Span
	stop int
}

// minutes hands out the minutes from Start on, each with its state, up to the first one in which the truck has surely arrived. What it may have gone is always a span without holes: it grows by any number of metres of the pace, and what is beyond the stop stops there.
func (x trip) minutes() iter.Seq2[int, state] {
	return func(yield func(int, state) bool) {
		now := state{stop: x.stop(x.Start)}
		for minute := x.Start; yield(minute, now) && now.gone.Lo < x.length; minute++ {
			now.gone.Lo = min(now.gone.Lo+x.Pace.Lo, now.stop)
			now.gone.Hi = min(now.gone.Hi+x.Pace.Hi, now.stop)
			now.stop = x.stop(minute + 1)
		}
	}
}

// stop returns how far along its way the truck is stopped in a minute: at its first bay in which it has to wait longer, or at the end. No such bay is behind it, since it had to wait there in each minute before, too.
func (x trip) stop(minute int) int {
	for _, h := range x.Holds {
		if h.Until > minute {
			return x.turn(h.At)
		}
	}
	return x.length
}

// spot is at which metres of the road a truck may be in a minute, and at which of them on the lane (at none if its Lo is above its Hi).
type spot struct{ at, lane api.Span }

// spot returns the spot of a state.
func (x trip) spot(s state) spot {
	return spot{
		at:   x.metres(s.gone),
		lane: x.metres(api.Span{Lo: s.gone.Lo, Hi: min(s.gone.Hi, s.stop-1)}),
	}
}

// at returns where the truck may be in a minute.
func (x trip) at(minute int) spot {
	var last state
	for m, s := range x.minutes() {
		if m > minute {
			break
		}
		last = s
	}
	return x.spot(last)
}

// none tells whether there is nothing in a span.
func none(s api.Span) bool { return s.Lo > s.Hi }

// verdict returns the verdict on whether the truck is on the lane.
func (s spot) verdict() int {
	switch {
	case s.lane == s.at:
		return api.Sure
	case none(s.lane):
		return api.Never
	}
	return api.Open
}

// path is all of a trip: where the truck may be before its start, and then minute by minute, up to the first one in which it has surely arrived; and between which minutes it is off.
type path struct {
	before spot
	start  int
	spots  []spot
	off    api.Span
}

// path returns the path of a trip.
func (x trip) path() path {
	p := path{before: x.spot(state{}), start: x.Start}
	for minute, s := range x.minutes() {
		p.spots = append(p.spots, x.spot(s))
		if s.gone.Hi < x.length {
			p.off.Lo = minute + 1
		}
		p.off.Hi = minute
	}
	return p
}

// at returns where the truck may be in a minute.
func (p path) at(minute int) spot {
	if minute < p.start {
		return p.before
	}
	return p.spots[min(minute-p.start, len(p.spots)-1)]
}
