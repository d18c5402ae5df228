package convoy_test

import (
	"math/rand"
	"slices"

	"sastrugi/api"
	"sastrugi/convoy"
)

func span(low, high int) api.Span { return api.Span{Lo: low, Hi: high} }

func one(n int) api.Span { return span(n, n) }

func up(start int, pace api.Span, holds ...api.Hold) api.Truck {
	return api.Truck{Way: api.WayUp, Start: start, Pace: pace, Holds: holds}
}

func down(start int, pace api.Span, holds ...api.Hold) api.Truck {
	return api.Truck{Way: api.WayDown, Start: start, Pace: pace, Holds: holds}
}

// two is the convoy V of the chapter's examples, held is H, and failing is K.
func two() api.Convoy {
	return api.Convoy{Length: 1000, Gap: 200, Trucks: []api.Truck{up(0, span(50, 100)), down(0, span(50, 100))}}
}

func held() api.Convoy {
	c := two()
	c.Trucks[0].Holds = []api.Hold{{At: 300, Until: 20}}
	return c
}

func failing() api.Convoy {
	c := held()
	c.Fails = 1
	return c
}

// road returns a road with trucks.
func road(length, gap, fails int, trucks ...api.Truck) api.Convoy {
	return api.Convoy{Length: length, Gap: gap, Fails: fails, Trucks: trucks}
}

// copied returns a convoy that shares no memory with another one.
func copied(c api.Convoy) api.Convoy {
	c.Trucks = slices.Clone(c.Trucks)
	for i, x := range c.Trucks {
		c.Trucks[i].Holds = slices.Clone(x.Holds)
	}
	return c
}

// turned returns a convoy on the road that is turned.
func turned(c api.Convoy) api.Convoy {
	c = copied(c)
	for i, x := range c.Trucks {
		c.Trucks[i].Way = api.WayUp + api.WayDown - x.Way
		for k, h := range x.Holds {
			c.Trucks[i].Holds[k].At = c.Length - h.At
		}
	}
	return c
}

// started returns a convoy of which the trucks have other starts.
func started(c api.Convoy, starts []int) api.Convoy {
	c = copied(c)
	for i, start := range starts {
		c.Trucks[i].Start = start
	}
	return c
}

// accepted tells whether Meets accepts a convoy.
func accepted(c api.Convoy) bool {
	_, e := convoy.Meets(c)
	return e == api.ErrMissing
}

// The truth, word by word as the document has it: a truck that has gone some metres in a minute.

// metre returns the metre of the road at which a truck is.
func metre(c api.Convoy, x api.Truck, gone int) int {
	if x.Way == api.WayUp {
		return gone
	}
	return c.Length - gone
}

// bay returns how far a truck has gone at a bay.
func bay(c api.Convoy, x api.Truck, h api.Hold) int { return metre(c, x, h.At) }

// drives returns how far a truck has gone a minute later, with a number of metres out of its pace.
func drives(c api.Convoy, x api.Truck, fails bool, gone, minute, pace int) int {
	if !fails {
		for _, h := range x.Holds {
			if bay(c, x, h) >= gone && h.Until > minute {
				return min(gone+pace, bay(c, x, h), c.Length)
			}
		}
	}
	return min(gone+pace, c.Length)
}

// lanes tells whether a truck is on the lane.
func lanes(c api.Convoy, x api.Truck, fails bool, gone, minute int) bool {
	if minute < x.Start || gone == c.Length {
		return false
	}
	return fails || !slices.ContainsFunc(x.Holds, func(h api.Hold) bool { return bay(c, x, h) == gone && h.Until > minute })
}

// all returns, for the minutes from 0 up to a last one, how far a truck may have gone, ascending; one entry for each number of metres.
func all(c api.Convoy, x api.Truck, fails bool, last int) [][]int {
	list := [][]int{{0}}
	for minute := range last {
		now := list[minute]
		if minute >= x.Start {
			seen := map[int]bool{}
			now = nil
			for _, gone := range list[minute] {
				for pace := x.Pace.Lo; pace <= x.Pace.Hi; pace++ {
					if n := drives(c, x, fails, gone, minute, pace); !seen[n] {
						seen[n] = true
						now = append(now, n)
					}
				}
			}
			slices.Sort(now)
		}
		list = append(list, now)
	}
	return list
}

// horizon is a minute in which all trucks of a small convoy have arrived.
func horizon(c api.Convoy) int {
	last := 0
	for _, x := range c.Trucks {
		n := x.Start
		for _, h := range x.Holds {
			n = max(n, h.Until)
		}
		last = max(last, n+c.Length/x.Pace.Lo+2)
	}
	return last
}

// whoFails is who fails of two trucks, in the order of the document.
var whoFails = [4][2]bool{{false, false}, {true, false}, {false, true}, {true, true}}

// possible tells whether so many may fail.
func possible(c api.Convoy, who [2]bool) bool {
	n := 0
	for _, f := range who {
		if f {
			n++
		}
	}
	return n <= c.Fails
}

// scene is a convoy with all that its trucks may have gone.
type scene struct {
	api.Convoy
	gone [][2][][]int // of each truck, if it does not fail and if it does, in each minute
}

func open(c api.Convoy) scene {
	s := scene{Convoy: c}
	for _, x := range c.Trucks {
		s.gone = append(s.gone, [2][][]int{all(c, x, false, horizon(c)), all(c, x, true, horizon(c))})
	}
	return s
}

// of returns the entry for a truck that fails or not.
func of[T any](list [2]T, fails bool) T {
	if fails {
		return list[1]
	}
	return list[0]
}

// onLane returns the metres of the road at which a truck may be on the lane, ascending.
func (s scene) onLane(truck int, fails bool, minute int) []int {
	x := s.Trucks[truck]
	var list []int
	for _, gone := range of(s.gone[truck], fails)[minute] {
		if lanes(s.Convoy, x, fails, gone, minute) {
			list = append(list, metre(s.Convoy, x, gone))
		}
	}
	slices.Sort(list)
	return list
}

// verdict returns the verdict on whether a truck is on the lane.
func (s scene) verdict(truck int, fails bool, minute int) int {
	switch len(s.onLane(truck, fails, minute)) {
	case 0:
		return api.Never
	case len(of(s.gone[truck], fails)[minute]):
		return api.Sure
	}
	return api.Open
}

// first returns the first meeting of all courses, and whether there is one.
func (s scene) first() (api.Meeting, bool) {
	for minute := range horizon(s.Convoy) {
		for i := range s.Trucks {
			for j := i + 1; j < len(s.Trucks); j++ {
				if m, ok := s.meet(i, j, minute); ok {
					return m, true
				}
			}
		}
	}
	return api.Meeting{}, false
}

func (s scene) meet(i, j, minute int) (api.Meeting, bool) {
	for _, who := range whoFails {
		if !possible(s.Convoy, who) {
			continue
		}
		others := s.onLane(j, who[1], minute)
		for _, at := range s.onLane(i, who[0], minute) {
			for _, other := range others {
				if max(at-other, other-at) < s.Gap {
					return api.Meeting{Minute: minute, First: i, Second: j, FirstFails: who[0], SecondFails: who[1], At: at, Other: other}, true
				}
			}
		}
	}
	return api.Meeting{}, false
}

// off returns between which minutes a truck is off.
func (s scene) off(truck int, fails bool) api.Span {
	var off api.Span
	for minute, list := range of(s.gone[truck], fails) {
		if list[len(list)-1] < s.Length {
			off.Lo = minute + 1
		}
		if list[0] < s.Length {
			off.Hi = minute + 1
		}
	}
	return off
}

// lastOff returns between which minutes the last truck is off, over all sets of trucks that fail.
func (s scene) lastOff() api.Span {
	if len(s.Trucks) == 0 {
		return span(0, 0)
	}
	all := span(1<<40, 0)
	for set := range 1 << len(s.Trucks) {
		var last api.Span
		fails := 0
		for i := range s.Trucks {
			bit := set >> i & 1
			fails += bit
			off := s.off(i, bit == 1)
			last = span(max(last.Lo, off.Lo), max(last.Hi, off.Hi))
		}
		if fails <= s.Fails {
			all = span(min(all.Lo, last.Lo), max(all.Hi, last.Hi))
		}
	}
	return all
}

// caught returns the verdict on whether a truck is on the lane in a storm.
func (s scene) caught(truck int, storm api.Span) int {
	verdict := api.Never
	for minute := storm.Lo; minute <= storm.Hi; minute++ {
		told, failed := s.verdict(truck, false, minute), s.verdict(truck, true, minute)
		if s.Fails == 0 {
			failed = told
		}
		if told == api.Sure && failed == api.Sure {
			return api.Sure
		}
		if told != api.Never || failed != api.Never {
			verdict = api.Open
		}
	}
	return verdict
}

// course is a course of a convoy: which trucks fail, and how far each one has gone in each minute.
type course struct {
	fails []bool
	gone  [][]int
}

// someCourse returns a course of a convoy up to a minute. Its trucks are slow, fast, or as it comes.
func someCourse(r *rand.Rand, c api.Convoy, last int) course {
	var s course
	for range c.Trucks {
		s.fails = append(s.fails, false)
	}
	for _, i := range r.Perm(len(c.Trucks))[:min(len(c.Trucks), r.Intn(c.Fails+1))] {
		s.fails[i] = true
	}
	for i, x := range c.Trucks {
		gone, way := []int{0}, r.Intn(3)
		for minute := range last {
			n := gone[minute]
			if minute >= x.Start {
				pace := [...]int{x.Pace.Lo, x.Pace.Hi, x.Pace.Lo + r.Intn(x.Pace.Hi-x.Pace.Lo+1)}[way]
				n = drives(c, x, s.fails[i], n, minute, pace)
			}
			gone = append(gone, n)
		}
		s.gone = append(s.gone, gone)
	}
	return s
}

// some returns a span of at most so many numbers within others.
func some(r *rand.Rand, low, high, wide int) api.Span {
	a := low + r.Intn(high-low+1)
	return span(a, min(high, a+r.Intn(wide)))
}

// inside returns a span within another one.
func inside(r *rand.Rand, s api.Span) api.Span {
	a := s.Lo + r.Intn(s.Hi-s.Lo+1)
	return span(a, a+r.Intn(s.Hi-a+1))
}

// someTruck returns a truck on a road of a length that starts up to a minute, with bays as far as there is room.
func someTruck(r *rand.Rand, length, pace, latest int) api.Truck {
	x := api.Truck{Way: 1 + r.Intn(2), Start: r.Intn(latest + 1), Pace: some(r, 1, pace, 3)}
	for at := 1 + r.Intn(length); at < length && len(x.Holds) < 4; at += 1 + r.Intn(length) {
		x.Holds = append(x.Holds, api.Hold{At: at, Until: r.Intn(2*latest + 10)})
	}
	if x.Way == api.WayDown {
		slices.Reverse(x.Holds)
	}
	return x
}

// someConvoy returns a small convoy: all that its trucks may do can be gone through.
func someConvoy(r *rand.Rand) api.Convoy {
	c := api.Convoy{Length: 2 + r.Intn(24), Fails: r.Intn(4)}
	pace := 1 + r.Intn(3)
	c.Gap = 2*pace + r.Intn(4)
	latest := r.Intn(25)
	for range r.Intn(5) {
		c.Trucks = append(c.Trucks, someTruck(r, c.Length, pace, latest))
	}
	return c
}

// someAccepted returns a small convoy that is accepted, with as many trucks as are found.
func someAccepted(r *rand.Rand) api.Convoy {
	c := someConvoy(r)
	c.Trucks = nil
	for range 12 {
		more := copied(c)
		more.Trucks = append(more.Trucks, someTruck(r, c.Length, c.Gap/2, 40))
		if len(more.Trucks) <= 5 && accepted(more) {
			c = more
		}
	}
	return c
}
