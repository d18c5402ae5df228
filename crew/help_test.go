package crew_test

import (
	"iter"
	"math/rand"
	"slices"

	"sastrugi/api"
	"sastrugi/crew"
)

func span(low, high int) api.Span { return api.Span{Lo: low, Hi: high} }

func one(n int) api.Span { return span(n, n) }

// rules are the rules U of the chapter's examples.
func rules() api.Rules { return api.Rules{Drive: 4, Rest: 2, Day: 10, Most: 6} }

// ann is the driver D of the chapter's examples.
func ann() api.Driver {
	return api.Driver{Name: "ann", Skills: 3, Turns: []api.Turn{{From: one(0), To: one(3)}, {From: span(4, 5), To: span(6, 7)}}}
}

// turn is a turn of which the minutes are known.
func turn(from, to int) api.Turn { return api.Turn{From: one(from), To: one(to)} }

// exact is the driver ann with turns of which the minutes are known: from, to, from, to ..
func exact(l ...int) api.Driver {
	d := api.Driver{Name: "ann", Skills: 3}
	for i := 0; i < len(l); i += 2 {
		d.Turns = append(d.Turns, turn(l[i], l[i+1]))
	}
	return d
}

// full is a driver with as many turns as there may be.
func full() api.Driver { return api.Driver{Name: "full", Turns: make([]api.Turn, 20)} }

// changed is D with a change.
func changed(change func(d *api.Driver)) api.Driver {
	d := ann()
	change(&d)
	return d
}

// off is the scale of the chapter's examples.
func off() api.Scale { return api.Scale{Zero: 20, Part: 10000} }

// equal tells whether two lists of drivers are equal.
func equal(a, b []api.Driver) bool {
	return slices.EqualFunc(a, b, func(x, y api.Driver) bool {
		return x.Name == y.Name && x.Skills == y.Skills && slices.Equal(x.Turns, y.Turns)
	})
}

// What the document says, word by word.

// course is what truly is of a driver: for each minute up to some whether they drive in it.
type course []bool

// courses hands out all that may truly be of turns.
func courses(turns []api.Turn) iter.Seq[course] {
	return func(yield func(course) bool) { through(turns, nil, yield) }
}

func through(turns []api.Turn, c course, yield func(course) bool) bool {
	if len(turns) == 0 {
		return yield(c)
	}
	t := turns[0]
	for from := t.From.Lo; from <= t.From.Hi; from++ {
		for to := t.To.Lo; to <= t.To.Hi; to++ {
			if !through(turns[1:], c.with(from, to), yield) {
				return false
			}
		}
	}
	return true
}

// with returns a course with a turn more.
func (c course) with(from, to int) course {
	more := make(course, max(len(c), to))
	copy(more, c)
	for minute := from; minute < to; minute++ {
		more[minute] = true
	}
	return more
}

// longest is the course in the worst case, and shortest the one with the shortest turns.
func longest(turns []api.Turn) course {
	var c course
	for _, t := range turns {
		c = c.with(t.From.Lo, t.To.Hi)
	}
	return c
}

func shortest(turns []api.Turn) course {
	var c course
	for _, t := range turns {
		c = c.with(t.From.Hi, t.To.Lo)
	}
	return c
}

// breaks returns which rule a minute of a course breaks, the lesser one of both; 0 if none.
func (c course) breaks(u api.Rules, minute int) int {
	// Back from the minute, up to the last rest, or to a time before all.
	since, free := 1, 0
	for m := minute - 1; m >= 0 && free < u.Rest; m-- {
		free++
		if c[m] {
			since++
			free = 0
		}
	}
	if since > u.Drive {
		return 1
	}
	many := 0
	for m := max(minute-u.Day+1, 0); m <= minute; m++ {
		if c[m] {
			many++
		}
	}
	if many > u.Most {
		return 2
	}
	return 0
}

// first returns which rule the first minute of a course breaks that breaks one, and this minute.
func (c course) first(u api.Rules) (rule, minute int) {
	for m, drives := range c {
		if drives {
			if rule := c.breaks(u, m); rule > 0 {
				return rule, m
			}
		}
	}
	return 0, 0
}

// keeps tells whether no minute of a course breaks a rule.
func (c course) keeps(u api.Rules) bool {
	rule, _ := c.first(u)
	return rule == 0
}

// verdict is the verdict on turns, by all that may truly be.
func verdict(u api.Rules, turns []api.Turn) int {
	kept, broken := 0, 0
	for c := range courses(turns) {
		if c.keeps(u) {
			kept++
		} else {
			broken++
		}
	}
	switch {
	case broken == 0:
		return api.Sure
	case kept == 0:
		return api.Never
	}
	return api.Open
}

// clashes tells whether a turn more clashes with one of some turns.
func clashes(turns []api.Turn, at, long int) bool {
	for _, t := range turns {
		if at < t.To.Hi && at+long > t.From.Lo {
			return true
		}
	}
	return false
}

// sure tells whether a driver surely may drive from a minute on for so many minutes.
func sure(u api.Rules, d api.Driver, at, long int) bool {
	return at >= 0 && long >= 0 && at+long <= 3000 && len(d.Turns) < 20 && !clashes(d.Turns, at, long) && longest(d.Turns).with(at, at+long).keeps(u)
}

// mayDo tells whether a driver may do some hauls.
func mayDo(u api.Rules, d api.Driver, hauls []api.Haul) bool {
	c := longest(d.Turns)
	for i, h := range hauls {
		for bit := 1; bit <= 128; bit *= 2 {
			if h.Skills/bit%2 == 1 && d.Skills/bit%2 == 0 {
				return false
			}
		}
		if clashes(d.Turns, h.From, h.Long) {
			return false
		}
		for _, other := range hauls[:i] {
			if h.From < other.From+other.Long && other.From < h.From+h.Long {
				return false
			}
		}
		c = c.with(h.From, h.From+h.Long)
	}
	return len(d.Turns)+len(hauls) <= 20 && c.keeps(u)
}

// allowed tells whether each driver may do all hauls that have the driver's number in a list.
func allowed(u api.Rules, l []api.Driver, hauls []api.Haul, who []int) bool {
	for i, d := range l {
		var own []api.Haul
		for k, h := range hauls {
			if who[k] == i {
				own = append(own, h)
			}
		}
		if len(own) > 0 && !mayDo(u, d, own) {
			return false
		}
	}
	return true
}

// choices are all lists with a number of one of so many drivers, or -1, for each of so many hauls: in lexicographic order, with -1 behind all drivers.
func choices(drivers, hauls int) [][]int {
	if hauls == 0 {
		return [][]int{nil}
	}
	var list [][]int
	for first := range drivers + 1 {
		if first == drivers {
			first = -1
		}
		for _, c := range choices(drivers, hauls-1) {
			list = append(list, append([]int{first}, c...))
		}
	}
	return list
}

// assign is what the document says of Assign, by all choices of drivers.
func assign(u api.Rules, l []api.Driver, hauls []api.Haul) (who []int, done int) {
	done = -1
	for _, c := range choices(len(l), len(hauls)) {
		n := 0
		for _, i := range c {
			if i >= 0 {
				n++
			}
		}
		if n > done && allowed(u, l, hauls, c) {
			who, done = c, n
		}
	}
	return who, done
}

// shown tells whether a true weight may be shown as a reading. (All of it a million times.)
func shown(s api.Scale, weight, reading int) bool {
	return weight*(1000000-s.Part)-s.Zero*1000000 <= reading*1000000 && reading*1000000 <= weight*(1000000+s.Part)+s.Zero*1000000
}

// Drivers of all sizes.

// some returns a span within bounds that has at most so many numbers more than one.
func some(r *rand.Rand, low, high, wide int) api.Span {
	a := low + r.Intn(high-low+1)
	return span(a, min(high, a+r.Intn(wide+1)))
}

// inside returns a span within another one.
func inside(r *rand.Rand, s api.Span) api.Span {
	low := s.Lo + r.Intn(s.Hi-s.Lo+1)
	return span(low, low+r.Intn(s.Hi-low+1))
}

// size says how large drivers are: at most how many turns they have, how long these are, how far apart, and how wide spans are.
type size struct{ turns, long, apart, wide int }

// usual are drivers of whom all that may truly be can be looked at.
var usual = size{4, 5, 6, 2}

// someRules are rules with numbers up to some.
func someRules(r *rand.Rand, drive, rest, day int) api.Rules {
	u := api.Rules{Drive: 1 + r.Intn(drive), Rest: 1 + r.Intn(rest), Day: 1 + r.Intn(day)}
	u.Most = 1 + r.Intn(u.Day)
	return u
}

// someDriver is a valid driver.
func someDriver(r *rand.Rand, s size) api.Driver {
	d := api.Driver{Name: string(rune('a' + r.Intn(26))), Skills: r.Intn(256)}
	end := 0
	for range r.Intn(s.turns + 1) {
		var t api.Turn
		t.From.Lo = end + r.Intn(s.apart+1)
		t.From.Hi = t.From.Lo + r.Intn(s.wide+1)
		t.To.Lo = t.From.Hi + r.Intn(s.long+1)
		t.To.Hi = t.To.Lo + r.Intn(s.wide+1)
		if end = t.To.Hi; end > 3000 {
			break
		}
		d.Turns = append(d.Turns, t)
	}
	return d
}

// someHaul is a valid haul.
func someHaul(r *rand.Rand) api.Haul {
	return api.Haul{From: r.Intn(30), Long: 1 + r.Intn(5), Skills: []int{0, 1, 2, 3}[r.Intn(4)]}
}

// someCourse is one of all that may truly be of turns; often with an end of a span.
func someCourse(r *rand.Rand, turns []api.Turn) course {
	pick := func(s api.Span) int {
		switch r.Intn(4) {
		case 0:
			return s.Lo
		case 1:
			return s.Hi
		}
		return s.Lo + r.Intn(s.Hi-s.Lo+1)
	}
	var c course
	for _, t := range turns {
		c = c.with(pick(t.From), pick(t.To))
	}
	return c
}

// withTurn is a driver with a turn more, which does not clash with others.
func withTurn(d api.Driver, t api.Turn) api.Driver {
	place := 0
	for place < len(d.Turns) && d.Turns[place].To.Hi <= t.From.Lo {
		place++
	}
	d.Turns = slices.Insert(slices.Clone(d.Turns), place, t)
	return d
}

// legal is the verdict that Legal returns, which must have no error.
func legal(u api.Rules, d api.Driver) int {
	v, _, _, e := crew.Legal(u, d)
	if e != api.OK {
		panic(e)
	}
	return v
}
