package rescue_test

import (
	"iter"
	"math/rand"
	"slices"
	"testing"

	"sastrugi/api"
	"sastrugi/rescue"
)

func span(low, high int) api.Span { return api.Span{Lo: low, Hi: high} }

func one(n int) api.Span { return span(n, n) }

// far is the time to a spot that is not reached.
var far = one(1000000)

// road is the rescue R of the chapter's examples.
func road() api.Rescue {
	return api.Rescue{
		Spots: 4,
		Paths: []api.Path{
			path(0, 1, span(5, 8), api.Sure),
			path(1, 2, span(10, 20), api.Sure),
			path(0, 2, one(12), api.Open),
			path(2, 3, span(3, 4), api.Never),
		},
		Posts: []api.Post{
			{Spot: 0, Ready: span(2, 3)},
			{Spot: 2, Ready: one(1), From: 360, To: 1080, Flies: api.Open, Air: []api.Span{span(30, 40), span(20, 25), one(0), span(6, 9)}},
		},
		Water: []api.Span{span(0, 10), span(10, 20), span(-10, 0), span(50, 60)},
		Chills: []api.Chill{
			{Warm: -400, Minutes: span(10, 20)},
			{Warm: 0, Minutes: span(15, 30)},
			{Warm: 15, Minutes: span(30, 60)},
			{Warm: 50, Minutes: span(60, 90)},
		},
	}
}

func path(a, b int, time api.Span, open int) api.Path {
	return api.Path{A: a, B: b, Time: time, Open: open}
}

// flying is R whose post 1 flies as a verdict says.
func flying(verdict int) api.Rescue {
	r := road()
	r.Posts[1].Flies = verdict
	return r
}

// three is R with three posts that drive: 0 and 1 at the spot 0, 2 at the spot 1.
func three() api.Rescue {
	r := road()
	r.Posts = []api.Post{{Spot: 0, Ready: span(2, 3)}, {Spot: 0, Ready: one(8)}, {Spot: 1, Ready: one(0)}}
	return r
}

// line is a rescue of spots in a row, with a minute between two of them, in which one lives for as many minutes.
func line(spots, minutes int) api.Rescue {
	r := api.Rescue{Spots: spots, Water: make([]api.Span, spots), Chills: []api.Chill{{Warm: -400, Minutes: one(minutes)}}}
	for i := range spots - 1 {
		r.Paths = append(r.Paths, path(i, i+1, one(1), api.Sure))
	}
	return r
}

// copied returns a rescue that shares no memory with another one.
func copied(r api.Rescue) api.Rescue {
	r.Paths, r.Posts = slices.Clone(r.Paths), slices.Clone(r.Posts)
	r.Water, r.Chills = slices.Clone(r.Water), slices.Clone(r.Chills)
	for i := range r.Posts {
		r.Posts[i].Air = slices.Clone(r.Posts[i].Air)
	}
	return r
}

// What truly is, word by word as the document has it.

// truth is what truly is of a rescue.
type truth struct {
	times          []int
	open           []bool
	ready          []int
	flies          []bool
	air            [][]int
	water, minutes []int
}

// count is how many minutes a post needs to each spot.
func (x truth) count(r api.Rescue, post int) []int {
	p := r.Posts[post]
	list := slices.Repeat([]int{1000000}, r.Spots)
	if p.Flies != 0 {
		for spot := range list {
			if x.flies[post] {
				list[spot] = x.ready[post] + x.air[post][spot]
			}
		}
		return list
	}
	list[p.Spot] = x.ready[post]
	for range r.Spots {
		for i, way := range r.Paths {
			if x.open[i] {
				list[way.A] = min(list[way.A], list[way.B]+x.times[i])
				list[way.B] = min(list[way.B], list[way.A]+x.times[i])
			}
		}
	}
	for spot, n := range list {
		list[spot] = min(n, 1000000)
	}
	return list
}

// isManned goes through the minutes in which a post is manned, one by one, until it comes to one.
func isManned(p api.Post, minute int) bool {
	for m := p.From; ; {
		if m == minute {
			return true
		}
		if m = (m + 1) % 1440; m == p.To {
			return false
		}
	}
}

// reach is after how many minutes each spot is reached in a minute of the day.
func (x truth) reach(r api.Rescue, minute int) []int {
	list := slices.Repeat([]int{1000000}, r.Spots)
	for i, p := range r.Posts {
		if !isManned(p, minute) {
			continue
		}
		for spot, n := range x.count(r, i) {
			list[spot] = min(list[spot], n)
		}
	}
	return list
}

// live is for how many minutes one lives at each spot.
func (x truth) live(r api.Rescue) []int {
	list := make([]int, r.Spots)
	for spot := range list {
		i := len(r.Chills) - 1
		for r.Chills[i].Warm > x.water[spot] {
			i--
		}
		list[spot] = x.minutes[i]
	}
	return list
}

// allowed tells whether one lives no shorter in warmer water.
func (x truth) allowed() bool { return slices.IsSorted(x.minutes) }

// truths hands out all that may truly be of a rescue.
func truths(r api.Rescue) iter.Seq[truth] {
	parts := partsOf(r)
	return func(yield func(truth) bool) {
		numbers := make([]int, len(parts))
		var choose func(i int) bool
		choose = func(i int) bool {
			if i == len(parts) {
				x := truthOf(r, numbers)
				return !x.allowed() || yield(x)
			}
			for n := parts[i].Lo; n <= parts[i].Hi; n++ {
				numbers[i] = n
				if !choose(i + 1) {
					return false
				}
			}
			return true
		}
		choose(0)
	}
}

// partsOf are the spans of all numbers of a truth, in the order in which truthOf takes them; what is so is 1, what is not 0.
func partsOf(r api.Rescue) []api.Span {
	is := map[int]api.Span{0: one(0), api.Sure: one(1), api.Never: one(0), api.Open: span(0, 1)}
	var list []api.Span
	for _, p := range r.Paths {
		list = append(list, p.Time, is[p.Open])
	}
	for _, p := range r.Posts {
		list = append(list, p.Ready, is[p.Flies])
		list = append(list, p.Air...)
	}
	list = append(list, r.Water...)
	for _, c := range r.Chills {
		list = append(list, c.Minutes)
	}
	return list
}

// truthOf returns the truth that has some numbers.
func truthOf(r api.Rescue, numbers []int) (x truth) {
	take := func(n int) []int {
		some := slices.Clone(numbers[:n])
		numbers = numbers[n:]
		return some
	}
	for range r.Paths {
		n := take(2)
		x.times, x.open = append(x.times, n[0]), append(x.open, n[1] == 1)
	}
	for _, p := range r.Posts {
		n := take(2)
		x.ready, x.flies = append(x.ready, n[0]), append(x.flies, n[1] == 1)
		x.air = append(x.air, take(len(p.Air)))
	}
	x.water, x.minutes = take(len(r.Water)), take(len(r.Chills))
	return x
}

// cases is how many truths there are at most.
func cases(r api.Rescue) int {
	n := 1
	for _, s := range partsOf(r) {
		n *= s.Hi - s.Lo + 1
	}
	return n
}

// someTruth returns one of the truths of a rescue: all parts may be at an end, or anywhere. One lives for no less than in colder water.
func someTruth(r *rand.Rand, x api.Rescue) truth {
	var numbers []int
	for _, s := range partsOf(x) {
		n := s.Lo + r.Intn(s.Hi-s.Lo+1)
		switch r.Intn(4) {
		case 0:
			n = s.Lo
		case 1:
			n = s.Hi
		}
		numbers = append(numbers, n)
	}
	first := len(numbers) - len(x.Chills)
	for i := first + 1; i < len(numbers); i++ {
		numbers[i] = max(numbers[i], numbers[i-1])
	}
	return truthOf(x, numbers)
}

// soonestTruth is the truth in which all is reached as soon as can be, and one lives as long; latestTruth is the opposite.
func soonestTruth(r api.Rescue) truth {
	return endOf(r, true)
}

func latestTruth(r api.Rescue) truth {
	return endOf(r, false)
}

func endOf(r api.Rescue, soon bool) truth {
	var low, high []int
	for _, s := range partsOf(r) {
		low, high = append(low, s.Lo), append(high, s.Hi)
	}
	x, y := truthOf(r, low), truthOf(r, high)
	if soon {
		return truth{times: x.times, open: y.open, ready: x.ready, flies: y.flies, air: x.air, water: y.water, minutes: y.minutes}
	}
	return truth{times: y.times, open: x.open, ready: y.ready, flies: x.flies, air: y.air, water: x.water, minutes: x.minutes}
}

// Rescues of all sizes.

// some returns a span within bounds that has at most so many numbers more than one.
func some(r *rand.Rand, low, high, wide int) api.Span {
	a := low + r.Intn(high-low+1)
	return span(a, min(high, a+r.Intn(wide+1)))
}

// inside returns a span within another one.
func inside(r *rand.Rand, s api.Span) api.Span {
	low := s.Lo + r.Intn(s.Hi-s.Lo+1)
	return span(low, low+r.Intn(s.Hi-low+1))
}

// size says how large a rescue is: at most how many spots, paths and posts it has, and its times.
type size struct{ spots, paths, posts, time, wide int }

// someRescue is a valid rescue.
func someRescue(r *rand.Rand, s size) api.Rescue {
	x := api.Rescue{Spots: 1 + r.Intn(s.spots)}
	if x.Spots > 1 {
		for range r.Intn(s.paths + 1) {
			a := r.Intn(x.Spots)
			b := (a + 1 + r.Intn(x.Spots-1)) % x.Spots
			x.Paths = append(x.Paths, path(a, b, some(r, 0, s.time, s.wide), 1+r.Intn(3)))
		}
	}
	for range r.Intn(s.posts + 1) {
		x.Posts = append(x.Posts, somePost(r, x.Spots, s))
	}
	for range x.Spots {
		x.Water = append(x.Water, some(r, -20, 20, s.wide))
	}
	x.Chills = someChills(r, s)
	return x
}

// somePost is a post of a rescue with so many spots.
func somePost(r *rand.Rand, spots int, s size) api.Post {
	p := api.Post{Spot: r.Intn(spots), Ready: some(r, 0, s.time, s.wide)}
	switch r.Intn(3) {
	case 0:
		p.From, p.To = r.Intn(1440), r.Intn(1440)
	case 1:
		p.From, p.To = 10*r.Intn(3), 10*r.Intn(3)
	}
	if r.Intn(3) == 0 {
		p.Flies = 1 + r.Intn(3)
		for range spots {
			p.Air = append(p.Air, some(r, 0, 3*s.time, s.wide))
		}
	}
	return p
}

// someChills are 1 to 4 chills.
func someChills(r *rand.Rand, s size) []api.Chill {
	list := []api.Chill{{Warm: -400, Minutes: some(r, 0, s.time, s.wide)}}
	for warm := -20 + r.Intn(10); len(list) < 4 && r.Intn(3) > 0; warm += 1 + r.Intn(15) {
		before := list[len(list)-1].Minutes
		low := before.Lo + r.Intn(s.time+1)
		list = append(list, api.Chill{Warm: warm, Minutes: span(low, max(low, before.Hi)+r.Intn(s.wide+1))})
	}
	return list
}

// small is a rescue of which all truths can be looked at.
func small(r *rand.Rand) api.Rescue {
	for {
		x := someRescue(r, size{3, 3, 2, 4, 1})
		if cases(x) <= 5000 {
			return x
		}
	}
}

// large is a rescue that may be as large as any, but in which not all is reached.
func large(r *rand.Rand) api.Rescue {
	x := someRescue(r, size{40, 120, 12, 60, 20})
	for i := range x.Paths {
		if r.Intn(2) == 0 {
			x.Paths[i].Open = api.Sure
		}
	}
	return x
}

// known is what is known of a rescue in a minute of the day.
type known struct {
	times        [][]api.Span
	lives, reach []api.Span
	cover        []int
}

// find returns what is known of a rescue.
func find(t *testing.T, r api.Rescue, minute int) (k known) {
	t.Helper()
	var errors [4]api.Errno
	for post := range r.Posts {
		l, e := rescue.Go(r, post)
		k.times = append(k.times, l)
		errors[0] = max(errors[0], e)
	}
	k.lives, errors[1] = rescue.Lives(r)
	k.reach, errors[2] = rescue.Reach(r, minute)
	k.cover, errors[3] = rescue.Cover(r, minute)
	if errors != [4]api.Errno{} {
		t.Fatalf("what is known of %v in %d: %v", r, minute, errors)
	}
	return k
}

// spans are all spans of what is known.
func (k known) spans() []api.Span {
	return slices.Concat(slices.Concat(k.times...), k.lives, k.reach)
}

// numbers are those of a truth in a minute of the day, in the order of the spans.
func (x truth) numbers(r api.Rescue, minute int) (list []int) {
	for post := range r.Posts {
		list = append(list, x.count(r, post)...)
	}
	return slices.Concat(list, x.live(r), x.reach(r, minute))
}

// inTime tells for each spot whether one is reached in time in a truth.
func (x truth) inTime(r api.Rescue, minute int) (list []bool) {
	live, reach := x.live(r), x.reach(r, minute)
	for spot := range r.Spots {
		list = append(list, reach[spot] <= live[spot])
	}
	return list
}

// within tells whether a number lies in a span, and narrower whether a span lies in another one.
func within(n int, s api.Span) bool { return s.Lo <= n && n <= s.Hi }

func narrower(a, b api.Span) bool { return b.Lo <= a.Lo && a.Hi <= b.Hi }
