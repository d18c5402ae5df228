package frost_test

import (
	"math/rand"
	"slices"

	"sastrugi/api"
)

func span(low, high int) api.Span { return api.Span{Lo: low, Hi: high} }

func one(n int) api.Span { return span(n, n) }

// law is the law F of the chapter's examples.
func law() api.Frost {
	return api.Frost{
		Growth: 100,
		Latent: 10,
		Covers: []api.Cover{{Depth: 0, Part: one(1000000)}, {Depth: 100, Part: span(400000, 500000)}},
		Melt:   span(100000, 200000),
		Soak:   300000,
		White:  span(500000, 600000),
	}
}

// black is the ice I of the chapter's examples.
func black() api.Ice { return api.Ice{Black: one(300)} }

// day is a day of exact weather.
func day(cold, fall, water int) api.Weather {
	return api.Weather{Cold: one(cold), Fall: one(fall), Water: water}
}

// within tells whether s lies within t.
func within(s, t api.Span) bool { return t.Lo <= s.Lo && s.Hi <= t.Hi }

// parts are the four spans of ice.
func parts(x api.Ice) [4]api.Span { return [4]api.Span{x.Black, x.White, x.Wet, x.Snow} }

// iceWithin tells whether each span of x lies within that of y.
func iceWithin(x, y api.Ice) bool {
	p, q := parts(x), parts(y)
	for i := range p {
		if !within(p[i], q[i]) {
			return false
		}
	}
	return true
}

// valid tells whether what is known after days may be given to a function again.
func valid(x api.Ice) bool {
	return iceWithin(x, api.Ice{Black: span(0, 5000), White: span(0, 5000), Wet: span(0, 5000), Snow: span(0, 5000)})
}

// some returns a span of at most so many numbers within others.
func some(r *rand.Rand, low, high, wide int) api.Span {
	a := low + r.Intn(high-low+1)
	return span(a, min(high, a+r.Intn(wide)))
}

// inside returns a span within another one.
func inside(r *rand.Rand, s api.Span) api.Span {
	a := s.Lo + r.Intn(s.Hi-s.Lo+1)
	return span(a, a+r.Intn(s.Hi-a+1))
}

// someLaw returns a law whose covers lie near the snow of someIce.
func someLaw(r *rand.Rand) api.Frost {
	l := api.Frost{
		Growth: r.Intn(200),
		Latent: 1 + r.Intn(8),
		Melt:   some(r, 0, 1500000, 400000),
		Soak:   r.Intn(api.Mil + 1),
		White:  some(r, 0, api.Mil, 300000),
	}
	if r.Intn(8) == 0 {
		l.Growth = r.Intn(api.MaxGrowth + 1)
	}
	part := some(r, api.Mil/2, api.Mil, api.Mil/2)
	depth := 0
	for range 1 + r.Intn(4) {
		l.Covers = append(l.Covers, api.Cover{Depth: depth, Part: part})
		depth += 1 + r.Intn(3)
		part.Hi = r.Intn(part.Hi + 1)
		part.Lo = r.Intn(min(part.Lo, part.Hi) + 1)
	}
	return l
}

// someIce returns narrow ice: all that it may truly be can be gone through.
func someIce(r *rand.Rand) api.Ice {
	return api.Ice{Black: some(r, 0, 30, 4), White: some(r, 0, 12, 4), Wet: some(r, 0, 8, 4), Snow: some(r, 0, 8, 4)}
}

// someDay returns a day of little cold, or warmth, or both.
func someDay(r *rand.Rand) api.Weather {
	d := api.Weather{Cold: some(r, -20, 40, 8), Fall: some(r, 0, 4, 3), Clear: r.Intn(4) == 0}
	if r.Intn(2) == 0 {
		d.Water = r.Intn(8)
	}
	return d
}

func someDays(r *rand.Rand, n int) []api.Weather {
	var days []api.Weather
	for range n {
		days = append(days, someDay(r))
	}
	return days
}

// narrower returns days within others.
func narrower(r *rand.Rand, days []api.Weather) []api.Weather {
	list := slices.Clone(days)
	for i, d := range list {
		list[i].Cold, list[i].Fall = inside(r, d.Cold), inside(r, d.Fall)
	}
	return list
}

// true ice: black, white, water and snow.
type truth struct{ b, w, q, s int }

// truths goes through all that ice may truly be.
func truths(x api.Ice, each func(truth)) {
	for b := x.Black.Lo; b <= x.Black.Hi; b++ {
		for w := x.White.Lo; w <= x.White.Hi; w++ {
			for q := x.Wet.Lo; q <= x.Wet.Hi; q++ {
				for s := x.Snow.Lo; s <= x.Snow.Hi; s++ {
					each(truth{b, w, q, s})
				}
			}
		}
	}
}

// over and under are a million's part, rounded up and down, of a number that is not below 0.
func over(n int) int { return (n + 999999) / 1000000 }

func under(n int) int { return n / 1000000 }

// trueDay goes through all that true ice may be after a day, word by word as the document has it.
func trueDay(l api.Frost, d api.Weather, x truth, each func(truth)) {
	for f := d.Fall.Lo; f <= d.Fall.Hi; f++ {
		y := x
		if d.Clear {
			y.s = 0
		}
		y.s += f
		if d.Water > 0 {
			y.q += d.Water + under(y.s*l.Soak)
			y.s = 0
		}
		for c := d.Cold.Lo; c <= d.Cold.Hi; c++ {
			if c >= 0 {
				trueCold(l, c, y, each)
			} else {
				trueWarmth(l, -c, y, each)
			}
		}
	}
}

func trueCold(l api.Frost, c int, x truth, each func(truth)) {
	var part api.Span
	for _, k := range l.Covers {
		if k.Depth <= x.s {
			part = k.Part
		}
	}
	for e := under(c * part.Lo); e <= over(c*part.Hi); e++ {
		y := x
		z := min(y.q, e/l.Latent)
		y.w += z
		y.q -= z
		if y.q > 0 {
			each(y)
			continue
		}
		h := y.b + y.w
		n := h*h + l.Growth*(e-z*l.Latent)
		for h*h <= n { // to the first one whose square is above n
			h++
		}
		y.b = h - 1 - y.w
		each(y)
		if (h-1)*(h-1) < n {
			y.b = h - y.w
			each(y)
		}
	}
}

func trueWarmth(l api.Frost, warm int, x truth, each func(truth)) {
	for t := under(warm * l.Melt.Lo); t <= over(warm*l.Melt.Hi); t++ {
		y, rest := x, t
		for _, n := range []*int{&y.s, &y.w, &y.b} {
			m := min(*n, rest)
			*n -= m
			rest -= m
		}
		each(y)
	}
}

// hull is the least ice that has all true ice that was added to it.
type hull struct {
	x    api.Ice
	some bool
}

func (h *hull) add(y truth) {
	if !h.some {
		*h = hull{api.Ice{Black: one(y.b), White: one(y.w), Wet: one(y.q), Snow: one(y.s)}, true}
		return
	}
	widen := func(s *api.Span, n int) { s.Lo, s.Hi = min(s.Lo, n), max(s.Hi, n) }
	widen(&h.x.Black, y.b)
	widen(&h.x.White, y.w)
	widen(&h.x.Wet, y.q)
	widen(&h.x.Snow, y.s)
}
