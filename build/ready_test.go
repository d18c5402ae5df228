package build_test

import (
	"math/rand"
	"testing"

	"sastrugi/api"
	"sastrugi/bear"
	"sastrugi/build"
	"sastrugi/frost"
)

// trueIce is ice as it truly is: black, white, water and snow.
type trueIce struct{ b, w, q, s int }

// outwards is the numbers from n Lo / 1,000,000, rounded down, to n Hi / 1,000,000, rounded up.
func outwards(n int, s api.Span) api.Span {
	return span(n*s.Lo/1000000, (n*s.Hi+999999)/1000000)
}

// day changes true ice on a day of some true cold, without snow, as layer 1 has it.
func (x *trueIce) day(r *rand.Rand, l api.Frost, c, water int) {
	if water > 0 {
		x.q += water + x.s*l.Soak/1000000
		x.s = 0
	}
	if c < 0 {
		rest := pick(r, outwards(-c, l.Melt))
		for _, n := range []*int{&x.s, &x.w, &x.b} {
			gone := min(*n, rest)
			*n -= gone
			rest -= gone
		}
		return
	}
	part := l.Covers[0].Part
	if x.s >= l.Covers[1].Depth {
		part = l.Covers[1].Part
	}
	cold := pick(r, outwards(c, part))
	z := min(x.q, cold/l.Latent)
	x.w += z
	x.q -= z
	if x.q > 0 {
		return
	}
	n := (x.b+x.w)*(x.b+x.w) + l.Growth*(cold-z*l.Latent)
	h := frost.Root(n)
	if h*h < n {
		h += r.Intn(2)
	}
	x.b = h - x.w
}

// bears returns the true bearing thickness.
func (x *trueIce) bears(r *rand.Rand, l api.Frost) int { return x.b + pick(r, outwards(x.w, l.White)) }

// T3: a road whose first task begins on the day on which the ice truly bears opens within what is known, if its From goes from the first day that may be that one to the first one that surely is.
func TestRoadOnIceThatBears(t *testing.T) {
	r := rand.New(rand.NewSource(69))
	opened, between := 0, 0
	for range 1500 {
		l, days := law(), wintry(r)
		start, need := api.Ice{Black: some(r, 80, 120, 15), White: some(r, 0, 20, 10), Snow: some(r, 80, 110, 15)}, 120+r.Intn(60)
		sure, perhaps, e := frost.Ready(l, start, days, need)
		if e != api.OK {
			t.Fatal(e)
		}
		if sure == 0 {
			continue
		}
		j := someJob(r, 5, 12)
		j.Tasks = append([]api.Task{{Hours: some(r, 0, 10, 5), From: span(24*perhaps, 24*sure)}}, j.Tasks...)
		for i := range j.Tasks[1:] {
			j.Tasks[i+1].After = []int{0}
		}
		list, open := times(t, j, days)
		for range 5 {
			ready, x := trulyReady(r, l, start, days, need, j)
			if ready < perhaps || ready > sure {
				t.Fatalf("the ice %v is ready on the day %d of %v, known is %d to %d", start, ready, days, perhaps, sure)
			}
			x.from[0] = 24 * ready
			truly, at := x.all(j, days)
			if !holds(open, at) || !holds(list[0].Begin, truly[0].begin) || !holds(list[0].End, truly[0].end) {
				t.Fatalf("the road of %v on %v opens at %d, known is %v", j, days, at, open)
			}
			if at < 24*len(days)+1 {
				opened++
			}
			if perhaps < ready && ready < sure {
				between++
			}
		}
	}
	if opened < 1000 || between < 200 {
		t.Error("too few of each kind:", opened, between)
	}
}

// wintry returns days of cold, some of them with water.
func wintry(r *rand.Rand) []api.Weather {
	days := cold()
	for range 10 + r.Intn(15) {
		d := api.Weather{Cold: some(r, -20, 120, 50)}
		if r.Intn(3) == 0 {
			d.Water = r.Intn(6)
		}
		days = append(days, d)
	}
	return days
}

// trulyReady returns the number of the day after which the ice truly bears and is sound, with true cold, by which the machines truly work, too, and a truth with all of it.
func trulyReady(r *rand.Rand, l api.Frost, start api.Ice, days []api.Weather, need int, j api.Job) (int, truth) {
	x := trueIce{pick(r, start.Black), pick(r, start.White), pick(r, start.Wet), pick(r, start.Snow)}
	var now []api.Weather
	ready := 0
	for i, d := range days {
		c := pick(r, d.Cold)
		now = append(now, api.Weather{Cold: one(c)})
		x.day(r, l, c, d.Water)
		if ready == 0 && x.q == 0 && x.bears(r, l) >= need {
			ready = i + 1
		}
	}
	return ready, someTruth(r, j, now)
}

// T3: ice that is thickened until it is as thick as a load needs bears this load for sure, and holds no water.
func TestThickenedIceBears(t *testing.T) {
	r := rand.New(rand.NewSource(70))
	p := api.Plate{Strength: span(40000, 50000), Shares: []api.Share{{Part: api.Mil}}, Creep: []api.Share{{Part: api.Mil}}, Gravity: 98, Low: 640000, High: 1440000}
	thick := 0
	for range 1000 {
		l, days, weight, most := law(), wintry(r), 100+r.Intn(800), r.Intn(20)
		need, e := bear.Need(p, weight, 0)
		if e != api.OK {
			t.Fatal(e)
		}
		start := api.Ice{Black: some(r, 50, 100, 10), Snow: some(r, 0, 20, 10)}
		water, day, e := build.Thicken(l, start, days, need, most)
		if e != api.OK {
			t.Fatal(e)
		}
		if day == 0 {
			continue
		}
		thick++
		for range 5 {
			x := trueIce{b: pick(r, start.Black), s: pick(r, start.Snow)}
			for i, d := range days[:day] {
				x.day(r, l, pick(r, d.Cold), water[i])
			}
			list, e := bear.Holds(p, []api.Span{one(x.bears(r, l))}, nil, []api.Load{{Weight: one(weight)}})
			if e != api.OK || list[0] != api.Sure || x.q != 0 {
				t.Fatalf("the ice %v, flooded with %v, is %v after the day %d and bears %d: %v, %v", start, water, x, day, weight, list, e)
			}
		}
	}
	if thick < 300 {
		t.Error("too little ice gets thick:", thick)
	}
}
