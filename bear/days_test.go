package bear_test

import (
	"math/rand"
	"testing"

	"sastrugi/api"
	"sastrugi/bear"
	"sastrugi/frost"
)

// law is the law F of the examples of layer 1.
func law() api.Frost {
	return api.Frost{
		Growth: 100,
		Latent: 10,
		Covers: []api.Cover{{Depth: 0, Part: one(1000000)}, {Depth: 100, Part: span(400000, 500000)}},
		Melt:   span(100000, 200000),
		Soak:   300000,
		White:  span(500000, 600000),
	}
}

// pick returns a number of a span.
func pick(r *rand.Rand, s api.Span) int { return inside(r, s).Lo }

// trueIce is ice as it truly is: black, white, water and snow.
type trueIce struct{ b, w, q, s int }

// outwards is the numbers from n Lo / 1,000,000, rounded down, to n Hi / 1,000,000, rounded up.
func outwards(n int, s api.Span) api.Span {
	return span(n*s.Lo/1000000, (n*s.Hi+999999)/1000000)
}

// day changes true ice as some true weather of a day may do, step by step as layer 1 has it.
func (x *trueIce) day(r *rand.Rand, l api.Frost, d api.Weather) {
	x.s += pick(r, d.Fall)
	if d.Water > 0 {
		x.q += d.Water + x.s*l.Soak/1000000
		x.s = 0
	}
	if c := pick(r, d.Cold); c < 0 {
		x.melt(pick(r, outwards(-c, l.Melt)))
	} else {
		part := l.Covers[0].Part
		if x.s >= l.Covers[1].Depth {
			part = l.Covers[1].Part
		}
		x.freeze(r, l, pick(r, outwards(c, part)))
	}
}

func (x *trueIce) melt(rest int) {
	for _, n := range []*int{&x.s, &x.w, &x.b} {
		gone := min(*n, rest)
		*n -= gone
		rest -= gone
	}
}

func (x *trueIce) freeze(r *rand.Rand, l api.Frost, cold int) {
	z := min(x.q, cold/l.Latent)
	x.w += z
	x.q -= z
	if x.q > 0 {
		return
	}
	h := x.b + x.w
	n := h*h + l.Growth*(cold-z*l.Latent)
	h = frost.Root(n)
	if h*h < n {
		h += r.Intn(2)
	}
	x.b = h - x.w
}

// someDays returns days of cold and warmth, some of them with snow or water.
func someDays(r *rand.Rand) []api.Weather {
	var days []api.Weather
	for range 1 + r.Intn(6) {
		d := api.Weather{Cold: some(r, -60, 120, 20)}
		switch r.Intn(4) {
		case 0:
			d.Fall = some(r, 0, 120, 20)
		case 1:
			d.Water = r.Intn(10)
		}
		days = append(days, d)
	}
	return days
}

// T1: a load that is Sure on ice of which the bearing thickness is what is known after days is truly borne, and one that is Never is not, whatever the ice has truly become.
func TestLoadsOnIceThatIsKnownAfterDays(t *testing.T) {
	r := rand.New(rand.NewSource(43))
	seen := map[int]int{}
	for range 1500 {
		l, days := law(), someDays(r)
		start := api.Ice{Black: some(r, 30, 60, 5), White: some(r, 0, 20, 5)}
		list, e := frost.Run(l, start, days)
		if e != api.OK {
			t.Fatal(e)
		}
		thick, _, e := frost.Bearing(l, list[len(list)-1])
		if e != api.OK {
			t.Fatal(e)
		}
		p := plate()
		p.Strength.Hi = p.Strength.Lo + r.Intn(1000)
		s := scene{p: p, ice: []api.Span{thick}, loads: moving(some(r, 0, 8*thick.Hi*thick.Hi/100, 20), 50)}
		verdict := holds(t, s)[0]
		seen[verdict]++
		for range 20 {
			x := trueIce{b: pick(r, start.Black), w: pick(r, start.White)}
			for _, d := range days {
				x.day(r, l, d)
			}
			h := x.b + pick(r, outwards(x.w, l.White))
			now := truth{pick(r, p.Strength), []int{h}, nil, []int{pick(r, s.loads[0].Weight)}}
			if borne := s.bears(now, 0); verdict == api.Sure && !borne || verdict == api.Never && borne {
				t.Fatalf("a load of %v is %d on %v, and truly borne on %d: %v", s.loads[0].Weight, verdict, thick, h, borne)
			}
		}
	}
	for v := api.Sure; v <= api.Open; v++ {
		if seen[v] < 100 {
			t.Error("too few of each verdict:", seen)
		}
	}
}

// T1: a load becomes Sure after the day after which the ice is surely as thick as the load needs.
func TestReadyForALoad(t *testing.T) {
	need, e := bear.Need(plate(), 4900, 0)
	if need != 350 || e != api.OK {
		t.Fatal(need, e)
	}
	days := []api.Weather{{Cold: one(160)}, {Cold: one(160)}, {Cold: one(160)}}
	start := api.Ice{Black: one(300)}
	sure, perhaps, e := frost.Ready(law(), start, days, need)
	if sure != 3 || perhaps != 2 || e != api.OK {
		t.Fatal(sure, perhaps, e)
	}
	list, _ := frost.Run(law(), start, days)
	for i, want := range []int{api.Open, api.Open, api.Sure} {
		thick, _, e := frost.Bearing(law(), list[i])
		if got := holds(t, scene{p: plate(), ice: []api.Span{thick}, loads: moving(one(4900), 50)}); e != api.OK || got[0] != want {
			t.Errorf("on %v after day %d the load is %d, want %d", thick, i+1, got[0], want)
		}
	}
}
