package bear_test

import (
	"math/rand"
	"slices"
	"testing"

	"sastrugi/api"
	"sastrugi/bear"
)

// holds returns the verdicts of a scene, which is valid.
func holds(t *testing.T, s scene) []int {
	t.Helper()
	list, e := bear.Holds(s.p, s.ice, s.cracks, s.loads)
	if e != api.OK || len(list) != len(s.loads) {
		t.Fatalf("Holds(%v) = %v, %v", s, list, e)
	}
	return list
}

// P3.5 and P3.6: a verdict is Sure just if the ice bears the load in all that may truly be, and Never just if it does in nothing of it. All of it is gone through.
func TestVerdictsAreExact(t *testing.T) {
	r := rand.New(rand.NewSource(31))
	seen := map[int]int{}
	for range 1500 {
		s := someScene(r)
		borne, all := make([]int, len(s.loads)), 0
		s.truths(func(x truth) {
			all++
			for i := range s.loads {
				if s.bears(x, i) {
					borne[i]++
				}
			}
		})
		for i, v := range holds(t, s) {
			want := api.Open
			switch borne[i] {
			case all:
				want = api.Sure
			case 0:
				want = api.Never
			}
			if v != want {
				t.Fatalf("Holds(%v): load %d is %d, want %d", s, i, v, want)
			}
			seen[v]++
		}
	}
	for v := api.Sure; v <= api.Open; v++ {
		if seen[v] < 200 {
			t.Error("too few of each verdict:", seen)
		}
	}
}

// P3.7: for ice, cracks, weights and a strength within, what is Sure, or Never, stays.
func TestBetterKnown(t *testing.T) {
	r := rand.New(rand.NewSource(32))
	decided := 0
	for range 4000 {
		s := someScene(r)
		n := scene{s.p, insideAll(r, s.ice), insideAll(r, s.cracks), slices.Clone(s.loads)}
		n.p.Strength = inside(r, n.p.Strength)
		for i, x := range n.loads {
			n.loads[i].Weight = inside(r, x.Weight)
		}
		wide, narrow := holds(t, s), holds(t, n)
		for i, v := range wide {
			if v != api.Open && narrow[i] != v {
				t.Fatalf("Holds(%v) = %v, and within, %v: %v", s, wide, n, narrow)
			}
			if v == api.Open && narrow[i] != v {
				decided++
			}
		}
		if len(s.loads) > 0 {
			a, _ := bear.Lane(s.p, s.ice, s.cracks, s.loads[0].Weight)
			b, e := bear.Lane(n.p, n.ice, n.cracks, n.loads[0].Weight)
			for i, v := range a {
				if v != api.Open && b[i] != v || e != api.OK {
					t.Fatalf("Lane: %v, and within %v, %v", a, b, e)
				}
			}
		}
	}
	if decided < 100 {
		t.Error("too little became known:", decided)
	}
}

// P3.8: with a load more no verdict becomes Sure, or ceases to be Never; one that is far away changes nothing.
func TestOneLoadMore(t *testing.T) {
	r := rand.New(rand.NewSource(33))
	worse := 0
	for range 4000 {
		s := someScene(r)
		before := holds(t, s)
		more := s
		more.loads = append(slices.Clone(s.loads), someLoad(r, s))
		after := holds(t, more)
		for i, v := range before {
			if v != api.Sure && after[i] == api.Sure || v == api.Never && after[i] != v {
				t.Fatalf("Holds(%v) = %v, and with one more %v", s, before, after)
			}
			if after[i] != v {
				worse++
			}
		}
		s.p.Shares = append(s.p.Shares, api.Share{From: 61})
		before = holds(t, s)
		// All others are in the first 200 metres.
		s.ice = append(slices.Clone(s.ice), ice(2, 0)...)
		s.loads = append(slices.Clone(s.loads), api.Load{At: 100*(len(s.ice)-1) + 61, Weight: one(200000)})
		if after := holds(t, s); !slices.Equal(after[:len(before)], before) {
			t.Fatalf("Holds(%v) = %v, without the last one %v", s, after, before)
		}
	}
	if worse < 100 {
		t.Error("a load more changed too little:", worse)
	}
}

// P3.8: loads in another order have the same verdicts, and so they have with ice, and cracks, in another order that comes to the same.
func TestOtherOrders(t *testing.T) {
	r := rand.New(rand.NewSource(34))
	for range 2000 {
		s := someScene(r)
		before := holds(t, s)
		turned := scene{s.p, s.ice, slices.Clone(s.cracks), slices.Clone(s.loads)}
		slices.Reverse(turned.loads)
		slices.Reverse(turned.cracks)
		after := holds(t, turned)
		slices.Reverse(after)
		if !slices.Equal(before, after) {
			t.Fatalf("Holds(%v) = %v, turned: %v", s, before, after)
		}
	}
}

// alone returns the verdict on a weight alone, that has stood for so many minutes on ice of one thickness.
func alone(t *testing.T, p api.Plate, thick, weight, minutes int) int {
	t.Helper()
	return holds(t, scene{p: p, ice: ice(1, thick), loads: []api.Load{{At: 50, Weight: one(weight), Stands: minutes}}})[0]
}

// P3.9: the ice of Need surely bears the weight, a millimetre less does not.
func TestNeedIsTheLeast(t *testing.T) {
	r := rand.New(rand.NewSource(35))
	over := 0
	for range 3000 {
		p := somePlate(r)
		p.Strength = some(r, 1, 100000, 1000)
		weight, minutes := r.Intn([...]int{3, 200, 200001}[r.Intn(3)]), r.Intn(2)*r.Intn(70)
		n, e := bear.Need(p, weight, minutes)
		if e != api.OK {
			over++
			if e != api.ErrOver || n != 0 || alone(t, p, 5000, weight, minutes) == api.Sure {
				t.Fatalf("Need(%v, %d, %d) = %d, %v", p, weight, minutes, n, e)
			}
			continue
		}
		if alone(t, p, n, weight, minutes) != api.Sure || n > 0 && alone(t, p, n-1, weight, minutes) == api.Sure {
			t.Fatalf("Need(%v, %d, %d) = %d", p, weight, minutes, n)
		}
	}
	if over < 20 || over > 2000 {
		t.Error("too few, or too many, weights are never borne:", over)
	}
}

// P3.9: a weight is surely borne just if it is at most Bears; thicker ice bears no less, for longer standing not more.
func TestBearsIsTheGreatest(t *testing.T) {
	r := rand.New(rand.NewSource(36))
	for range 3000 {
		p := somePlate(r)
		thick, minutes := r.Intn([...]int{10, 100, 2000}[r.Intn(3)]), r.Intn(2)*r.Intn(70)
		n, e := bear.Bears(p, thick, minutes)
		if e != api.OK {
			t.Fatal(e)
		}
		for _, w := range []int{0, n - 1, n, n + 1, n + 1 + r.Intn(1000)} {
			if w < 0 || w > 200000 {
				continue
			}
			if surely := alone(t, p, thick, w, minutes) == api.Sure; surely != (w <= n) {
				t.Fatalf("Bears(%v, %d, %d) = %d, and %d is surely borne: %v", p, thick, minutes, n, w, surely)
			}
		}
		thicker, _ := bear.Bears(p, thick+1+r.Intn(50), minutes)
		longer, _ := bear.Bears(p, thick, minutes+1+r.Intn(50))
		if thicker < n || longer > n {
			t.Fatalf("Bears(%v, %d, %d) = %d, thicker %d, longer %d", p, thick, minutes, n, thicker, longer)
		}
	}
}

// P3.2 and P3.9: all minutes up to that of Stands are surely borne, the next one is not.
func TestStandsIsTheGreatest(t *testing.T) {
	r := rand.New(rand.NewSource(37))
	seen := map[int]int{}
	for range 2000 {
		p := somePlate(r)
		thick, weight := 30+r.Intn(40), r.Intn(200)
		n, e := bear.Stands(p, thick, weight)
		if e != api.OK || n < -1 || n > 10000 {
			t.Fatal(n, e)
		}
		for minutes := range 70 {
			if surely := alone(t, p, thick, weight, minutes) == api.Sure; surely != (minutes <= n) {
				t.Fatalf("Stands(%v, %d, %d) = %d, and for %d it is surely borne: %v", p, thick, weight, n, minutes, surely)
			}
		}
		switch n {
		case -1, 10000:
			seen[n]++
		default:
			seen[0]++
			if n > 60 {
				t.Fatalf("Stands(%v, %d, %d) = %d, but the table has no entry there", p, thick, weight, n)
			}
		}
	}
	if len(seen) < 3 || seen[0] < 100 {
		t.Error("too few kinds:", seen)
	}
}

// P3.10: with the gap that is returned, and each greater one, each truck is Sure; with a metre less one is not.
func TestGapIsTheLeast(t *testing.T) {
	r := rand.New(rand.NewSource(38))
	seen := map[string]int{}
	for range 1500 {
		p, thick := somePlate(r), 40+r.Intn(60)
		var weights []api.Span
		for range r.Intn(6) {
			weights = append(weights, some(r, 0, 90, 5))
		}
		got, e := bear.Gap(p, thick, weights)
		if e != api.OK {
			t.Fatal(e)
		}
		// Behind 60 metres the tables have no more entries.
		for gap := range 70 {
			list := holds(t, scene{p: p, ice: ice(4, thick), loads: row(weights, gap)})
			sure := !slices.ContainsFunc(list, func(v int) bool { return v != api.Sure })
			if want := got >= 0 && gap >= got; sure != want {
				t.Fatalf("Gap(%v, %d, %v) = %d, but with %d all are Sure: %v", p, thick, weights, got, gap, sure)
			}
		}
		switch {
		case got < 0:
			seen["none"]++
		case got == 0:
			seen["0"]++
		case got > 60:
			t.Fatalf("Gap(%v, %d, %v) = %d, but the table has no entry there", p, thick, weights, got)
		default:
			seen["some"]++
		}
	}
	if seen["none"] < 100 || seen["0"] < 100 || seen["some"] < 100 {
		t.Error("too few kinds:", seen)
	}
}

// P3.4 and P3.11: a speed is Sure just if it is critical at no depth, and Never just if it is at all of them. Speeds are just those that are Sure.
func TestSpeedsAreExact(t *testing.T) {
	r := rand.New(rand.NewSource(39))
	seen := map[int]int{}
	for range 200 {
		p, depth, shore := someWaves(r), someDepth(r), r.Intn(150)
		list, e := bear.Speeds(p, depth, shore)
		if e != api.OK {
			t.Fatal(e)
		}
		for i, s := range list {
			if s.Lo > s.Hi || s.Lo < 0 || s.Hi > 1000 || i > 0 && s.Lo <= list[i-1].Hi+1 {
				t.Fatalf("Speeds(%v, %v, %d) = %v", p, depth, shore, list)
			}
		}
		for v := range 1001 {
			at := 0
			for d := depth.Lo; d <= depth.Hi; d++ {
				if critical(p, d, shore, v) {
					at++
				}
			}
			want := api.Open
			switch at {
			case 0:
				want = api.Sure
			case depth.Hi - depth.Lo + 1:
				want = api.Never
			}
			got, e := bear.Speed(p, depth, shore, v)
			if got != want || e != api.OK {
				t.Fatalf("Speed(%v, %v, %d, %d) = %d, %v, want %d", p, depth, shore, v, got, e, want)
			}
			in := slices.ContainsFunc(list, func(s api.Span) bool { return s.Lo <= v && v <= s.Hi })
			if in != (want == api.Sure) {
				t.Fatalf("Speeds(%v, %v, %d) = %v, and %d is %d", p, depth, shore, list, v, want)
			}
			seen[want]++
		}
	}
	for v := api.Sure; v <= api.Open; v++ {
		if seen[v] < 1000 {
			t.Error("too few of each verdict:", seen)
		}
	}
}

// P3.11: with depths within, what is Sure, or Never, stays; a speed that is Sure near the shore is Sure far away.
func TestDepthsWithin(t *testing.T) {
	r := rand.New(rand.NewSource(40))
	for range 20000 {
		p, depth, v := someWaves(r), someDepth(r), r.Intn(1+r.Intn(1001))
		near, a := bear.Speed(p, depth, p.Shore-1+r.Intn(2), v)
		if p.Shore == 0 {
			near, a = bear.Speed(p, depth, 0, v)
		}
		far, b := bear.Speed(p, depth, p.Shore+r.Intn(100), v)
		within, c := bear.Speed(p, inside(r, depth), p.Shore+r.Intn(100), v)
		if a != api.OK || b != api.OK || c != api.OK {
			t.Fatal(a, b, c)
		}
		if near == api.Sure && far != api.Sure {
			t.Fatalf("Speed(%v, %v, %d) is Sure near the shore, and %d far away", p, depth, v, far)
		}
		if far != api.Open && within != far {
			t.Fatalf("Speed(%v, %v, %d) = %d, and with depths within %d", p, depth, v, far, within)
		}
	}
}

// P3.12: a place is Sure just if Holds says so at each of its metres; likewise Never.
func TestLanesAreHolds(t *testing.T) {
	r := rand.New(rand.NewSource(41))
	seen := map[int]int{}
	for range 400 {
		s := someScene(r)
		weight := some(r, 0, 160, 4)
		list, e := bear.Lane(s.p, s.ice, s.cracks, weight)
		if e != api.OK || len(list) != len(s.ice) {
			t.Fatal(list, e)
		}
		for place, got := range list {
			count := map[int]int{}
			for m := 100 * place; m < 100*place+100; m++ {
				s.loads = moving(weight, m)
				count[holds(t, s)[0]]++
			}
			want := api.Open
			for _, v := range []int{api.Sure, api.Never} {
				if count[v] == 100 {
					want = v
				}
			}
			if got != want {
				t.Fatalf("Lane(%v, %v): place %d is %d, but there are %v", s, weight, place, got, count)
			}
			if len(count) > 1 {
				seen[0]++
			}
			seen[got]++
		}
	}
	if len(seen) < 4 || seen[0] < 20 || seen[api.Open] < 50 || seen[api.Sure] < 50 || seen[api.Never] < 50 {
		t.Error("too few kinds:", seen)
	}
}
