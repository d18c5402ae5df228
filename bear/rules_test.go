package bear_test

import (
	"math"
	"math/rand"
	"reflect"
	"slices"
	"testing"

	"sastrugi/api"
	"sastrugi/bear"
)

// wild returns a number of any kind: near the bounds, far out, or usual.
func wild(r *rand.Rand) int {
	edges := [...]int{math.MinInt, math.MinInt + 1, -1, 0, 1, 2, 49, 50, 99, 100, 199, 200, 500, 1000, 1001, 5000, 5001, 10000, 10001, 100000, 100001, 200000, 200001, 1000000, 1000001, 4000000, math.MaxInt - 1, math.MaxInt}
	return edges[r.Intn(len(edges))]
}

func wildSpan(r *rand.Rand) api.Span {
	if r.Intn(2) == 0 {
		return one(wild(r))
	}
	return span(wild(r), wild(r))
}

func wildSpans(r *rand.Rand, most int) []api.Span {
	list := make([]api.Span, r.Intn(3)*r.Intn(most))
	for i := range list {
		if r.Intn(8) == 0 {
			list[i] = wildSpan(r)
		}
	}
	return list
}

func wildTable(r *rand.Rand) []api.Share {
	list := table(r.Intn(24))
	for i := range list {
		if r.Intn(8) == 0 {
			list[i] = api.Share{From: wild(r), Part: wild(r)}
		}
	}
	return list
}

// wildPlate is a plate of which one part may have any value.
func wildPlate(r *rand.Rand) api.Plate {
	p := plate()
	switch r.Intn(6) {
	case 0:
		p.Strength = wildSpan(r)
	case 1:
		p.Shares = wildTable(r)
	case 2:
		p.Creep = wildTable(r)
	case 3:
		p.Near, p.Edge = wild(r), wild(r)
	case 4:
		p.Gravity, p.Low, p.High = wild(r), wild(r), wild(r)
	case 5:
		p.Shore, p.Wider = wild(r), wild(r)
	}
	return p
}

// P1, R3 and R5: arguments of any value give an error, or results; none panics, and with an error there are no results.
func TestAnyArguments(t *testing.T) {
	r := rand.New(rand.NewSource(42))
	for range 20000 {
		p, beds, cracks, loads := plate(), ice(2, 500), []api.Span{span(30, 40)}, moving(one(5000), 10, 150)
		switch r.Intn(4) {
		case 0:
			p = wildPlate(r)
		case 1:
			beds = wildSpans(r, 502)
		case 2:
			cracks = wildSpans(r, 27)
		case 3:
			loads = slices.Repeat(loads, r.Intn(17))
			for i := range loads {
				loads[i] = api.Load{At: wild(r), Weight: wildSpan(r), Stands: wild(r)}
			}
		}
		anyCall(t, r, scene{p, beds, cracks, loads})
	}
}

func anyCall(t *testing.T, r *rand.Rand, s scene) {
	t.Helper()
	bare := func(name string, e api.Errno, zero bool) {
		if e != api.OK && !zero {
			t.Fatalf("%s returns %v and something else", name, e)
		}
	}
	list, e := bear.Holds(s.p, s.ice, s.cracks, s.loads)
	bare("Holds", e, len(list) == 0)
	if len(s.ice) < 10 {
		list, e = bear.Lane(s.p, s.ice, s.cracks, wildSpan(r))
		bare("Lane", e, len(list) == 0)
	}
	n, e := bear.Bears(s.p, wild(r), wild(r))
	bare("Bears", e, n == 0)
	n, e = bear.Need(s.p, wild(r), wild(r))
	bare("Need", e, n == 0)
	n, e = bear.Stands(s.p, wild(r), wild(r))
	bare("Stands", e, n == 0)
	n, e = bear.Gap(s.p, wild(r), wildSpans(r, 17))
	bare("Gap", e, n == 0)
	n, e = bear.Speed(s.p, wildSpan(r), wild(r), wild(r))
	bare("Speed", e, n == 0)
	if r.Intn(10) == 0 {
		spans, e := bear.Speeds(s.p, wildSpan(r), wild(r))
		bare("Speeds", e, len(spans) == 0)
	}
}

// P1 and R7: sums and products of the greatest numbers are exact. Ice of 5000 bears 2500000 at most.
func TestGreatestNumbers(t *testing.T) {
	p := plate()
	p.Strength = one(100000)
	heavy := moving(one(200000), slices.Repeat([]int{99950}, 30)...)
	last := func(n, weight int) []api.Load {
		list := slices.Clone(heavy[:n])
		list[n-1].Weight = one(weight)
		return list
	}
	for i, c := range []struct {
		loads []api.Load
		want  int
	}{
		{heavy, api.Never},
		{heavy[:12], api.Sure},
		{last(13, 100000), api.Sure},
		{last(13, 100001), api.Never},
	} {
		list, e := bear.Holds(p, ice(1000, 5000), slices.Repeat([]api.Span{span(0, 99944)}, 50), c.loads)
		if e != api.OK || len(list) != len(c.loads) || list[0] != c.want || list[len(list)-1] != c.want {
			t.Errorf("%d: Holds = %v, %v, want %v", i, list, e, c.want)
		}
	}
	p.Shares, p.Creep = table(20), table(20)
	if n, e := bear.Gap(p, 5000, slices.Repeat([]api.Span{span(0, 200000)}, 30)); n != -1 || e != api.OK {
		t.Error(n, e) // however far away, nearly all of each other one counts
	}
	p.Shares = append(p.Shares[:19], api.Share{From: 10000})
	if n, e := bear.Gap(p, 5000, slices.Repeat([]api.Span{span(0, 200000)}, 30)); n != 1667 || e != api.OK {
		t.Error(n, e) // no more than five on each side may be nearer than 10000
	}
	p.Gravity, p.Low, p.High, p.Wider = 1000, 4000000, 4000000, 1000000
	for v, want := range map[int]int{0: api.Never, 1: api.Open, 1000: api.Open} {
		if got, e := bear.Speed(p, span(0, 10000), 0, v); got != want || e != api.OK {
			t.Errorf("Speed of %d = %d, %v", v, got, e)
		}
	}
	if list, e := bear.Speeds(p, one(10000), 0); e != api.OK || len(list) > 0 {
		t.Error(list, e) // up to the root of 80000000 all are critical
	}
	if list, e := bear.Speeds(p, one(10000), 50); e != api.OK || !slices.Equal(list, []api.Span{span(0, 1000)}) {
		t.Error(list, e) // only the root of 40000000 would be
	}
}

// P1: the longest lane with as many cracks as there may be.
func TestLongestLane(t *testing.T) {
	var cracks []api.Span
	want := slices.Repeat([]int{api.Sure}, 1000)
	for i := range 50 {
		cracks = append(cracks, span(2000*i+600, 2000*i+650))
		want[20*i+6] = api.Open // near the crack
		want[20*i+5] = api.Open // up to 5 metres in front of it
	}
	list, e := bear.Lane(plate(), ice(1000, 500), cracks, one(10000))
	if e != api.OK || !slices.Equal(list, want) {
		t.Error(list, e)
	}
}

// R4: arguments are neither changed nor kept, and results share no memory with them or with each other.
func TestArgumentsStay(t *testing.T) {
	p, beds, cracks := plate(), []api.Span{span(400, 500), one(500)}, []api.Span{span(30, 40), one(7)}
	loads, weights := moving(span(5000, 6000), 150, 10), []api.Span{span(0, 8000), one(3000)}
	calls := func() []any {
		a, _ := bear.Holds(p, beds, cracks, loads)
		b, _ := bear.Lane(p, beds, cracks, weights[0])
		c, _ := bear.Bears(p, 500, 60)
		d, _ := bear.Need(p, 10000, 60)
		e, _ := bear.Stands(p, 500, 6400)
		f, _ := bear.Gap(p, 500, weights)
		g, _ := bear.Speed(p, span(40, 50), 20, 60)
		h, _ := bear.Speeds(p, span(40, 50), 20)
		return []any{a, b, c, d, e, f, g, h}
	}
	first, second, again := calls(), calls(), calls()
	if !reflect.DeepEqual(p, plate()) || !slices.Equal(beds, []api.Span{span(400, 500), one(500)}) || !slices.Equal(cracks, []api.Span{span(30, 40), one(7)}) || !slices.Equal(loads, moving(span(5000, 6000), 150, 10)) || !slices.Equal(weights, []api.Span{span(0, 8000), one(3000)}) {
		t.Error("an argument was changed:", p, beds, cracks, loads, weights)
	}
	for i, x := range first {
		if v := reflect.ValueOf(x); v.Kind() == reflect.Slice {
			if v.Len() == 0 {
				t.Errorf("the result %d is meant to have something", i)
			}
			v.Index(0).SetZero()
		}
	}
	if !reflect.DeepEqual(second, again) || !reflect.DeepEqual(calls(), second) {
		t.Error("results share memory, or depend on what was called before")
	}
}

// R4: a nil slice and an empty one are equal.
func TestEmptyIsNil(t *testing.T) {
	for _, none := range [][]api.Span{nil, {}} {
		a, e := bear.Holds(plate(), none, none, []api.Load{})
		b, f := bear.Lane(plate(), none, none, one(1))
		c, g := bear.Gap(plate(), 0, none)
		if e != api.OK || f != api.OK || g != api.OK || len(a)+len(b) > 0 || c != 0 {
			t.Error(a, b, c, e, f, g)
		}
		list, e := bear.Holds(plate(), ice(1, 500), none, moving(one(10000), 5))
		if e != api.OK || !slices.Equal(list, []int{api.Sure}) {
			t.Error(list, e)
		}
	}
	for _, none := range [][]api.Share{nil, {}} {
		p := plate()
		if p.Shares = none; bear.Check(p) != api.ErrShort {
			t.Error("a plate without shares is valid")
		}
		p = plate()
		if p.Creep = none; bear.Check(p) != api.ErrShort {
			t.Error("a plate without creep is valid")
		}
	}
}
