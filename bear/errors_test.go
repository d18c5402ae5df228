package bear_test

import (
	"math"
	"testing"

	"sastrugi/api"
	"sastrugi/bear"
)

// plateErrors are plates with the error of each.
var plateErrors = []struct {
	name   string
	change func(p *api.Plate)
	want   api.Errno
}{
	{"as it is", func(p *api.Plate) {}, api.OK},
	{"least strength", func(p *api.Plate) { p.Strength = one(1) }, api.OK},
	{"most strength", func(p *api.Plate) { p.Strength = one(100000) }, api.OK},
	{"strength below", func(p *api.Plate) { p.Strength = span(0, 1) }, api.ErrRange},
	{"strength above", func(p *api.Plate) { p.Strength = span(1, 100001) }, api.ErrRange},
	{"strength turned, before shares", func(p *api.Plate) { p.Strength, p.Shares = span(2, 1), nil }, api.ErrOrder},
	{"no shares, before creep", func(p *api.Plate) { p.Shares, p.Creep = nil, table(21) }, api.ErrShort},
	{"most shares", func(p *api.Plate) { p.Shares = table(20) }, api.OK},
	{"one share", func(p *api.Plate) { p.Shares = table(1) }, api.OK},
	{"shares above, before their own errors", func(p *api.Plate) { p.Shares = make([]api.Share, 21) }, api.ErrFull},
	{"first from above 0", func(p *api.Plate) { p.Shares[0].From = 1 }, api.ErrOrder},
	{"first from below", func(p *api.Plate) { p.Shares[0].From = -1 }, api.ErrRange},
	{"first from above", func(p *api.Plate) { p.Shares[0].From = 10001 }, api.ErrRange},
	{"first from, before its part", func(p *api.Plate) { p.Shares[0] = api.Share{From: 1, Part: -1} }, api.ErrOrder},
	{"first part less than all", func(p *api.Plate) { p.Shares[0].Part = 999999 }, api.ErrForm},
	{"first part above", func(p *api.Plate) { p.Shares[0].Part = 1000001 }, api.ErrRange},
	{"first part below", func(p *api.Plate) { p.Shares[0].Part = -1 }, api.ErrRange},
	{"first part, before the second from", func(p *api.Plate) { p.Shares[0].Part, p.Shares[1].From = 0, -1 }, api.ErrForm},
	{"equal froms", func(p *api.Plate) { p.Shares[1].From = 0 }, api.ErrOrder},
	{"froms turned", func(p *api.Plate) { p.Shares[2].From = 19 }, api.ErrOrder},
	{"froms that are equal, behind the first", func(p *api.Plate) { p.Shares[2].From = 20 }, api.ErrOrder},
	{"most from", func(p *api.Plate) { p.Shares[2].From = 10000 }, api.OK},
	{"from above", func(p *api.Plate) { p.Shares[2].From = 10001 }, api.ErrRange},
	{"from below", func(p *api.Plate) { p.Shares[1].From = -1 }, api.ErrRange},
	{"from, before its part", func(p *api.Plate) { p.Shares[1] = api.Share{From: 0, Part: -1} }, api.ErrOrder},
	{"part below", func(p *api.Plate) { p.Shares[2].Part = -1 }, api.ErrRange},
	{"part above", func(p *api.Plate) { p.Shares[1].Part = 1000001 }, api.ErrRange},
	{"part greater than before", func(p *api.Plate) { p.Shares[2].Part = 500001 }, api.ErrOrder},
	{"part as before", func(p *api.Plate) { p.Shares[1].Part, p.Shares[2].Part = 1000000, 1000000 }, api.OK},
	{"part, before the next from", func(p *api.Plate) { p.Shares[1].Part, p.Shares[2].From = -1, 0 }, api.ErrRange},
	{"shares, before creep", func(p *api.Plate) { p.Shares[2].Part, p.Creep = 500001, nil }, api.ErrOrder},
	{"no creep", func(p *api.Plate) { p.Creep = []api.Share{} }, api.ErrShort},
	{"most creep", func(p *api.Plate) { p.Creep = table(20) }, api.OK},
	{"creep above", func(p *api.Plate) { p.Creep = table(21) }, api.ErrFull},
	{"creep from 1", func(p *api.Plate) { p.Creep[0].From = 1 }, api.ErrOrder},
	{"creep from above", func(p *api.Plate) { p.Creep[2].From = 10001 }, api.ErrRange},
	{"creep less than all", func(p *api.Plate) { p.Creep[0].Part = 0 }, api.ErrForm},
	{"creep greater than before", func(p *api.Plate) { p.Creep[2].Part = 640001 }, api.ErrOrder},
	{"creep, before near", func(p *api.Plate) { p.Creep[1].From, p.Near = 0, -1 }, api.ErrOrder},
	{"least near", func(p *api.Plate) { p.Near = 0 }, api.OK},
	{"most near", func(p *api.Plate) { p.Near = 10000 }, api.OK},
	{"near below", func(p *api.Plate) { p.Near = -1 }, api.ErrRange},
	{"near above", func(p *api.Plate) { p.Near = 10001 }, api.ErrRange},
	{"least edge", func(p *api.Plate) { p.Edge = 0 }, api.OK},
	{"most edge", func(p *api.Plate) { p.Edge = 1000000 }, api.OK},
	{"edge below", func(p *api.Plate) { p.Edge = -1 }, api.ErrRange},
	{"edge above, before the band", func(p *api.Plate) { p.Edge, p.Low, p.High = 1000001, 2, 1 }, api.ErrRange},
	{"least gravity", func(p *api.Plate) { p.Gravity = 1 }, api.OK},
	{"most gravity", func(p *api.Plate) { p.Gravity = 1000 }, api.OK},
	{"gravity below, before the band", func(p *api.Plate) { p.Gravity, p.Low, p.High = 0, 2, 1 }, api.ErrRange},
	{"gravity above", func(p *api.Plate) { p.Gravity = 1001 }, api.ErrRange},
	{"least band", func(p *api.Plate) { p.Low, p.High = 1, 1 }, api.OK},
	{"most band", func(p *api.Plate) { p.Low, p.High = 4000000, 4000000 }, api.OK},
	{"low below", func(p *api.Plate) { p.Low = 0 }, api.ErrRange},
	{"low above", func(p *api.Plate) { p.Low = 4000001 }, api.ErrRange},
	{"high below, before the order", func(p *api.Plate) { p.High = 0 }, api.ErrRange},
	{"high above", func(p *api.Plate) { p.High = 4000001 }, api.ErrRange},
	{"band turned, before shore", func(p *api.Plate) { p.Low, p.Shore = 1440001, -1 }, api.ErrOrder},
	{"least shore", func(p *api.Plate) { p.Shore = 0 }, api.OK},
	{"most shore", func(p *api.Plate) { p.Shore = 10000 }, api.OK},
	{"shore below", func(p *api.Plate) { p.Shore = -1 }, api.ErrRange},
	{"shore above", func(p *api.Plate) { p.Shore = 10001 }, api.ErrRange},
	{"least wider", func(p *api.Plate) { p.Wider = 0 }, api.OK},
	{"most wider", func(p *api.Plate) { p.Wider = 1000000 }, api.OK},
	{"wider below", func(p *api.Plate) { p.Wider = -1 }, api.ErrRange},
	{"wider above", func(p *api.Plate) { p.Wider = 1000001 }, api.ErrRange},
}

// P3.1 to P3.4, and R1: the error of the plate comes before all others.
func TestPlateErrors(t *testing.T) {
	badIce, badCracks, badWeights := make([]api.Span, 1001), make([]api.Span, 51), make([]api.Span, 31)
	for _, c := range plateErrors {
		p := plate()
		c.change(&p)
		if e := bear.Check(p); e != c.want {
			t.Errorf("%s: Check = %v, want %v", c.name, e, c.want)
		}
		if c.want == api.OK {
			continue
		}
		holds, e0 := bear.Holds(p, badIce, badCracks, make([]api.Load, 31))
		lane, e1 := bear.Lane(p, badIce, badCracks, one(-1))
		bears, e2 := bear.Bears(p, -1, -1)
		need, e3 := bear.Need(p, -1, -1)
		stands, e4 := bear.Stands(p, -1, -1)
		gap, e5 := bear.Gap(p, -1, badWeights)
		speed, e6 := bear.Speed(p, span(2, 1), -1, -1)
		speeds, e7 := bear.Speeds(p, span(2, 1), -1)
		for i, e := range []api.Errno{e0, e1, e2, e3, e4, e5, e6, e7} {
			if e != c.want {
				t.Errorf("%s: function %d returns %v, want %v", c.name, i, e, c.want)
			}
		}
		if len(holds)+len(lane)+len(speeds) > 0 || bears != 0 || need != 0 || stands != 0 || gap != 0 || speed != 0 {
			t.Errorf("%s: something is returned beside an error", c.name)
		}
	}
}

// P3.1, and R1: the errors of the ice come behind that of the plate, then those of the cracks, then all others.
func TestRoadErrors(t *testing.T) {
	badCracks := make([]api.Span, 51)
	for i, c := range []struct {
		ice, cracks []api.Span
		want        api.Errno
	}{
		{nil, nil, api.OK},
		{make([]api.Span, 1000), make([]api.Span, 50), api.OK},
		{make([]api.Span, 1001), badCracks, api.ErrFull},
		{append(make([]api.Span, 1000), span(2, 1)), nil, api.ErrFull},
		{[]api.Span{span(0, 5000)}, nil, api.OK},
		{[]api.Span{span(0, 5001)}, badCracks, api.ErrRange},
		{[]api.Span{span(-1, 0)}, badCracks, api.ErrRange},
		{[]api.Span{span(2, 1), span(-1, 0)}, badCracks, api.ErrOrder},
		{[]api.Span{span(1, 2), span(5001, 0)}, badCracks, api.ErrRange},
		{ice(1, 500), badCracks, api.ErrFull},
		{ice(1, 500), []api.Span{span(0, 100000)}, api.OK},
		{ice(1, 500), []api.Span{span(0, 100001)}, api.ErrRange},
		{ice(1, 500), []api.Span{span(-1, 0)}, api.ErrRange},
		{ice(1, 500), []api.Span{span(2, 1), span(-1, 0)}, api.ErrOrder},
		{ice(1, 500), []api.Span{one(7), span(100001, 0)}, api.ErrRange},
	} {
		badLoads, badWeight := make([]api.Load, 31), span(-1, -2)
		if c.want == api.OK {
			badLoads, badWeight = nil, one(0)
		}
		holds, a := bear.Holds(plate(), c.ice, c.cracks, badLoads)
		lane, b := bear.Lane(plate(), c.ice, c.cracks, badWeight)
		if a != c.want || b != c.want || a != api.OK && len(holds)+len(lane) > 0 {
			t.Errorf("%d: Holds = %v, %v, Lane = %v, %v, want %v", i, holds, a, lane, b, c.want)
		}
	}
}

// P3.1 and R1: the errors of loads.
func TestLoadErrors(t *testing.T) {
	long := []api.Load{{At: 199, Weight: span(0, 200000), Stands: 10000}}
	for i, c := range []struct {
		loads []api.Load
		want  api.Errno
	}{
		{nil, api.OK},
		{make([]api.Load, 30), api.OK},
		{make([]api.Load, 31), api.ErrFull},
		{append(make([]api.Load, 30), api.Load{At: -1}), api.ErrFull},
		{long, api.OK},
		{[]api.Load{{At: 200, Weight: span(2, 1)}}, api.ErrMissing},
		{[]api.Load{{At: -1, Weight: one(-1), Stands: -1}}, api.ErrMissing},
		{[]api.Load{{At: math.MaxInt}}, api.ErrMissing},
		{[]api.Load{{At: 199, Weight: one(200001)}}, api.ErrRange},
		{[]api.Load{{Weight: one(-1)}}, api.ErrRange},
		{[]api.Load{{Weight: span(2, 1), Stands: -1}}, api.ErrOrder},
		{[]api.Load{{Stands: -1}}, api.ErrRange},
		{[]api.Load{{Stands: 10001}}, api.ErrRange},
		{[]api.Load{{Stands: 10001}, {At: -1}}, api.ErrRange},
		{[]api.Load{long[0], {At: -1}, {Stands: 10001}}, api.ErrMissing},
	} {
		list, e := bear.Holds(plate(), ice(2, 500), nil, c.loads)
		if e != c.want || e != api.OK && len(list) > 0 {
			t.Errorf("%d: Holds = %v, %v, want %v", i, list, e, c.want)
		}
	}
	if list, e := bear.Holds(plate(), nil, nil, moving(one(0), 0)); e != api.ErrMissing || len(list) > 0 {
		t.Error("a load lies on no ice:", list, e)
	}
}

// P3.1 and P3.3, and R1: the errors of weights, behind that of the thickness.
func TestWeightErrors(t *testing.T) {
	for i, c := range []struct {
		weight api.Span
		want   api.Errno
	}{
		{one(0), api.OK},
		{span(0, 200000), api.OK},
		{span(0, 200001), api.ErrRange},
		{span(-1, 0), api.ErrRange},
		{span(200001, 0), api.ErrRange},
		{span(2, 1), api.ErrOrder},
	} {
		lane, a := bear.Lane(plate(), ice(2, 500), nil, c.weight)
		if a != c.want || a != api.OK && len(lane) > 0 {
			t.Errorf("%d: Lane = %v, %v, want %v", i, lane, a, c.want)
		}
		gap, b := bear.Gap(plate(), 5000, []api.Span{one(1), c.weight})
		if b != c.want || b != api.OK && gap != 0 {
			t.Errorf("%d: Gap = %d, %v, want %v", i, gap, b, c.want)
		}
	}
	for i, c := range []struct {
		thick   int
		weights []api.Span
		want    api.Errno
	}{
		{5001, make([]api.Span, 31), api.ErrRange},
		{-1, make([]api.Span, 31), api.ErrRange},
		{0, make([]api.Span, 31), api.ErrFull},
		{0, append(make([]api.Span, 30), one(-1)), api.ErrFull},
		{0, []api.Span{span(2, 1), one(-1)}, api.ErrOrder},
		{0, []api.Span{one(-1), span(2, 1)}, api.ErrRange},
		{0, make([]api.Span, 30), api.OK},
		{5000, nil, api.OK},
	} {
		if n, e := bear.Gap(plate(), c.thick, c.weights); n != 0 || e != c.want {
			t.Errorf("%d: Gap = %d, %v, want %v", i, n, e, c.want)
		}
	}
}

// P3.2: the bounds of thicknesses, weights and minutes.
func TestBounds(t *testing.T) {
	good := func(n, most int) api.Errno {
		if n < 0 || n > most {
			return api.ErrRange
		}
		return api.OK
	}
	numbers := []int{math.MinInt, -1, 0, 5000, 5001, 10000, 10001, 200000, 200001, math.MaxInt}
	// It bears no less for standing, and enough for each weight.
	p := plate()
	p.Creep = table(1)
	for _, n := range numbers {
		for _, m := range numbers {
			want := max(good(n, 5000), good(m, 10000))
			if x, e := bear.Bears(p, n, m); e != want || e != api.OK && x != 0 {
				t.Errorf("Bears(%d, %d) = %d, %v", n, m, x, e)
			}
			want = max(good(n, 200000), good(m, 10000))
			if x, e := bear.Need(p, n, m); e != want || e != api.OK && x != 0 {
				t.Errorf("Need(%d, %d) = %d, %v", n, m, x, e)
			}
			want = max(good(n, 5000), good(m, 200000))
			if x, e := bear.Stands(p, n, m); e != want || e != api.OK && x != 0 {
				t.Errorf("Stands(%d, %d) = %d, %v", n, m, x, e)
			}
		}
	}
}

// P3.4, and R1: the errors of depths, shores and speeds.
func TestWaveErrors(t *testing.T) {
	for i, c := range []struct {
		depth    api.Span
		shore, v int
		want     api.Errno
	}{
		{one(0), 0, 0, api.OK},
		{span(0, 10000), 100000, 1000, api.OK},
		{span(0, 10001), 0, 0, api.ErrRange},
		{span(-1, 0), 0, 0, api.ErrRange},
		{span(10001, 0), 0, 0, api.ErrRange},
		{span(2, 1), -1, -1, api.ErrOrder},
		{one(1), -1, 0, api.ErrRange},
		{one(1), 100001, 0, api.ErrRange},
		{one(1), 0, -1, api.ErrRange},
		{one(1), 0, 1001, api.ErrRange},
		{one(1), 0, math.MaxInt, api.ErrRange},
	} {
		x, e := bear.Speed(plate(), c.depth, c.shore, c.v)
		if e != c.want || e != api.OK && x != 0 {
			t.Errorf("%d: Speed = %d, %v, want %v", i, x, e, c.want)
		}
		if c.v < 0 && c.shore >= 0 || c.v > 1000 {
			c.want = api.OK // Speeds is given no speed
		}
		list, e := bear.Speeds(plate(), c.depth, c.shore)
		if e != c.want || e != api.OK && len(list) > 0 {
			t.Errorf("%d: Speeds = %v, %v, want %v", i, list, e, c.want)
		}
	}
}
