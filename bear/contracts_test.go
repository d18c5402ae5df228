package bear_test

import (
	"slices"
	"testing"

	"sastrugi/api"
	"sastrugi/bear"
)

// P3.1: Holds, for scenes that are worked out by hand. Ice of 500 surely bears 10000, and at most 12500.
func TestHolds(t *testing.T) {
	crack := []api.Span{span(30, 40)}
	for _, c := range []struct {
		name        string
		ice, cracks []api.Span
		loads       []api.Load
		want        []int
	}{
		{"none", ice(1, 500), nil, nil, nil},
		{"no ice", nil, crack, nil, nil},
		{"just borne", ice(1, 500), nil, moving(one(10000), 50), []int{api.Sure}},
		{"perhaps just borne", ice(1, 500), nil, moving(span(10000, 12500), 50), []int{api.Open}},
		{"a kilogram more", ice(1, 500), nil, moving(one(10001), 50), []int{api.Open}},
		{"perhaps a kilogram more", ice(1, 500), nil, moving(span(10000, 10001), 50), []int{api.Open}},
		{"at most", ice(1, 500), nil, moving(one(12500), 50), []int{api.Open}},
		{"more than at most", ice(1, 500), nil, moving(span(12501, 12600), 50), []int{api.Never}},
		{"nothing on no ice", ice(1, 0), nil, moving(one(0), 50), []int{api.Sure}},
		{"a kilogram on no ice", ice(1, 0), nil, moving(one(1), 50), []int{api.Never}},
		{"whatever there is", []api.Span{span(0, 5000)}, nil, moving(span(0, 200000), 50), []int{api.Open}},
		{"thickness not known", []api.Span{span(500, 501)}, nil, moving(one(10001), 50), []int{api.Open}},
		{"by the thickest ice", []api.Span{span(400, 500)}, nil, moving(one(12501), 50), []int{api.Never}},
		{"by the thinnest ice", []api.Span{span(500, 600)}, nil, moving(one(10000), 50), []int{api.Sure}},
		{"two, 30 metres apart", ice(1, 500), nil, moving(one(8000), 10, 40), []int{api.Open, api.Open}},
		{"two, 19 metres apart", ice(1, 500), nil, moving(one(8000), 10, 29), []int{api.Never, api.Never}},
		{"two, 20 metres apart", ice(1, 500), nil, moving(one(8000), 30, 10), []int{api.Open, api.Open}},
		{"two, 89 metres apart", ice(1, 500), nil, moving(one(8000), 10, 99), []int{api.Open, api.Open}},
		{"two, 99 metres apart", ice(1, 500), nil, moving(one(8000), 0, 99), []int{api.Open, api.Open}},
		{"two, 100 metres apart", ice(2, 500), nil, moving(one(8000), 0, 100), []int{api.Sure, api.Sure}},
		{"two at one metre", ice(1, 500), nil, moving(one(5000), 10, 10), []int{api.Sure, api.Sure}},
		{"two at one metre, one more", ice(1, 500), nil, []api.Load{{At: 10, Weight: one(5000)}, {At: 10, Weight: one(5001)}}, []int{api.Open, api.Open}},
		{"nothing beside much", ice(1, 500), nil, []api.Load{{At: 0, Weight: one(0)}, {At: 20, Weight: one(20001)}}, []int{api.Open, api.Never}},
		{"thinner ice at the second", append(ice(1, 500), one(400)), nil, moving(one(8000), 1, 100), []int{api.Open, api.Never}},
		{"the last metre of a place", append(ice(1, 500), one(400)), nil, moving(one(10000), 99), []int{api.Sure}},
		{"the first metre of the next one", append(ice(1, 500), one(400)), nil, moving(one(10000), 100), []int{api.Never}},
		{"59 minutes", ice(1, 500), nil, standing(10000, 59), []int{api.Sure}},
		{"60 minutes", ice(1, 500), nil, standing(6400, 60), []int{api.Sure}},
		{"60 minutes, a kilogram more", ice(1, 500), nil, standing(6401, 60), []int{api.Open}},
		{"599 minutes, at most", ice(1, 500), nil, standing(8000, 599), []int{api.Open}},
		{"599 minutes, more", ice(1, 500), nil, standing(8001, 599), []int{api.Never}},
		{"600 minutes", ice(1, 500), nil, standing(2500, 600), []int{api.Sure}},
		{"10000 minutes, more", ice(1, 500), nil, standing(3126, 10000), []int{api.Never}},
		{"only one of two stands", ice(1, 500), nil, []api.Load{{At: 0, Weight: one(4000)}, {At: 20, Weight: one(6000), Stands: 60}}, []int{api.Sure, api.Open}},
		{"10 metres from a crack", ice(1, 500), crack, moving(one(5000), 50), []int{api.Sure}},
		{"near the crack, wherever it is", ice(1, 500), crack, moving(one(5000), 35), []int{api.Never}},
		{"a metre too far to be surely near", ice(1, 500), crack, moving(one(5000), 34), []int{api.Open}},
		{"on the other side", ice(1, 500), crack, moving(one(5000), 36), []int{api.Open}},
		{"perhaps near", ice(1, 500), crack, moving(one(5000), 45), []int{api.Open}},
		{"a metre too far to be near", ice(1, 500), crack, moving(one(5000), 46), []int{api.Sure}},
		{"perhaps near, in front", ice(1, 500), crack, moving(one(5000), 25), []int{api.Open}},
		{"a metre too far, in front", ice(1, 500), crack, moving(one(5000), 24), []int{api.Sure}},
		{"borne at the crack, too", ice(1, 500), crack, moving(one(2500), 35), []int{api.Sure}},
		{"the crack of the next place", ice(1, 500), []api.Span{one(104)}, moving(one(5000), 99), []int{api.Never}},
		{"a crack behind the ice", ice(1, 500), []api.Span{one(100000)}, moving(one(5000), 99), []int{api.Sure}},
		{"two cracks are no worse than one", ice(1, 500), []api.Span{one(50), one(51)}, moving(one(2500), 50), []int{api.Sure}},
		{"the second crack", ice(1, 500), []api.Span{one(10), one(50)}, moving(one(5000), 50), []int{api.Never}},
		{"half of 501, rounded down", ice(1, 501), []api.Span{one(50)}, moving(one(2501), 50), []int{api.Open}},
		{"a crack at one of two loads", ice(2, 500), []api.Span{one(0)}, moving(one(5000), 0, 100), []int{api.Never, api.Sure}},
	} {
		list, e := bear.Holds(plate(), c.ice, c.cracks, c.loads)
		if e != api.OK || !slices.Equal(list, c.want) {
			t.Errorf("%s: Holds = %v, %v, want %v", c.name, list, e, c.want)
		}
	}
}

// P3.1: a crack that is near only at its own metre, and one that takes all ice away, or none.
func TestEdges(t *testing.T) {
	for i, c := range []struct {
		near, edge, at, weight int
		want                   int
	}{
		{0, 500000, 50, 2501, api.Open},
		{0, 500000, 49, 10000, api.Sure},
		{0, 500000, 51, 10000, api.Sure},
		{10000, 500000, 99, 3126, api.Never},
		{5, 0, 55, 1, api.Never},
		{5, 0, 55, 0, api.Sure},
		{5, 1000000, 55, 10000, api.Sure},
		{5, 999999, 55, 9960, api.Sure}, // 499 count
		{5, 999999, 55, 9961, api.Open},
	} {
		p := plate()
		p.Near, p.Edge = c.near, c.edge
		list, e := bear.Holds(p, ice(1, 500), []api.Span{one(50)}, moving(one(c.weight), c.at))
		if e != api.OK || !slices.Equal(list, []int{c.want}) {
			t.Errorf("%d: Holds = %v, %v, want %v", i, list, e, c.want)
		}
	}
}

// P3.1: burdens and what ice bears are compared as they are, without rounding.
func TestNothingIsRounded(t *testing.T) {
	p := plate()
	p.Strength = one(1)
	p.Shares = []api.Share{{Part: 1000000}, {From: 1, Part: 1}, {From: 2, Part: 0}}
	p.Creep = []api.Share{{Part: 1000000}, {From: 1, Part: 333333}}
	// Ice of 1000 bears a kilogram; a millionth of the one beside it is too much.
	for i, c := range []struct {
		loads []api.Load
		want  []int
	}{
		{moving(one(1), 0, 2), []int{api.Sure, api.Sure}},
		{moving(one(1), 0, 1), []int{api.Never, api.Never}},
		{[]api.Load{{At: 0, Weight: one(1)}, {At: 1}}, []int{api.Sure, api.Sure}},
		{[]api.Load{{At: 0, Weight: one(1), Stands: 1}}, []int{api.Never}},
		// 333333 millionths of a kilogram are just as much as ice bears that stands.
		{[]api.Load{{At: 0, Stands: 1}, {At: 1, Weight: one(200000)}}, []int{api.Sure, api.Never}},
	} {
		list, e := bear.Holds(p, ice(1, 1000), nil, c.loads)
		if e != api.OK || !slices.Equal(list, c.want) {
			t.Errorf("%d: Holds = %v, %v, want %v", i, list, e, c.want)
		}
	}
	p.Shares[1].Part = 333333
	for weight, want := range map[int]int{1: api.Sure, 2: api.Never} {
		list, e := bear.Holds(p, ice(1, 1000), nil, []api.Load{{At: 0, Stands: 1}, {At: 1, Weight: one(weight)}})
		if e != api.OK || list[0] != want {
			t.Errorf("Holds = %v, %v, want %v", list, e, want)
		}
	}
}

// P3.1: Lane.
func TestLane(t *testing.T) {
	for _, c := range []struct {
		name        string
		ice, cracks []api.Span
		weight      api.Span
		want        []int
	}{
		{"no ice", nil, nil, one(6000), nil},
		{"the chapter's", []api.Span{one(500), span(400, 600)}, []api.Span{one(150)}, one(10000), []int{api.Sure, api.Open}},
		{"each place alone", []api.Span{one(500), one(300), span(300, 500)}, nil, one(6000), []int{api.Sure, api.Never, api.Open}},
		{"a crack that reaches over", ice(2, 500), []api.Span{one(104)}, one(10000), []int{api.Open, api.Open}},
		{"a crack that does not", ice(2, 500), []api.Span{one(105)}, one(10000), []int{api.Sure, api.Open}},
		{"from the other side", ice(3, 500), []api.Span{one(195)}, one(10000), []int{api.Sure, api.Open, api.Open}},
		{"Never near the crack, Open elsewhere", ice(1, 500), []api.Span{one(50)}, one(10001), []int{api.Open}},
		{"Sure or Never", ice(1, 500), []api.Span{one(50)}, one(10000), []int{api.Open}},
		{"Sure at the crack, too", ice(1, 500), []api.Span{one(50)}, one(2500), []int{api.Sure}},
		{"Never, with or without the crack", ice(1, 500), []api.Span{one(50)}, one(12501), []int{api.Never}},
	} {
		list, e := bear.Lane(plate(), c.ice, c.cracks, c.weight)
		if e != api.OK || !slices.Equal(list, c.want) {
			t.Errorf("%s: Lane = %v, %v, want %v", c.name, list, e, c.want)
		}
	}
	// Near enough cracks, the whole place is near one.
	p := plate()
	p.Near = 25
	if list, e := bear.Lane(p, ice(1, 500), []api.Span{one(25), one(74)}, one(3126)); e != api.OK || !slices.Equal(list, []int{api.Never}) {
		t.Error(list, e)
	}
}

// P3.2: Bears.
func TestBears(t *testing.T) {
	for i, c := range []struct{ thick, minutes, want int }{
		{500, 0, 10000}, {500, 59, 10000}, {500, 60, 6400}, {500, 599, 6400}, {500, 600, 2500}, {500, 10000, 2500}, {501, 0, 10040}, {0, 0, 0}, {4, 0, 0}, {5, 0, 1}, {7, 0, 1}, {8, 0, 2}, {5000, 0, 1000000}, {5000, 600, 250000},
	} {
		if n, e := bear.Bears(plate(), c.thick, c.minutes); n != c.want || e != api.OK {
			t.Errorf("%d: Bears = %d, %v, want %d", i, n, e, c.want)
		}
	}
	p := plate()
	p.Strength, p.Creep = one(100000), table(1)
	if n, e := bear.Bears(p, 5000, 10000); n != 2500000 || e != api.OK {
		t.Errorf("Bears = %d, %v", n, e)
	}
}

// P3.2: Need.
func TestNeed(t *testing.T) {
	weak, tired := plate(), plate()
	weak.Strength = span(1, 100000)
	tired.Creep = []api.Share{{Part: 1000000}, {From: 60}}
	for i, c := range []struct {
		p                     api.Plate
		weight, minutes, want int
		e                     api.Errno
	}{
		{plate(), 10000, 0, 500, api.OK},
		{plate(), 10001, 0, 501, api.OK},
		{plate(), 6400, 60, 500, api.OK},
		{plate(), 200000, 600, 4473, api.OK},
		{plate(), 200000, 10000, 4473, api.OK},
		{plate(), 0, 0, 0, api.OK},
		{plate(), 1, 0, 5, api.OK},
		{weak, 25, 0, 5000, api.OK},
		{weak, 26, 0, 0, api.ErrOver},
		{weak, 24, 0, 4899, api.OK},
		{tired, 1, 60, 0, api.ErrOver},
		{tired, 0, 60, 0, api.OK},
		{tired, 200000, 59, 2237, api.OK},
	} {
		if n, e := bear.Need(c.p, c.weight, c.minutes); n != c.want || e != c.e {
			t.Errorf("%d: Need = %d, %v, want %d, %v", i, n, e, c.want, c.e)
		}
	}
}

// P3.2: Stands.
func TestStands(t *testing.T) {
	last := plate()
	last.Creep = []api.Share{{Part: 1000000}, {From: 10000, Part: 0}}
	for i, c := range []struct {
		p                   api.Plate
		thick, weight, want int
	}{
		{plate(), 500, 6400, 599},
		{plate(), 500, 6401, 59},
		{plate(), 500, 10000, 59},
		{plate(), 500, 10001, -1},
		{plate(), 500, 2500, 10000},
		{plate(), 500, 2501, 599},
		{plate(), 0, 0, 10000},
		{plate(), 0, 1, -1},
		{plate(), 5000, 200000, 10000},
		{last, 500, 10000, 9999},
		{last, 500, 0, 10000},
	} {
		if n, e := bear.Stands(c.p, c.thick, c.weight); n != c.want || e != api.OK {
			t.Errorf("%d: Stands = %d, %v, want %d", i, n, e, c.want)
		}
	}
}

// P3.3: Gap.
func TestGap(t *testing.T) {
	far, ever := plate(), plate()
	far.Shares = []api.Share{{Part: 1000000}, {From: 10000}}
	ever.Shares = []api.Share{{Part: 1000000}, {From: 20, Part: 250000}}
	for i, c := range []struct {
		p       api.Plate
		thick   int
		weights []api.Span
		want    int
	}{
		{plate(), 500, nil, 0},
		{plate(), 500, []api.Span{one(8000), one(8000)}, 100},
		{plate(), 500, []api.Span{one(10000)}, 0},
		{plate(), 500, []api.Span{one(10001)}, -1},
		{plate(), 700, []api.Span{one(8000), one(8000), one(8000)}, 20},
		{plate(), 500, []api.Span{one(3000), one(3000), one(3000)}, 0},
		{plate(), 500, []api.Span{one(3000), one(3000), one(4001)}, 20},
		{plate(), 500, []api.Span{span(0, 8000), one(3000)}, 20},
		{plate(), 500, []api.Span{one(4000), one(5000), one(4000)}, 20},
		{plate(), 500, []api.Span{one(4000), one(7000), one(4000)}, 100},
		// With the half of the first one the last one is too heavy, up to a gap of 49.
		{plate(), 500, []api.Span{one(6000), one(0), one(7001)}, 50},
		// With half of both the middle is not, nor are the others; with both it is.
		{plate(), 500, []api.Span{one(6000), one(0), one(7000)}, 20},
		{far, 500, []api.Span{one(8000), one(8000)}, 10000},
		{far, 500, []api.Span{one(8000), one(0), one(8000)}, 10000},
		{far, 500, []api.Span{one(8000), one(8000), one(8000)}, 10000},
		// However far they are, a quarter of the others counts.
		{ever, 500, []api.Span{one(8000), one(8000)}, 20},
		{ever, 500, []api.Span{one(8000), one(8001)}, -1},
		{plate(), 0, []api.Span{one(0), one(0)}, 0},
		{plate(), 0, []api.Span{one(0), span(0, 1)}, -1},
	} {
		if n, e := bear.Gap(c.p, c.thick, c.weights); n != c.want || e != api.OK {
			t.Errorf("%d: Gap = %d, %v, want %d", i, n, e, c.want)
		}
	}
}

// P3.4: Speed. At a depth of 50 a speed is critical if its square is from 3136 to 7056, near the shore from 2352 to 8820.
func TestSpeed(t *testing.T) {
	for i, c := range []struct {
		depth          api.Span
		shore, v, want int
	}{
		{one(50), 100, 70, api.Never},
		{one(50), 100, 56, api.Never},
		{one(50), 100, 55, api.Sure},
		{one(50), 100, 84, api.Never},
		{one(50), 100, 85, api.Sure},
		{one(50), 50, 55, api.Sure},
		{one(50), 49, 55, api.Never},
		{one(50), 49, 49, api.Never},
		{one(50), 49, 48, api.Sure},
		{one(50), 0, 93, api.Never},
		{one(50), 0, 94, api.Sure},
		{span(40, 50), 100, 50, api.Sure},
		{span(40, 50), 100, 51, api.Open},
		{span(40, 50), 100, 56, api.Never},
		{span(40, 50), 100, 75, api.Never},
		{span(40, 50), 100, 76, api.Open},
		{span(40, 50), 100, 84, api.Open},
		{span(40, 50), 100, 85, api.Sure},
		{span(10, 200), 100, 70, api.Open},
		{one(0), 100, 0, api.Never},
		{one(0), 100, 1, api.Sure},
		{span(0, 1), 100, 0, api.Open},
		{span(0, 10000), 100, 1000, api.Open},
		{one(10000), 100000, 1000, api.Never},
		{span(0, 7000), 100, 1000, api.Sure},
	} {
		if v, e := bear.Speed(plate(), c.depth, c.shore, c.v); v != c.want || e != api.OK {
			t.Errorf("%d: Speed = %d, %v, want %d", i, v, e, c.want)
		}
	}
}

// P3.4: Speeds.
func TestSpeeds(t *testing.T) {
	sharp, wide := plate(), plate()
	sharp.Gravity, sharp.Low, sharp.High = 1, 1000000, 1000000
	wide.Wider = 1000000
	for i, c := range []struct {
		p     api.Plate
		depth api.Span
		shore int
		want  []api.Span
	}{
		{plate(), one(50), 100, []api.Span{span(0, 55), span(85, 1000)}},
		{plate(), span(40, 50), 100, []api.Span{span(0, 50), span(85, 1000)}},
		{plate(), one(50), 49, []api.Span{span(0, 48), span(94, 1000)}},
		{plate(), one(0), 100, []api.Span{span(1, 1000)}},
		{plate(), one(10000), 100, []api.Span{span(0, 791)}},
		// Only the speed whose square is the depth is critical, and a depth is a whole number.
		{sharp, one(9), 100, []api.Span{span(0, 2), span(4, 1000)}},
		{sharp, span(10, 15), 100, []api.Span{span(0, 1000)}},
		{sharp, span(4, 10), 100, []api.Span{span(0, 1), span(4, 1000)}},
		{sharp, span(0, 10000), 100, []api.Span{span(101, 1000)}},
		// The least part is 0 near the shore: there no speed is too small.
		{wide, one(50), 49, []api.Span{span(119, 1000)}},
		{wide, span(9000, 10000), 0, nil},
	} {
		if list, e := bear.Speeds(c.p, c.depth, c.shore); e != api.OK || !slices.Equal(list, c.want) {
			t.Errorf("%d: Speeds = %v, %v, want %v", i, list, e, c.want)
		}
	}
}

// P3.4: near the shore the band is rounded outwards.
func TestBandIsRoundedOutwards(t *testing.T) {
	p := plate()
	p.Gravity, p.Low, p.High, p.Wider = 1000, 999, 1000, 1
	// At a depth of 1000, 998 times it is the square of 998000 millionths; 1001 times it is rounded up from 1000.001.
	for i, c := range []struct{ depth, shore, v, want int }{
		{1000, 100, 31, api.Sure}, // 961 of 999 to 1000
		{1001, 100, 32, api.Sure}, // 1024 of 999.999 to 1001
		{1024, 100, 32, api.Never},
		{1023, 100, 32, api.Sure},
		{1023, 49, 32, api.Never}, // up to 1024.023
		{1026, 100, 32, api.Sure}, // from 1024.974
		{1026, 49, 32, api.Never}, // from 1023.948
		{1027, 49, 32, api.Sure},
	} {
		if v, e := bear.Speed(p, one(c.depth), c.shore, c.v); v != c.want || e != api.OK {
			t.Errorf("%d: Speed = %d, %v, want %d", i, v, e, c.want)
		}
	}
}
