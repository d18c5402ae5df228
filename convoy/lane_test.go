package convoy_test

import (
	"math/rand"
	"slices"
	"testing"

	"sastrugi/api"
	"sastrugi/bear"
	"sastrugi/convoy"
)

// somePlate returns a plate on which loads count up to 50 metres away.
func somePlate(r *rand.Rand) api.Plate {
	near := 1 + r.Intn(25)
	return api.Plate{
		Strength: some(r, 30000, 50000, 3000),
		Shares:   []api.Share{{Part: api.Mil}, {From: near, Part: r.Intn(api.Mil)}, {From: near + 1 + r.Intn(25), Part: 0}},
		Creep:    []api.Share{{Part: api.Mil}},
		Gravity:  98,
		Low:      640000,
		High:     1440000,
	}
}

// T2: in each course of an accepted convoy whose Gap is at least the least gap of as many trucks of one weight, the ice bears each truck on the lane, with all others that are on it.
func TestTheLaneBears(t *testing.T) {
	r := rand.New(rand.NewSource(57))
	most := 0
	for range 150 {
		p, thick := somePlate(r), 300+r.Intn(300)
		limit, e := bear.Bears(p, thick, 0)
		if e != api.OK {
			t.Fatal(e)
		}
		weight := some(r, limit/2, limit, 500)
		c := road(200+r.Intn(200), 2*(5+r.Intn(8)), r.Intn(3))
		gap, e := bear.Gap(p, thick, slices.Repeat([]api.Span{weight}, 8))
		if e != api.OK || gap < 0 {
			t.Fatal(gap, e)
		}
		c.Gap = max(c.Gap, gap)
		for range 40 {
			x := copied(c)
			x.Trucks = append(x.Trucks, someTruck(r, c.Length, min(12, c.Gap/2), 60))
			if len(x.Trucks) <= 8 && convoy.Check(x) == api.OK && accepted(x) {
				c = x
			}
		}
		for range 3 {
			most = max(most, someCourse(r, c, horizon(c)).borne(t, c, p, thick, weight))
		}
	}
	if most < 4 {
		t.Error("there are never more trucks on the lane than", most)
	}
}

// borne checks that the ice surely bears all trucks on the lane in each minute of a course. It returns how many are on it at most.
func (s course) borne(t *testing.T, c api.Convoy, p api.Plate, thick int, weight api.Span) int {
	t.Helper()
	most := 0
	ice := slices.Repeat([]api.Span{one(thick)}, c.Length/100+1)
	for minute := range horizon(c) {
		var loads []api.Load
		for i, x := range c.Trucks {
			if gone := s.gone[i][minute]; lanes(c, x, s.fails[i], gone, minute) {
				loads = append(loads, api.Load{At: metre(c, x, gone), Weight: weight})
			}
		}
		list, e := bear.Holds(p, ice, nil, loads)
		if e != api.OK || slices.ContainsFunc(list, func(v int) bool { return v != api.Sure }) {
			t.Fatalf("%v: in the minute %d the loads %v are %v, %v on %d by %v", c, minute, loads, list, e, thick, p)
		}
		most = max(most, len(loads))
	}
	return most
}
