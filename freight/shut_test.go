package freight_test

import (
	"math/rand"
	"slices"
	"testing"

	"sastrugi/api"
	"sastrugi/freight"
	"sastrugi/probe"
)

// hours is how long the season of a road is that is open hour by hour.
const hours = 12

// someRoad is a survey, with a course of its ice.
func someRoad(r *rand.Rand) (s api.Survey, course [][]int) {
	s.Sight = [3]int{r.Intn(2), 1, 2}
	var now []int
	thick, thin, grow := 500, 9, 9
	for range 1 + r.Intn(2) {
		x := api.Reach{Long: 1 + r.Intn(2), Slope: r.Intn(30), Thin: r.Intn(4), Grow: r.Intn(9), Every: 2 + r.Intn(8)}
		for range x.Long {
			now = append(now, thick)
			thick += r.Intn(2*x.Slope+1) - x.Slope
		}
		thin, grow = min(thin, x.Thin), min(grow, x.Grow)
		s.Reaches = append(s.Reaches, x)
	}
	// All places grow, or thin, alike, so that none differs more from the next one than before.
	for range hours {
		course = append(course, slices.Clone(now))
		change := r.Intn(thin+grow+1) - thin
		for i := range now {
			now[i] += change
		}
	}
	return s, course
}

// someLook is a look that a course fits.
func someLook(r *rand.Rand, course [][]int) api.Look {
	x := api.Look{Kind: 1 + r.Intn(3), At: r.Intn(len(course[0])), Hour: r.Intn(hours)}
	n := course[x.Hour][x.At]
	x.Value = span(n-r.Intn(20), n+r.Intn(20))
	return x
}

// shutHours are the hours in which a place is shut.
func shutHours(t *testing.T, s api.Survey, l []api.Look, m []api.Mark, need int) (list []bool) {
	t.Helper()
	for hour := range hours {
		shut, e := probe.Close(s, l, m, need, hour)
		if e != api.OK {
			t.Fatal(s, l, m, e)
		}
		list = append(list, len(shut) > 0)
	}
	return list
}

// unless is a freight of which nothing may go on the days on which the road is shut.
func unless(f api.Freight, shut []bool) api.Freight {
	f = copied(f)
	for day, is := range shut {
		if is {
			f.Caps[day] = one(0)
		}
	}
	return f
}

// T6: with more looks at the ice, which a course fits, the freight of a road that is open hour by hour costs no more by any plan, and nothing goes in an hour in which a place is shut.
func TestMoreLooks(t *testing.T) {
	r := rand.New(rand.NewSource(115))
	seen := map[string]int{}
	for range 400 {
		s, course := someRoad(r)
		var looks []api.Look
		for range 6 + r.Intn(12) {
			looks = append(looks, someLook(r, course))
		}
		if hour, place, e := probe.Breaks(s, looks, 0, course); e != api.OK || hour >= 0 || place >= 0 {
			t.Fatal(s, looks, course, hour, place, e)
		}
		var marks []api.Mark
		if at := r.Intn(len(course[0])); r.Intn(2) == 0 {
			hour := r.Intn(hours)
			marks = []api.Mark{{Kind: api.MarkCrack, From: at, To: at, Hour: hour, Speed: r.Intn(2)}, {Kind: api.MarkMend, From: 0, To: len(course[0]) - 1, Hour: hour + r.Intn(hours)}}
		}
		need := 460 + r.Intn(50)
		fewer, more := shutHours(t, s, looks[:3+r.Intn(4)], marks, need), shutHours(t, s, looks, marks, need)
		base := someFreight(r, size{1, 4, 1, 9, 9, 0})
		base.First, base.Last, base.Caps = one(0), one(hours-1), nil
		for range hours {
			base.Caps = append(base.Caps, some(r, 0, 4, 2))
		}
		a, b := unless(base, fewer), unless(base, more)
		plan := r.Perm(len(base.Orders))
		was, e1 := freight.Range(a, plan)
		is, e2 := freight.Range(b, plan)
		if e1 != api.OK || e2 != api.OK || is.Lo > was.Lo || is.Hi > was.Hi {
			t.Fatalf("%v by %v: %v, %v; with more looks %v, %v", base, plan, was, e1, is, e2)
		}
		if is != was {
			seen["less"]++
		}
		w := someWinter(r, b)
		way, _, _ := cost(t, b, w, plan)
		for hour, shut := range more {
			if !shut {
				seen["open"]++
				continue
			}
			seen["shut"]++
			way[0][hour]++
			if _, _, e := freight.Tell(b, w, way); e != api.ErrClash {
				t.Fatalf("%v in %v: a unit goes in the hour %d, in which a place is shut: %v", b, w, hour, e)
			}
			if way[0][hour]--; slices.ContainsFunc(way, func(l []int) bool { return l[hour] > 0 }) {
				t.Fatalf("%v in %v: Spread = %v, in the hour %d a place is shut", b, w, way, hour)
			}
		}
	}
	enough(t, 40, seen, "less", "open", "shut")
}
