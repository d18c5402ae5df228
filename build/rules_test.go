package build_test

import (
	"math"
	"math/rand"
	"reflect"
	"slices"
	"testing"

	"sastrugi/api"
	"sastrugi/build"
)

// wild returns a number of any kind: near the bounds, far out, or usual.
func wild(r *rand.Rand) int {
	edges := [...]int{math.MinInt, math.MinInt + 1, -1001, -1000, -1, 0, 1, 2, 3, 4, 24, 25, 40, 41, 100, 200, 201, 1000, 1001, 2000, 2001, 5000, 100001, 1000001, math.MaxInt - 1, math.MaxInt}
	return edges[r.Intn(len(edges))]
}

func wildSpan(r *rand.Rand) api.Span {
	if r.Intn(2) == 0 {
		return one(wild(r))
	}
	return span(wild(r), wild(r))
}

// wildJob is a job of which some parts may have any value.
func wildJob(r *rand.Rand) api.Job {
	j := someJob(r, 7, 30)
	if r.Intn(20) == 0 {
		j.Machines = slices.Repeat(j.Machines, 11)
	}
	if r.Intn(20) == 0 {
		j.Tasks = slices.Repeat(j.Tasks, 31)
	}
	for i := range j.Machines {
		for _, n := range []*int{&j.Machines[i].Mild, &j.Machines[i].Hard, &j.Machines[i].Shift} {
			if r.Intn(60) == 0 {
				*n = wild(r)
			}
		}
	}
	for i := range j.Tasks {
		t := &j.Tasks[i]
		switch r.Intn(40) {
		case 0:
			t.Machine = wild(r)
		case 1:
			t.Hours = wildSpan(r)
		case 2:
			t.Wait = wildSpan(r)
		case 3:
			t.From = wildSpan(r)
		case 4:
			t.After = append(t.After, wild(r))
		case 5:
			t.After = slices.Repeat(t.After, 2)
		}
	}
	return j
}

// wildDays are days of which some may have any value.
func wildDays(r *rand.Rand) []api.Weather {
	days := someDays(r, 20)
	for i := range days {
		switch r.Intn(200) {
		case 0:
			days[i].Cold = wildSpan(r)
		case 1:
			days[i].Fall = wildSpan(r)
		case 2:
			days[i].Water = wild(r)
		}
	}
	if r.Intn(30) == 0 {
		days = slices.Repeat(days, 41)
	}
	return days
}

// wildNet is a net of which some parts may have any value.
func wildNet(r *rand.Rand) api.Net {
	n := someNet(r, 8, 20)
	if r.Intn(10) == 0 {
		n.Nodes = wild(r)
	}
	for i := range n.Legs {
		x := &n.Legs[i]
		for _, k := range []*int{&x.A, &x.B, &x.Long, &x.Open, &x.Cost} {
			if r.Intn(200) == 0 {
				*k = wild(r)
			}
		}
		if r.Intn(100) == 0 {
			x.A = x.B
		}
	}
	if r.Intn(20) == 0 {
		n.Legs = slices.Repeat(n.Legs, 21)
	}
	return n
}

// bare checks that there is nothing beside an error.
func bare(t *testing.T, name string, e api.Errno, zero bool) {
	t.Helper()
	if e != api.OK && !zero {
		t.Fatalf("%s returns %v and something else", name, e)
	}
}

// P1, R3 and R5: jobs and days of any value give an error, or results; none panics, and with an error there are no results.
func TestAnyJob(t *testing.T) {
	r := rand.New(rand.NewSource(67))
	seen := map[api.Errno]int{}
	for range 5000 {
		j, days := wildJob(r), wildDays(r)
		seen[build.Check(j)]++
		if len(j.Machines) > 0 {
			list, e := build.Works(j.Machines[0], days)
			bare(t, "Works", e, len(list) == 0)
		}
		l, open, e := build.Times(j, days)
		bare(t, "Times", e, len(l) == 0 && open == one(0))
		list, e := build.Chain(j, days)
		bare(t, "Chain", e, len(list) == 0)
		n, e := build.Slack(j, days, r.Intn(3)*wild(r))
		bare(t, "Slack", e, n == 0)
		list, n, e = build.Best(j, days)
		bare(t, "Best", e, len(list) == 0 && n == 0)
		list, n, e = build.Thicken(law(), api.Ice{Black: wildSpan(r)}, days, wild(r), wild(r))
		bare(t, "Thicken", e, len(list) == 0 && n == 0)
	}
	for _, e := range []api.Errno{api.OK, api.ErrRange, api.ErrMissing, api.ErrFull, api.ErrExists, api.ErrOrder} {
		if seen[e] < 20 {
			t.Error("too few of each error:", seen)
		}
	}
}

// P1, R3 and R5: nets of any value.
func TestAnyNet(t *testing.T) {
	r := rand.New(rand.NewSource(68))
	seen := map[api.Errno]int{}
	for range 5000 {
		n := wildNet(r)
		seen[build.CheckNet(n)]++
		list, sure, perhaps, e := build.Detour(n, r.Intn(3)*wild(r), r.Intn(8))
		bare(t, "Detour", e, len(list) == 0 && sure == 0 && perhaps == 0)
		list, cost, e := build.Link(n)
		bare(t, "Link", e, len(list) == 0 && cost == 0)
	}
	for _, e := range []api.Errno{api.OK, api.ErrRange, api.ErrMissing, api.ErrFull, api.ErrClash, api.ErrKind} {
		if seen[e] < 20 {
			t.Error("too few of each error:", seen)
		}
	}
}

// P1 and R7: as much of all as there may be.
func TestGreatestJobs(t *testing.T) {
	season := slices.Repeat(cold(one(100)), 400)
	j := api.Job{Machines: slices.Repeat([]api.Machine{{Mild: -1000, Hard: 1000, Shift: 24}}, 10)}
	for i := range 30 {
		x := api.Task{Machine: i % 10, Hours: one(300), Wait: one(20), From: one(10)}
		for k := range i {
			x.After = append(x.After, k)
		}
		j.Tasks = append(j.Tasks, x)
	}
	l, open := times(t, j, season)
	// The last one would be frozen at 9,610.
	if open != one(9601) || l[29] != timing(10+29*320, 10+29*320+300) {
		t.Error(open, l)
	}
	if chain, e := build.Chain(j, season[:400]); e != api.ErrLate || len(chain) > 0 {
		t.Error(chain, e)
	}
	j.Tasks[0].From, j.Tasks[29].Wait = one(0), one(0)
	if _, open = times(t, j, season); open != one(9580) {
		t.Error(open)
	}
	if chain, e := build.Chain(j, season); e != api.OK || !slices.Equal(chain, numbers(30)) {
		t.Error(chain, e)
	}
	if n, e := build.Slack(j, season, 17); n != 0 || e != api.OK {
		t.Error(n, e)
	}
	six := api.Job{Machines: []api.Machine{{Mild: -1000, Hard: 1000, Shift: 6}}, Tasks: slices.Repeat([]api.Task{{Hours: one(399)}}, 6)}
	if order, open, e := build.Best(six, season); !slices.Equal(order, numbers(6)) || open != 24*398+6 || e != api.OK {
		t.Error(order, open, e)
	}
}

// P1 and R7: thickening on the coldest and the warmest days, beyond valid ice.
func TestGreatestFloods(t *testing.T) {
	l, x := law(), api.Ice{Black: one(5000)}
	l.Latent = 1
	water, day, e := build.Thicken(l, x, slices.Repeat(cold(one(1000)), 400), 5000, 200)
	if e != api.OK || day != 1 || !slices.Equal(water, slices.Repeat([]int{200}, 400)) {
		t.Error(water, day, e)
	}
	l.Melt = one(10000000)
	water, day, e = build.Thicken(l, x, slices.Repeat(cold(one(-1000)), 400), 1, 200)
	if e != api.OK || day != 0 || !slices.Equal(water, make([]int, 400)) {
		t.Error(water, day, e)
	}
}

// P1 and R7: a net with as many legs as there may be, each node of which is joined to others.
func TestGreatestNets(t *testing.T) {
	n := net(40)
	for i := range 200 {
		n.Legs = append(n.Legs, leg(i%40, (i+1+i/40)%40, 1000000, api.Sure, 100000))
	}
	// Five times 40 legs, each time to the node that is 1, 2, 3, 4 or 5 farther on.
	path, sure, perhaps, e := build.Detour(n, 0, 20)
	if e != api.OK || sure != 4000000 || perhaps != 4000000 || !slices.Equal(path, []int{160, 165, 170, 175}) {
		t.Error(path, sure, perhaps, e)
	}
	legs, cost, e := build.Link(n)
	if e != api.OK || cost != 3900000 || len(legs) != 39 || legs[38] != 38 {
		t.Error(legs, cost, e)
	}
}

// R4: arguments are neither changed nor kept, and results share no memory with them or with each other.
func TestArgumentsStay(t *testing.T) {
	j, days, n, floods, x := job(), week(), three(), cold(one(100), one(50)), api.Ice{Black: one(300)}
	calls := func() []any {
		a, _ := build.Works(j.Machines[0], days)
		b, c, _ := build.Times(j, days)
		d, _ := build.Chain(j, days)
		e, _ := build.Slack(j, days, 2)
		f, g, _ := build.Best(j, days)
		h, i, _ := build.Thicken(law(), x, floods, 307, 50)
		k, l, m, _ := build.Detour(n, 0, 2)
		o, p, _ := build.Link(n)
		return []any{a, b, c, d, e, f, g, h, i, k, l, m, o, p}
	}
	first, second, again := calls(), calls(), calls()
	if !reflect.DeepEqual(j, job()) || !reflect.DeepEqual(days, week()) || !reflect.DeepEqual(n, three()) || !reflect.DeepEqual(floods, cold(one(100), one(50))) {
		t.Error("an argument was changed:", j, days, n, floods)
	}
	for i, x := range first {
		if v := reflect.ValueOf(x); v.Kind() == reflect.Slice {
			if v.Len() == 0 {
				t.Errorf("the result %d is meant to have something", i)
			}
			v.Index(0).SetZero()
		}
	}
	if !reflect.DeepEqual(second, again) || !reflect.DeepEqual(calls(), second) {
		t.Error("results share memory, or depend on what was called before")
	}
}

// R4: a nil slice and an empty one are equal.
func TestEmptyIsNil(t *testing.T) {
	for _, none := range [][]api.Weather{nil, {}} {
		a, e1 := build.Works(machines()[0], none)
		b, c, e2 := build.Times(job(), none)
		d, f, e3 := build.Best(job(), none)
		g, h, e4 := build.Thicken(law(), black(), none, 0, 0)
		_, e5 := build.Chain(job(), none)
		if len(a) > 0 || len(b) != 3 || c != one(1) || len(d) != 3 || f != 1 || len(g) > 0 || h != 0 || e1 != api.OK || e2 != api.OK || e3 != api.OK || e4 != api.OK || e5 != api.ErrLate {
			t.Error(a, b, c, d, f, g, h, e1, e2, e3, e4, e5)
		}
	}
	for _, j := range []api.Job{{}, {Machines: []api.Machine{}, Tasks: []api.Task{}}} {
		a, b, e1 := build.Times(j, week())
		c, d, e2 := build.Best(j, week())
		_, e3 := build.Chain(j, week())
		if len(a) > 0 || b != one(0) || len(c) > 0 || d != 0 || e1 != api.OK || e2 != api.OK || e3 != api.ErrMissing {
			t.Error(a, b, c, d, e1, e2, e3)
		}
	}
	for _, none := range [][]int{nil, {}} {
		a, b := times(t, tasks(api.Task{Hours: one(1), After: none}), week())
		if len(a) != 1 || b != one(1) {
			t.Error(a, b)
		}
	}
	for _, none := range [][]api.Leg{nil, {}} {
		n := api.Net{Nodes: 1, Legs: none}
		a, b, c, e1 := build.Detour(n, 0, 0)
		d, f, e2 := build.Link(n)
		if len(a) > 0 || b != 0 || c != 0 || len(d) > 0 || f != 0 || e1 != api.OK || e2 != api.OK {
			t.Error(a, b, c, d, f, e1, e2)
		}
	}
}
