package build_test

import (
	"math"
	"slices"
	"testing"

	"sastrugi/api"
	"sastrugi/build"
)

// jobErrors are jobs with the error of each.
var jobErrors = []struct {
	name   string
	change func(j *api.Job)
	want   api.Errno
}{
	{"as it is", func(j *api.Job) {}, api.OK},
	{"nothing", func(j *api.Job) { *j = api.Job{} }, api.OK},
	{"machines alone", func(j *api.Job) { j.Tasks = nil }, api.OK},
	{"most machines", func(j *api.Job) { j.Machines = slices.Repeat(j.Machines, 5) }, api.OK},
	{"machines above, before their own errors", func(j *api.Job) { j.Machines = make([]api.Machine, 11) }, api.ErrFull},
	{"machines above, before tasks", func(j *api.Job) {
		j.Machines, j.Tasks = slices.Repeat(j.Machines, 6), []api.Task{{Machine: -1}}
	}, api.ErrFull},
	{"warmest", func(j *api.Job) { j.Machines[0].Mild = -1000 }, api.OK},
	{"coldest", func(j *api.Job) { j.Machines[0].Mild, j.Machines[0].Hard = 1000, 1000 }, api.OK},
	{"mild below", func(j *api.Job) { j.Machines[0].Mild = -1001 }, api.ErrRange},
	{"mild above, before the order", func(j *api.Job) { j.Machines[0].Mild = 1001 }, api.ErrRange},
	{"hard above", func(j *api.Job) { j.Machines[0].Hard = 1001 }, api.ErrRange},
	{"hard below, before the order", func(j *api.Job) { j.Machines[0].Hard = -1001 }, api.ErrRange},
	{"one cold alone", func(j *api.Job) { j.Machines[0].Mild = 300 }, api.OK},
	{"milder than hard, before the shift", func(j *api.Job) { j.Machines[0].Mild, j.Machines[0].Shift = 301, 0 }, api.ErrOrder},
	{"shortest shift", func(j *api.Job) { j.Machines[0].Shift = 1 }, api.OK},
	{"no shift", func(j *api.Job) { j.Machines[1].Shift = 0 }, api.ErrRange},
	{"shift longer than a day", func(j *api.Job) { j.Machines[1].Shift = 25 }, api.ErrRange},
	{"shift, before the next machine", func(j *api.Job) { j.Machines[0].Shift, j.Machines[1].Mild = 25, 201 }, api.ErrRange},
	{"order, before the next machine", func(j *api.Job) { j.Machines[0].Mild, j.Machines[1].Shift = 301, 0 }, api.ErrOrder},
	{"machine, before too many tasks", func(j *api.Job) { j.Machines[1].Mild, j.Tasks = 201, make([]api.Task, 31) }, api.ErrOrder},
	{"most tasks", func(j *api.Job) { j.Tasks = make([]api.Task, 30) }, api.OK},
	{"tasks above", func(j *api.Job) { j.Tasks = make([]api.Task, 31) }, api.ErrFull},
	{"tasks above, before their own errors", func(j *api.Job) { j.Machines, j.Tasks = nil, make([]api.Task, 31) }, api.ErrFull},
	{"tasks without machines", func(j *api.Job) { j.Machines = nil }, api.ErrMissing},
	{"no such machine, before hours", func(j *api.Job) { j.Tasks[1].Machine, j.Tasks[1].Hours = 2, one(-1) }, api.ErrMissing},
	{"machine below", func(j *api.Job) { j.Tasks[0].Machine = -1 }, api.ErrMissing},
	{"machine far out", func(j *api.Job) { j.Tasks[2].Machine = math.MinInt }, api.ErrMissing},
	{"most hours", func(j *api.Job) { j.Tasks[1].Hours, j.Tasks[1].Wait, j.Tasks[1].From = one(2000), one(2000), one(2000) }, api.OK},
	{"no hours", func(j *api.Job) { j.Tasks[1].Hours, j.Tasks[1].Wait, j.Tasks[1].From = one(0), one(0), one(0) }, api.OK},
	{"hours above", func(j *api.Job) { j.Tasks[1].Hours = span(0, 2001) }, api.ErrRange},
	{"hours above, before the order", func(j *api.Job) { j.Tasks[1].Hours = span(2001, 0) }, api.ErrRange},
	{"hours below", func(j *api.Job) { j.Tasks[1].Hours = span(-1, 0) }, api.ErrRange},
	{"hours below, before the order", func(j *api.Job) { j.Tasks[1].Hours = span(0, -1) }, api.ErrRange},
	{"hours turned, before wait", func(j *api.Job) { j.Tasks[1].Hours, j.Tasks[1].Wait = span(2, 1), one(-1) }, api.ErrOrder},
	{"wait below", func(j *api.Job) { j.Tasks[1].Wait = span(-1, 1) }, api.ErrRange},
	{"wait above, before from", func(j *api.Job) { j.Tasks[1].Wait, j.Tasks[1].From = span(0, 2001), span(2, 1) }, api.ErrRange},
	{"wait turned, before from", func(j *api.Job) { j.Tasks[1].Wait, j.Tasks[1].From = span(2, 1), one(-1) }, api.ErrOrder},
	{"from below", func(j *api.Job) { j.Tasks[1].From = span(-1, 0) }, api.ErrRange},
	{"from above, before after", func(j *api.Job) { j.Tasks[1].From, j.Tasks[1].After = span(0, 2001), []int{1} }, api.ErrRange},
	{"from turned, before after", func(j *api.Job) { j.Tasks[1].From, j.Tasks[1].After = span(2, 1), []int{1} }, api.ErrOrder},
	{"after itself", func(j *api.Job) { j.Tasks[1].After = []int{1} }, api.ErrMissing},
	{"after a later one", func(j *api.Job) { j.Tasks[1].After = []int{0, 2} }, api.ErrMissing},
	{"after a number below", func(j *api.Job) { j.Tasks[0].After = []int{-1} }, api.ErrMissing},
	{"the first one after anything", func(j *api.Job) { j.Tasks[0].After = []int{0} }, api.ErrMissing},
	{"after the one before", func(j *api.Job) { j.Tasks[2].After = []int{1} }, api.OK},
	{"after both, in any order", func(j *api.Job) { j.Tasks[2].After = []int{1, 0} }, api.OK},
	{"after one twice", func(j *api.Job) { j.Tasks[2].After = []int{0, 0} }, api.ErrExists},
	{"after one twice, farther away", func(j *api.Job) { j.Tasks[2].After = []int{0, 1, 0} }, api.ErrExists},
	{"twice, before one that is missing", func(j *api.Job) { j.Tasks[2].After = []int{0, 0, 2} }, api.ErrExists},
	{"missing, before twice", func(j *api.Job) { j.Tasks[2].After = []int{0, 2, 0} }, api.ErrMissing},
	{"missing twice", func(j *api.Job) { j.Tasks[2].After = []int{7, 7} }, api.ErrMissing},
	{"after, before the next task", func(j *api.Job) { j.Tasks[1].After, j.Tasks[2].Machine = []int{0, 0}, 2 }, api.ErrExists},
}

// P5.1, P5.2 and P5.3, and R1: the error of the job comes before all others; and R3: nothing is returned beside it.
func TestJobErrors(t *testing.T) {
	bad := make([]api.Weather, 401)
	for _, c := range jobErrors {
		j := job()
		c.change(&j)
		if e := build.Check(j); e != c.want {
			t.Errorf("%s: Check = %v, want %v", c.name, e, c.want)
		}
		want := c.want
		if want == api.OK {
			want = api.ErrFull
		}
		for i, e := range answers(t, j, bad) {
			if e != want {
				t.Errorf("%s: function %d returns %v, want %v", c.name, i, e, want)
			}
		}
	}
}

// answers are the errors of all functions that a job with wrong days is given to, with arguments that are otherwise wrong.
func answers(t *testing.T, j api.Job, days []api.Weather) []api.Errno {
	t.Helper()
	l, open, e1 := build.Times(j, days)
	chain, e2 := build.Chain(j, days)
	slack, e3 := build.Slack(j, days, -1)
	order, best, e4 := build.Best(j, days)
	if len(l) > 0 || open != one(0) || len(chain) > 0 || slack != 0 || len(order) > 0 || best != 0 {
		t.Error("something is returned beside an error:", l, open, chain, slack, order, best)
	}
	return []api.Errno{e1, e2, e3, e4}
}

// dayErrors are days with the error of each.
var dayErrors = []struct {
	days []api.Weather
	want api.Errno
}{
	{make([]api.Weather, 401), api.ErrFull},
	{cold(span(-1001, 0)), api.ErrRange},
	{cold(one(0), span(2, 1)), api.ErrOrder},
	{[]api.Weather{{Fall: one(-1)}}, api.ErrRange},
	{[]api.Weather{{Fall: span(2, 1)}}, api.ErrOrder},
	{[]api.Weather{{Water: 201}}, api.ErrRange},
}

// P5.1, P5.2 and P5.3: the error of the days comes behind that of the job, or the machine, and before all others.
func TestDayErrors(t *testing.T) {
	for i, c := range dayErrors {
		for k, e := range answers(t, tasks(make([]api.Task, 7)...), c.days) {
			if e != c.want {
				t.Errorf("%d: function %d returns %v, want %v", i, k, e, c.want)
			}
		}
		for k, e := range answers(t, api.Job{}, c.days) {
			if e != c.want {
				t.Errorf("%d: without tasks, function %d returns %v, want %v", i, k, e, c.want)
			}
		}
		for _, m := range []struct {
			m    api.Machine
			want api.Errno
		}{{machines()[0], c.want}, {api.Machine{}, api.ErrRange}, {api.Machine{Mild: 1}, api.ErrOrder}, {api.Machine{Mild: -1001, Shift: 1}, api.ErrRange}, {api.Machine{Hard: 1001, Shift: 1}, api.ErrRange}, {api.Machine{Shift: 25}, api.ErrRange}} {
			if l, e := build.Works(m.m, c.days); e != m.want || len(l) > 0 {
				t.Errorf("%d: Works(%v) = %v, %v, want %v", i, m.m, l, e, m.want)
			}
		}
	}
	if l, open, e := build.Times(job(), make([]api.Weather, 400)); len(l) != 3 || open == one(0) || e != api.OK {
		t.Error("as many days as there may be:", l, open, e)
	}
}

// P5.2 and P5.3: what is wrong with a job for a chain, for slack and for orders.
func TestOwnErrors(t *testing.T) {
	late := tasks(api.Task{Hours: span(0, 41)})
	for i, c := range []struct {
		j    api.Job
		task int
		want api.Errno
	}{
		{job(), 0, api.OK},
		{job(), 2, api.OK},
		{job(), 3, api.ErrMissing},
		{job(), -1, api.ErrMissing},
		{job(), math.MaxInt, api.ErrMissing},
		{job(), math.MinInt, api.ErrMissing},
		{tasks(), 0, api.ErrMissing},
		{api.Job{}, 0, api.ErrMissing},
		{late, 0, api.ErrLate},
		{late, 1, api.ErrMissing},
		{late, -1, api.ErrMissing},
	} {
		if n, e := build.Slack(c.j, week(), c.task); e != c.want || n != 0 && e != api.OK {
			t.Errorf("%d: Slack = %d, %v, want %v", i, n, e, c.want)
		}
	}
	for i, c := range []struct {
		j    api.Job
		want api.Errno
	}{{job(), api.OK}, {tasks(), api.ErrMissing}, {api.Job{}, api.ErrMissing}, {late, api.ErrLate}, {tasks(api.Task{From: one(97)}), api.ErrLate}, {tasks(api.Task{From: one(96)}), api.OK}, {tasks(api.Task{Wait: one(97)}), api.ErrLate}, {tasks(api.Task{Wait: one(96)}), api.OK}} {
		if l, e := build.Chain(c.j, week()); e != c.want || len(l) > 0 && e != api.OK {
			t.Errorf("%d: Chain = %v, %v, want %v", i, l, e, c.want)
		}
	}
	if l, open, e := build.Best(tasks(make([]api.Task, 7)...), week()); len(l) > 0 || open != 0 || e != api.ErrFull {
		t.Error(l, open, e)
	}
	if l, open, e := build.Best(tasks(make([]api.Task, 6)...), week()); len(l) != 6 || open != 0 || e != api.OK {
		t.Error(l, open, e)
	}
}

// P5.4: the errors of Thicken, in their order.
func TestThickenErrors(t *testing.T) {
	for _, c := range []struct {
		name   string
		change func(l *api.Frost, x *api.Ice, days *[]api.Weather, need, most *int)
		want   api.Errno
	}{
		{"as it is", func(l *api.Frost, x *api.Ice, days *[]api.Weather, need, most *int) { *need, *most = 307, 50 }, api.OK},
		{"greatest need", func(l *api.Frost, x *api.Ice, days *[]api.Weather, need, most *int) { *need, *most = 5000, 200 }, api.OK},
		{"least need", func(l *api.Frost, x *api.Ice, days *[]api.Weather, need, most *int) { *need, *most = 0, 0 }, api.OK},
		{"need below", func(l *api.Frost, x *api.Ice, days *[]api.Weather, need, most *int) { *most = 0 }, api.ErrRange},
		{"need above", func(l *api.Frost, x *api.Ice, days *[]api.Weather, need, most *int) { *need, *most = 5001, 0 }, api.ErrRange},
		{"most below", func(l *api.Frost, x *api.Ice, days *[]api.Weather, need, most *int) { *need, *most = 0, -1 }, api.ErrRange},
		{"most above", func(l *api.Frost, x *api.Ice, days *[]api.Weather, need, most *int) { *need, *most = 0, 201 }, api.ErrRange},
		{"most above, without days", func(l *api.Frost, x *api.Ice, days *[]api.Weather, need, most *int) {
			*need, *most, *days = 0, 201, nil
		}, api.ErrRange},
		{"law", func(l *api.Frost, x *api.Ice, days *[]api.Weather, need, most *int) {
			l.Covers, x.Black, *days = nil, span(2, 1), make([]api.Weather, 401)
		}, api.ErrShort},
		{"ice", func(l *api.Frost, x *api.Ice, days *[]api.Weather, need, most *int) {
			x.Black, *days = span(2, 1), make([]api.Weather, 401)
		}, api.ErrOrder},
		{"days", func(l *api.Frost, x *api.Ice, days *[]api.Weather, need, most *int) { *days = make([]api.Weather, 401) }, api.ErrFull},
		{"water of a day, though it is not used", func(l *api.Frost, x *api.Ice, days *[]api.Weather, need, most *int) {
			(*days)[1].Water, *need, *most = 201, 0, 0
		}, api.ErrRange},
		{"cold of a day", func(l *api.Frost, x *api.Ice, days *[]api.Weather, need, most *int) { (*days)[1].Cold = span(2, 1) }, api.ErrOrder},
	} {
		l, x, days, need, most := law(), black(), cold(one(100), one(50)), -1, -1
		c.change(&l, &x, &days, &need, &most)
		water, day, e := build.Thicken(l, x, days, need, most)
		if e != c.want || e != api.OK && (len(water) > 0 || day != 0) {
			t.Errorf("%s: Thicken = %v, %d, %v, want %v", c.name, water, day, e, c.want)
		}
	}
}

// netErrors are nets with the error of each.
var netErrors = []struct {
	name   string
	change func(n *api.Net)
	want   api.Errno
}{
	{"as it is", func(n *api.Net) {}, api.OK},
	{"nothing", func(n *api.Net) { *n = api.Net{} }, api.ErrRange},
	{"one node", func(n *api.Net) { *n = net(1) }, api.OK},
	{"most nodes", func(n *api.Net) { n.Nodes = 40 }, api.OK},
	{"nodes above, before legs", func(n *api.Net) { n.Nodes, n.Legs = 41, make([]api.Leg, 201) }, api.ErrRange},
	{"nodes below", func(n *api.Net) { n.Nodes = -1 }, api.ErrRange},
	{"most legs", func(n *api.Net) { n.Legs = slices.Repeat(n.Legs, 50) }, api.OK},
	{"legs above, before their own errors", func(n *api.Net) { n.Legs = make([]api.Leg, 201) }, api.ErrFull},
	{"first node missing, before the second", func(n *api.Net) { n.Legs[1] = api.Leg{A: 3, B: 3} }, api.ErrMissing},
	{"first node below", func(n *api.Net) { n.Legs[1].A = -1 }, api.ErrMissing},
	{"second node missing", func(n *api.Net) { n.Legs[1].B = 3 }, api.ErrMissing},
	{"second node below, before the length", func(n *api.Net) { n.Legs[1].B, n.Legs[1].Long = -1, 0 }, api.ErrMissing},
	{"from a node to itself, before the length", func(n *api.Net) { n.Legs[1].A, n.Legs[1].Long = 2, 0 }, api.ErrClash},
	{"shortest", func(n *api.Net) { n.Legs[1].Long = 1 }, api.OK},
	{"longest", func(n *api.Net) { n.Legs[1].Long = 1000000 }, api.OK},
	{"long below, before the verdict", func(n *api.Net) { n.Legs[1].Long, n.Legs[1].Open = 0, 0 }, api.ErrRange},
	{"long above", func(n *api.Net) { n.Legs[1].Long = 1000001 }, api.ErrRange},
	{"cheapest", func(n *api.Net) { n.Legs[1].Cost = 0 }, api.OK},
	{"dearest", func(n *api.Net) { n.Legs[1].Cost = 100000 }, api.OK},
	{"cost below, before the verdict", func(n *api.Net) { n.Legs[1].Cost, n.Legs[1].Open = -1, 4 }, api.ErrRange},
	{"cost above", func(n *api.Net) { n.Legs[1].Cost = 100001 }, api.ErrRange},
	{"verdict 0", func(n *api.Net) { n.Legs[1].Open = 0 }, api.ErrKind},
	{"verdict 4, before the next leg", func(n *api.Net) { n.Legs[1].Open, n.Legs[2].A = 4, 9 }, api.ErrKind},
	{"verdict far out", func(n *api.Net) { n.Legs[1].Open = math.MinInt }, api.ErrKind},
}

// P5.5, R1 and R3: the error of the net comes before that of the nodes, and nothing is returned beside it.
func TestNetErrors(t *testing.T) {
	for _, c := range netErrors {
		n := three()
		c.change(&n)
		if e := build.CheckNet(n); e != c.want {
			t.Errorf("%s: CheckNet = %v, want %v", c.name, e, c.want)
		}
		want := c.want
		if want == api.OK {
			want = api.ErrMissing
		}
		path, sure, perhaps, e := build.Detour(n, -1, n.Nodes)
		if e != want || len(path) > 0 || sure != 0 || perhaps != 0 {
			t.Errorf("%s: Detour = %v, %d, %d, %v, want %v", c.name, path, sure, perhaps, e, want)
		}
		if legs, cost, e := build.Link(n); c.want != api.OK && (e != c.want || len(legs) > 0 || cost != 0) {
			t.Errorf("%s: Link = %v, %d, %v, want %v", c.name, legs, cost, e, c.want)
		}
	}
	for _, c := range []struct{ from, to int }{{-1, 0}, {0, -1}, {3, 0}, {0, 3}, {math.MinInt, math.MaxInt}, {3, 3}} {
		if path, sure, perhaps, e := build.Detour(three(), c.from, c.to); e != api.ErrMissing || len(path) > 0 || sure != 0 || perhaps != 0 {
			t.Errorf("Detour from %d to %d = %v, %d, %d, %v", c.from, c.to, path, sure, perhaps, e)
		}
	}
	for i, n := range []api.Net{net(2), net(40), net(2, leg(0, 1, 1, api.Never, 0)), net(3, leg(0, 1, 1, api.Sure, 0), leg(1, 0, 1, api.Open, 0))} {
		if legs, cost, e := build.Link(n); e != api.ErrMissing || len(legs) > 0 || cost != 0 {
			t.Errorf("%d: Link = %v, %d, %v", i, legs, cost, e)
		}
	}
}
