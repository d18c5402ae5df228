package build_test

import (
	"math/rand"
	"slices"

	"sastrugi/api"
)

func span(low, high int) api.Span { return api.Span{Lo: low, Hi: high} }

func one(n int) api.Span { return span(n, n) }

// machines are those of the job J of the chapter's examples.
func machines() []api.Machine {
	return []api.Machine{{Mild: 0, Hard: 300, Shift: 10}, {Mild: 50, Hard: 200, Shift: 24}}
}

// job is the job J of the chapter's examples, and week are the days W.
func job() api.Job {
	return tasks(
		api.Task{Hours: span(5, 12)},
		api.Task{Machine: 1, Hours: one(10), Wait: one(24), From: span(0, 6), After: []int{0}},
		api.Task{Hours: one(4), From: one(30)},
	)
}

func week() []api.Weather {
	return []api.Weather{{Cold: one(100)}, {Cold: one(100)}, {Cold: one(250)}, {Cold: span(150, 210)}}
}

// tasks returns a job of the machines of J.
func tasks(list ...api.Task) api.Job { return api.Job{Machines: machines(), Tasks: list} }

// cold returns days with some cold.
func cold(list ...api.Span) []api.Weather {
	var days []api.Weather
	for _, s := range list {
		days = append(days, api.Weather{Cold: s})
	}
	return days
}

// numbers are those from 0 on, so many.
func numbers(n int) []int {
	var list []int
	for i := range n {
		list = append(list, i)
	}
	return list
}

// law is the law F of the examples of layer 1, and black its ice I.
func law() api.Frost {
	return api.Frost{
		Growth: 100,
		Latent: 10,
		Covers: []api.Cover{{Depth: 0, Part: one(1000000)}, {Depth: 100, Part: span(400000, 500000)}},
		Melt:   span(100000, 200000),
		Soak:   300000,
		White:  span(500000, 600000),
	}
}

func black() api.Ice { return api.Ice{Black: one(300)} }

func leg(a, b, long, open, cost int) api.Leg {
	return api.Leg{A: a, B: b, Long: long, Open: open, Cost: cost}
}

func net(nodes int, legs ...api.Leg) api.Net { return api.Net{Nodes: nodes, Legs: legs} }

// three is the net of the chapter's examples.
func three() api.Net {
	return net(3, leg(0, 1, 10, api.Sure, 4), leg(1, 2, 10, api.Sure, 9), leg(0, 2, 30, api.Sure, 9), leg(0, 2, 5, api.Open, 2))
}

// copied returns a job that shares no memory with another one.
func copied(j api.Job) api.Job {
	j.Machines, j.Tasks = slices.Clone(j.Machines), slices.Clone(j.Tasks)
	for i, t := range j.Tasks {
		j.Tasks[i].After = slices.Clone(t.After)
	}
	return j
}

// The truth, word by word as the document has it.

// truth is what truly is: the numbers of each task, and on which days each machine works.
type truth struct {
	hours, wait, from []int
	works             [][]bool
}

// done is when a task truly begins and ends.
type done struct{ begin, end int }

// end goes hour by hour, until a task has the working hours it takes.
func (x truth) end(j api.Job, task, begin int) int {
	m, end := j.Tasks[task].Machine, begin
	hour := begin
	for left := x.hours[task]; left > 0; hour++ {
		if hour >= 24*len(x.works[m]) {
			return 24*len(x.works[m]) + 1
		}
		if x.works[m][hour/24] && hour%24 < j.Machines[m].Shift {
			left--
			end = hour + 1
		}
	}
	return end
}

// all returns when each task truly begins and ends, and when the road truly opens.
func (x truth) all(j api.Job, days []api.Weather) (list []done, open int) {
	past := 24*len(days) + 1
	for i, t := range j.Tasks {
		b := x.from[i]
		for _, k := range t.After {
			b = max(b, list[k].end+x.wait[k])
		}
		for k := range i {
			if j.Tasks[k].Machine == t.Machine {
				b = max(b, list[k].end)
			}
		}
		b = min(b, past)
		d := done{b, x.end(j, i, b)}
		list = append(list, d)
		open = max(open, min(past, d.end+x.wait[i]))
	}
	return list, open
}

// verdict says whether a machine works on a day, number of cold by number.
func verdict(m api.Machine, d api.Weather) int {
	yes, no := 0, 0
	for c := d.Cold.Lo; c <= d.Cold.Hi; c++ {
		if m.Mild <= c && c <= m.Hard {
			yes++
		} else {
			no++
		}
	}
	switch {
	case no == 0:
		return api.Sure
	case yes == 0:
		return api.Never
	}
	return api.Open
}

// truthOf returns a truth with numbers and days that are chosen by functions.
func truthOf(j api.Job, days []api.Weather, number func(s api.Span) int, open func() bool) truth {
	var x truth
	for _, t := range j.Tasks {
		x.hours = append(x.hours, number(t.Hours))
		x.wait = append(x.wait, number(t.Wait))
		x.from = append(x.from, number(t.From))
	}
	for _, m := range j.Machines {
		var list []bool
		for _, d := range days {
			v := verdict(m, d)
			list = append(list, v == api.Sure || v == api.Open && open())
		}
		x.works = append(x.works, list)
	}
	return x
}

// worst is the truth in the worst case, and best the one with the least numbers and all days that may be.
func worst(j api.Job, days []api.Weather) truth {
	return truthOf(j, days, func(s api.Span) int { return s.Hi }, func() bool { return false })
}

func best(j api.Job, days []api.Weather) truth {
	return truthOf(j, days, func(s api.Span) int { return s.Lo }, func() bool { return true })
}

// someTruth is one of those that may be.
func someTruth(r *rand.Rand, j api.Job, days []api.Weather) truth {
	return truthOf(j, days, func(s api.Span) int { return pick(r, s) }, func() bool { return r.Intn(2) == 0 })
}

// opens returns when the road opens in the worst case.
func opens(j api.Job, days []api.Weather) int {
	_, open := worst(j, days).all(j, days)
	return open
}

// every gives all truths of a job to a function, if there are not too many of them, and tells whether it did.
func every(j api.Job, days []api.Weather, take func(x truth)) bool {
	count := 1
	choices := func(n int) {
		if count < 100000 {
			count *= n
		}
	}
	truthOf(j, days, func(s api.Span) int { choices(s.Hi - s.Lo + 1); return s.Lo }, func() bool { choices(2); return false })
	if count > 3000 {
		return false
	}
	for n := range count {
		digit := func(base int) int { d := n % base; n /= base; return d }
		take(truthOf(j, days, func(s api.Span) int { return s.Lo + digit(s.Hi-s.Lo+1) }, func() bool { return digit(2) == 1 }))
	}
	return true
}

// Random things.

func pick(r *rand.Rand, s api.Span) int { return s.Lo + r.Intn(s.Hi-s.Lo+1) }

// some returns a span between two numbers that is at most so wide.
func some(r *rand.Rand, low, high, wide int) api.Span {
	n := low + r.Intn(high-low+1)
	return span(n, min(high, n+r.Intn(wide+1)))
}

// inside returns a span within another one.
func inside(r *rand.Rand, s api.Span) api.Span {
	n := pick(r, s)
	return span(n, pick(r, span(n, s.Hi)))
}

// someDays returns up to so many days on which the machines of someJob work, or not, or perhaps.
func someDays(r *rand.Rand, most int) []api.Weather {
	var days []api.Weather
	for range most - r.Intn(most/2) {
		wide := 0
		if r.Intn(2) == 0 {
			wide = 80
		}
		days = append(days, api.Weather{Cold: some(r, 0, 220, wide)})
	}
	return days
}

// someJob returns a job of up to so many tasks, of which each takes hours up to a number.
func someJob(r *rand.Rand, most, hours int) api.Job {
	var j api.Job
	for range 1 + r.Intn(3) {
		j.Machines = append(j.Machines, api.Machine{Mild: r.Intn(60), Hard: 160 + r.Intn(100), Shift: 4 + r.Intn(21)})
	}
	wide := func() int { return r.Intn(3) * r.Intn(2) }
	for i := range r.Intn(most + 1) {
		t := api.Task{Machine: r.Intn(len(j.Machines)), Hours: some(r, 0, hours, wide())}
		if r.Intn(3) == 0 {
			t.Wait = some(r, 0, 20, wide())
		}
		if r.Intn(3) == 0 {
			t.From = some(r, 0, 60, wide())
		}
		for _, k := range r.Perm(i) {
			if r.Intn(3) == 0 {
				t.After = append(t.After, k)
			}
		}
		j.Tasks = append(j.Tasks, t)
	}
	return j
}

// someNet returns a net of up to so many nodes and legs; they are often as long, or as dear, as others.
func someNet(r *rand.Rand, nodes, legs int) api.Net {
	n := net(nodes - r.Intn(3))
	for range legs/2 + r.Intn(legs/2) {
		a, b := r.Intn(n.Nodes), r.Intn(n.Nodes)
		if a != b {
			n.Legs = append(n.Legs, leg(a, b, 1+r.Intn(4), max(1, r.Intn(4)), r.Intn(4)))
		}
	}
	return n
}
