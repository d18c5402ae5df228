package build

import (
	"iter"
	"slices"

	"sastrugi/api"
	"sastrugi/check"
)

// dayLong is how many hours a day has.
const dayLong = 24

// The two cases between which everything lies that truly may be: nothing begins or ends earlier than in the one, or later than in the other.
const (
	least = iota
	worst
)

// extreme is one of the two cases: which number of a span it takes, and whether something of which there is a verdict is so.
type extreme struct {
	number func(s api.Span) int
	holds  func(verdict int) bool
}

// extremes returns both cases.
func extremes() [2]extreme {
	return [...]extreme{
		least: {
			number: func(s api.Span) int { return s.Lo },
			holds:  func(verdict int) bool { return verdict != api.Never },
		},
		worst: {
			number: func(s api.Span) int { return s.Hi },
			holds:  func(verdict int) bool { return verdict == api.Sure },
		},
	}
}

// site is a job with the verdicts, day by day, on whether each of its machines works.
type site struct {
	api.Job
	works [][]int
	past  int
}

// siteOf returns the site of a job on some days, or the first error of the job, then of the days.
func siteOf(j api.Job, days []api.Weather) (site, api.Errno) {
	if e := check.First(Check(j), checkDays(days)); e != api.OK {
		return site{}, e
	}
	s := site{Job: j, past: dayLong*len(days) + 1}
	for _, m := range j.Machines {
		s.works = append(s.works, works(m, days))
	}
	return s, api.OK
}

// works returns for each day the verdict on whether a machine works on it.
func works(m api.Machine, days []api.Weather) []int {
	var list []int
	for _, d := range days {
		verdict := api.Open
		switch {
		case m.Mild <= d.Cold.Lo && d.Cold.Hi <= m.Hard:
			verdict = api.Sure
		case d.Cold.Hi < m.Mild || m.Hard < d.Cold.Lo:
			verdict = api.Never
		}
		list = append(list, verdict)
	}
	return list
}

// shifts hands out the working hours of a machine from an hour on, day by day.
func (s site) shifts(x extreme, machine, from int) iter.Seq[api.Span] {
	return func(yield func(api.Span) bool) {
		days := s.works[machine]
		for day := from / dayLong; day < len(days); day++ {
			morning := dayLong * day
			hours := api.Span{Lo: max(from, morning), Hi: morning + s.Machines[machine].Shift - 1}
			if x.holds(days[day]) && hours.Lo <= hours.Hi && !yield(hours) {
				return
			}
		}
	}
}

// turn is when a task is done: the hours at which it begins and ends, and the one from which on those after it may begin.
type turn struct{ begin, end, rested int }

// turns returns when each task is done in a case.
func (s site) turns(x extreme) []turn {
	var list []turn
	free := make([]int, len(s.Machines)) // the hour from which on each machine has no task
	for _, t := range s.Tasks {
		begin := max(x.number(t.From), free[t.Machine])
		for _, before := range t.After {
			begin = max(begin, list[before].rested)
		}
		begin = min(begin, s.past)
		end := s.end(x, t, begin)
		free[t.Machine] = end
		list = append(list, turn{begin, end, end + x.number(t.Wait)})
	}
	return list
}

// end returns when a task ends that begins at an hour.
func (s site) end(x extreme, t api.Task, begin int) int {
	rest := x.number(t.Hours)
	if rest == 0 {
		return begin
	}
	for hours := range s.shifts(x, t.Machine, begin) {
		long := hours.Hi - hours.Lo + 1
		if rest <= long {
			return hours.Lo + rest
		}
		rest -= long
	}
	return s.past
}

// opens returns when the road opens if its tasks are done as a list says.
func (s site) opens(list []turn) int {
	open := 0
	for _, t := range list {
		open = max(open, t.rested)
	}
	return min(open, s.past)
}

// latest returns when the road opens in the worst case.
func (s site) latest() int { return s.opens(s.turns(extremes()[worst])) }

// late tells whether the road does not open in the days in the worst case.
func (s site) late() bool { return s.latest() == s.past }

// longer returns a site of which one task may take more hours.
func (s site) longer(task, more int) site {
	s.Tasks = slices.Clone(s.Tasks)
	s.Tasks[task].Hours.Hi += more
	return s
}

// chain returns the chain of a job that has tasks, and is not late.
func (s site) chain() []int {
	list := s.turns(extremes()[worst])
	open := s.opens(list)
	last := slices.IndexFunc(list, func(t turn) bool { return t.rested == open })
	var chain []int
	for i := last; i >= 0; i = s.lets(list, i) {
		chain = append(chain, i)
	}
	slices.Reverse(chain)
	return chain
}

// lets returns the first task that lets the task i begin when it does in the worst case; -1 if it begins at its From.
func (s site) lets(list []turn, i int) int {
	begin, t := list[i].begin, s.Tasks[i]
	if begin == t.From.Hi {
		return -1
	}
	same := s.before(i)
	for k, x := range list[:i] {
		if k == same && x.end == begin || slices.Contains(t.After, k) && x.rested == begin {
			return k
		}
	}
	return -1
}

// before returns the task before the task i of the same machine; -1 if it is the first one.
func (s site) before(i int) int {
	for k := i - 1; k >= 0; k-- {
		if s.Tasks[k].Machine == s.Tasks[i].Machine {
			return k
		}
	}
	return -1
}
