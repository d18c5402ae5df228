package build_test

import (
	"slices"
	"testing"

	"sastrugi/api"
	"sastrugi/build"
)

// P5.1: Works, at the edges of what is too mild and too cold.
func TestWorks(t *testing.T) {
	for i, c := range []struct {
		mild, hard int
		days       []api.Weather
		want       []int
	}{
		{0, 300, week(), []int{api.Sure, api.Sure, api.Sure, api.Sure}},
		{50, 200, week(), []int{api.Sure, api.Sure, api.Never, api.Open}},
		{100, 100, week(), []int{api.Sure, api.Sure, api.Never, api.Never}},
		{150, 210, week(), []int{api.Never, api.Never, api.Never, api.Sure}},
		{151, 209, week(), []int{api.Never, api.Never, api.Never, api.Open}},
		{-50, 50, cold(span(-50, 50), span(-51, 50), span(-50, 51), span(50, 60), span(51, 60), span(-60, -50), span(-60, -51), span(-60, 60)), []int{api.Sure, api.Open, api.Open, api.Open, api.Never, api.Open, api.Never, api.Open}},
		// Snow and water do not matter.
		{0, 10, []api.Weather{{Cold: one(5), Fall: one(1000), Water: 200, Clear: true}}, []int{api.Sure}},
		{0, 10, nil, nil},
	} {
		l, e := build.Works(api.Machine{Mild: c.mild, Hard: c.hard, Shift: 7}, c.days)
		if e != api.OK || !slices.Equal(l, c.want) {
			t.Errorf("%d: Works = %v, %v, want %v", i, l, e, c.want)
		}
	}
}

// timing returns when a task of which the begin and the end are known exactly is done.
func timing(begin, end int) api.Timing { return api.Timing{Begin: one(begin), End: one(end)} }

// longer returns the job J with other hours of the task 1.
func longer(hours api.Span) api.Job {
	j := job()
	j.Tasks[1].Hours = hours
	return j
}

// P5.1: Times, worked out by hand: what holds a task up, shifts and days, and the past hour.
func TestTimes(t *testing.T) {
	second := func(x api.Task) api.Job { return tasks(api.Task{Hours: one(2), Wait: one(5)}, x) }
	for _, c := range []struct {
		name string
		j    api.Job
		days []api.Weather
		want []api.Timing
		open api.Span
	}{
		{"J", job(), week(), []api.Timing{{Begin: one(0), End: span(5, 26)}, {Begin: span(5, 26), End: span(15, 36)}, timing(30, 34)}, span(39, 60)},
		{"J with more hours", longer(span(10, 30)), week(), []api.Timing{{Begin: one(0), End: span(5, 26)}, {Begin: span(5, 26), End: span(15, 97)}, timing(30, 34)}, span(39, 97)},
		{"nothing", api.Job{}, nil, nil, one(0)},
		{"no tasks", tasks(), week(), nil, one(0)},
		{"from an hour", tasks(api.Task{Hours: one(1), From: span(3, 8)}), week(), []api.Timing{{Begin: span(3, 8), End: span(4, 9)}}, span(4, 9)},
		{"the last hour of a shift", tasks(api.Task{Hours: one(1), From: one(9)}), week(), []api.Timing{timing(9, 10)}, one(10)},
		{"behind a shift", tasks(api.Task{Hours: one(1), From: one(10)}), week(), []api.Timing{timing(10, 25)}, one(25)},
		{"behind a shift, no hours", tasks(api.Task{From: one(17)}), week(), []api.Timing{timing(17, 17)}, one(17)},
		{"a shift and an hour", tasks(api.Task{Hours: one(11)}), week(), []api.Timing{timing(0, 25)}, one(25)},
		{"two shifts", tasks(api.Task{Hours: one(20)}), week(), []api.Timing{timing(0, 34)}, one(34)},
		{"all shifts", tasks(api.Task{Hours: one(40)}), week(), []api.Timing{timing(0, 82)}, one(82)},
		{"an hour more than all shifts", tasks(api.Task{Hours: one(41)}), week(), []api.Timing{timing(0, 97)}, one(97)},
		{"the whole last day", api.Job{Machines: []api.Machine{{Hard: 300, Shift: 24}}, Tasks: []api.Task{{Hours: one(96)}}}, week(), []api.Timing{timing(0, 96)}, one(96)},
		{"over a day on which it does not work", tasks(api.Task{Machine: 1, Hours: one(49)}), cold(one(100), one(100), one(250), one(150)), []api.Timing{timing(0, 73)}, one(73)},
		{"over a day on which it perhaps works", tasks(api.Task{Machine: 1, Hours: one(49)}), cold(one(100), one(100), span(190, 210), one(150)), []api.Timing{{Begin: one(0), End: span(49, 73)}}, span(49, 73)},
		{"perhaps never", tasks(api.Task{Machine: 1, Hours: one(49)}), week(), []api.Timing{{Begin: one(0), End: span(73, 97)}}, span(73, 97)},
		{"begun on a day on which it does not work", tasks(api.Task{Machine: 1, Hours: one(1), From: one(50)}), cold(one(100), one(100), one(250), one(150)), []api.Timing{timing(50, 73)}, one(73)},
		{"the machine's next one waits for the end alone", second(api.Task{Hours: one(1)}), week(), []api.Timing{timing(0, 2), timing(2, 3)}, one(7)},
		{"another machine waits for nothing", second(api.Task{Machine: 1, Hours: one(1)}), week(), []api.Timing{timing(0, 2), timing(0, 1)}, one(7)},
		{"one that comes after it waits until it is frozen", second(api.Task{Machine: 1, Hours: one(1), After: []int{0}}), week(), []api.Timing{timing(0, 2), timing(7, 8)}, one(8)},
		{"so does one of the same machine", second(api.Task{Hours: one(1), After: []int{0}}), week(), []api.Timing{timing(0, 2), timing(7, 8)}, one(8)},
		{"the machine's last one counts, not its first", tasks(api.Task{Hours: one(9)}, api.Task{Hours: one(2)}, api.Task{Hours: one(1)}), week(), []api.Timing{timing(0, 9), timing(9, 25), timing(25, 26)}, one(26)},
		{"after the later one of two", tasks(api.Task{Hours: one(2)}, api.Task{Machine: 1, Hours: one(3)}, api.Task{Machine: 1, Hours: one(1), After: []int{1, 0}, From: one(1)}), week(), []api.Timing{timing(0, 2), timing(0, 3), timing(3, 4)}, one(4)},
		{"the road waits until the first one is frozen", tasks(api.Task{Hours: one(1), Wait: span(8, 9)}, api.Task{Hours: one(1)}), week(), []api.Timing{timing(0, 1), timing(1, 2)}, span(9, 10)},
		{"without days, no hours", tasks(api.Task{}), nil, []api.Timing{timing(0, 0)}, one(0)},
		{"without days, perhaps an hour", tasks(api.Task{Hours: span(0, 1)}), nil, []api.Timing{{Begin: one(0), End: span(0, 1)}}, span(0, 1)},
		{"without days, from an hour", tasks(api.Task{From: span(0, 2000)}), nil, []api.Timing{{Begin: span(0, 1), End: span(0, 1)}}, span(0, 1)},
		{"in the last hour", tasks(api.Task{From: one(96)}), week(), []api.Timing{timing(96, 96)}, one(96)},
		{"an hour in the last hour", tasks(api.Task{From: one(96), Hours: one(1)}), week(), []api.Timing{timing(96, 97)}, one(97)},
		{"at the past hour", tasks(api.Task{From: one(97)}), week(), []api.Timing{timing(97, 97)}, one(97)},
		{"past the past hour", tasks(api.Task{From: one(98), Hours: one(1)}), week(), []api.Timing{timing(97, 97)}, one(97)},
		{"frozen past the past hour", tasks(api.Task{From: one(96), Wait: one(5)}, api.Task{Machine: 1, After: []int{0}}), week(), []api.Timing{timing(96, 96), timing(97, 97)}, one(97)},
		{"frozen in the last hour", tasks(api.Task{From: one(90), Wait: one(6)}, api.Task{Machine: 1, After: []int{0}}), week(), []api.Timing{timing(90, 90), timing(96, 96)}, one(96)},
	} {
		l, open, e := build.Times(c.j, c.days)
		if e != api.OK || open != c.open || !slices.Equal(l, c.want) {
			t.Errorf("%s: Times = %v, %v, %v, want %v, %v", c.name, l, open, e, c.want, c.open)
		}
	}
}

// P5.2: chains: which task is the last one, and which of several is before another one.
func TestChains(t *testing.T) {
	hour := func(machine, hours int, after ...int) api.Task {
		return api.Task{Machine: machine, Hours: one(hours), After: after}
	}
	waits := func(t api.Task, wait int) api.Task { t.Wait = one(wait); return t }
	begins := func(t api.Task, from int) api.Task { t.From = one(from); return t }
	for _, c := range []struct {
		name string
		j    api.Job
		want []int
	}{
		{"J", job(), []int{0, 1}},
		{"one task", tasks(hour(0, 3)), []int{0}},
		{"the first one of two that open the road", tasks(hour(0, 3), hour(1, 3)), []int{0}},
		{"two that take no time", tasks(api.Task{}, api.Task{}), []int{0}},
		{"its Wait opens the road", tasks(waits(hour(0, 1), 9), hour(0, 3)), []int{0}},
		{"the machine's last one", tasks(hour(0, 1), hour(0, 1), hour(0, 1)), []int{0, 1, 2}},
		{"another machine's ones are not in it", tasks(hour(0, 2), hour(1, 1), hour(0, 1)), []int{0, 2}},
		{"the first one of two it comes after", tasks(hour(0, 2), hour(1, 2), hour(1, 1, 1, 0)), []int{0, 2}},
		{"the first one in the list, though it is its machine's", tasks(hour(1, 2), hour(0, 2), hour(1, 1, 1)), []int{0, 2}},
		{"the first one in the list, though it is another machine's", tasks(hour(0, 2), hour(1, 2), hour(1, 1, 0)), []int{0, 2}},
		{"the later one of two it comes after", tasks(hour(0, 2), hour(1, 3), hour(0, 1, 0, 1)), []int{1, 2}},
		{"one that freezes longer", tasks(waits(hour(0, 2), 3), hour(0, 1), hour(1, 1, 0)), []int{0, 2}},
		{"one that does not freeze for its machine", tasks(waits(hour(0, 2), 1), hour(1, 3), hour(0, 5, 1)), []int{1, 2}},
		{"at its From alone", tasks(hour(0, 2), begins(hour(0, 1), 2)), []int{1}},
		{"at its From, though another one ends then", tasks(hour(0, 2), begins(hour(1, 1, 0), 2)), []int{1}},
		{"behind its From", tasks(hour(0, 2), begins(hour(0, 1), 1)), []int{0, 1}},
		{"a task in between that takes no time", tasks(hour(0, 2), hour(0, 0, 0), hour(0, 1, 0)), []int{0, 2}},
		{"a task in between that the last one does not come after", tasks(hour(0, 2), hour(0, 0), hour(0, 1)), []int{0, 1, 2}},
		{"over two machines", tasks(hour(0, 2), hour(1, 2, 0), hour(0, 0), begins(hour(1, 1), 1)), []int{0, 1, 3}},
	} {
		if l, e := build.Chain(c.j, week()); e != api.OK || !slices.Equal(l, c.want) {
			t.Errorf("%s: Chain = %v, %v, want %v", c.name, l, e, c.want)
		}
	}
	// In the worst case the machine 1 does not work on the last day, and the numbers are the greatest ones.
	j := tasks(api.Task{Hours: span(1, 9)}, api.Task{Machine: 1, Hours: span(7, 8)})
	if l, e := build.Chain(j, week()); e != api.OK || !slices.Equal(l, []int{0}) {
		t.Error(l, e)
	}
	days := cold(span(199, 201), one(200))
	if l, e := build.Chain(j, days); e != api.OK || !slices.Equal(l, []int{1}) {
		t.Error(l, e)
	}
}

// P5.2: slack, up to the next shift, up to what opens the road, and up to MaxSlack.
func TestSlack(t *testing.T) {
	long := api.Job{Machines: []api.Machine{{Hard: 300, Shift: 24}, {Hard: 300, Shift: 24}}, Tasks: []api.Task{{Hours: one(2000)}, {Machine: 1, Hours: span(0, 10)}, {Machine: 1, Wait: one(980)}}}
	season := slices.Repeat(cold(one(100)), 200)
	for i, c := range []struct {
		j    api.Job
		days []api.Weather
		task int
		want int
	}{
		{job(), week(), 0, 0},
		{job(), week(), 1, 0},
		{job(), week(), 2, 10},
		{tasks(api.Task{Hours: one(1)}, api.Task{Machine: 1, Hours: one(6)}), week(), 0, 5},
		{tasks(api.Task{Hours: span(1, 4)}, api.Task{Machine: 1, Hours: one(6)}), week(), 0, 2},
		{tasks(api.Task{Hours: span(1, 4)}, api.Task{Machine: 1, Hours: one(6)}), week(), 1, 0},
		// Its own Wait counts: an hour more opens the road an hour later.
		{tasks(api.Task{Hours: one(1), Wait: one(5)}, api.Task{Machine: 1, Hours: one(6)}), week(), 0, 0},
		{tasks(api.Task{Hours: one(1), Wait: one(4)}, api.Task{Machine: 1, Hours: one(6)}), week(), 0, 1},
		// What comes after it begins later.
		{tasks(api.Task{Hours: one(1)}, api.Task{Machine: 1, Hours: one(6)}, api.Task{Machine: 0, Hours: one(3)}), week(), 0, 2},
		// Of a task that may begin only then, the hours before do not count.
		{tasks(api.Task{Hours: one(1), From: one(0)}, api.Task{Hours: one(1), From: one(8)}), week(), 0, 7},
		// The greatest slack, and above MaxHours.
		{long, season, 1, 1000},
		{long, season, 2, 1000},
		{tasks(api.Task{Machine: 1}, api.Task{Hours: one(1), From: one(1000)}), season, 0, 1000},
		{tasks(api.Task{Machine: 1}, api.Task{Hours: one(1), From: one(999)}), season, 0, 1000},
		{tasks(api.Task{Machine: 1}, api.Task{From: one(999)}), season, 0, 999},
		{tasks(api.Task{Machine: 1}, api.Task{From: one(1000)}), season, 0, 1000},
		{tasks(api.Task{Machine: 1, Hours: one(1990)}, api.Task{From: one(2000), Wait: one(2000)}), season, 0, 1000},
		{tasks(api.Task{Machine: 1, Hours: one(1990)}, api.Task{From: one(2000), Wait: one(500)}), season, 0, 510},
	} {
		if n, e := build.Slack(c.j, c.days, c.task); n != c.want || e != api.OK {
			t.Errorf("%d: Slack = %d, %v, want %d", i, n, e, c.want)
		}
	}
}

// P5.3: the best orders.
func TestOrders(t *testing.T) {
	short := tasks(api.Task{Hours: one(8)}, api.Task{Hours: one(2)}, api.Task{Machine: 1, Hours: one(8), After: []int{1}})
	for _, c := range []struct {
		name string
		j    api.Job
		days []api.Weather
		want []int
		open int
	}{
		{"J", job(), week(), []int{0, 1, 2}, 60},
		{"no tasks", tasks(), week(), nil, 0},
		{"nothing", api.Job{}, nil, nil, 0},
		{"one task", tasks(api.Task{Hours: span(1, 3)}), week(), []int{0}, 3},
		{"the one that lets another machine begin first", short, week(), []int{1, 0, 2}, 10},
		{"all alike", tasks(make([]api.Task, 6)...), week(), []int{0, 1, 2, 3, 4, 5}, 0},
		{"late in each order", tasks(api.Task{Hours: one(41)}, api.Task{}), week(), []int{0, 1}, 97},
		{"the longest frost first", tasks(api.Task{Hours: one(3)}, api.Task{Hours: one(3), Wait: one(20)}), week(), []int{1, 0}, 23},
		{"the least span does not count", tasks(api.Task{Hours: span(0, 3)}, api.Task{Hours: one(2), Wait: span(0, 9)}), week(), []int{1, 0}, 11},
		{"a later start first lets the other one wait", tasks(api.Task{Hours: one(1), From: one(5)}, api.Task{Hours: one(5)}), week(), []int{1, 0}, 6},
		// The order of the tasks in After does not matter, and stays.
		{"after both", tasks(api.Task{Hours: one(2)}, api.Task{Hours: one(1), Wait: one(3)}, api.Task{Machine: 1, Hours: one(1), After: []int{1, 0}}), week(), []int{1, 0, 2}, 5},
		{"a chain of six", tasks(api.Task{Hours: one(1)}, api.Task{Hours: one(1), After: []int{0}}, api.Task{Hours: one(1), After: []int{1}}, api.Task{Hours: one(1), After: []int{2}}, api.Task{Hours: one(1), After: []int{3}}, api.Task{Hours: one(1), After: []int{4}}), week(), []int{0, 1, 2, 3, 4, 5}, 6},
	} {
		l, open, e := build.Best(c.j, c.days)
		if e != api.OK || open != c.open || !slices.Equal(l, c.want) {
			t.Errorf("%s: Best = %v, %d, %v, want %v, %d", c.name, l, open, e, c.want, c.open)
		}
	}
}

// P5.4: Thicken, worked out by hand with the law F.
func TestThicken(t *testing.T) {
	two := cold(one(100), one(50))
	for _, c := range []struct {
		name       string
		x          api.Ice
		days       []api.Weather
		need, most int
		water      []int
		day        int
	}{
		{"the chapter's", black(), two, 307, 50, []int{10, 5}, 2},
		{"a millimetre more is never there", black(), two, 308, 50, []int{10, 5}, 0},
		{"after the first day", black(), two, 305, 50, []int{10, 5}, 1},
		{"after the second day", black(), two, 306, 50, []int{10, 5}, 2},
		{"at most 3", black(), two, 0, 3, []int{3, 3}, 1},
		{"at most nothing: it grows to the root of 100000, and of 104856", black(), two, 323, 0, []int{0, 0}, 2},
		{"at most nothing, a millimetre more", black(), two, 324, 0, []int{0, 0}, 0},
		{"what days had is not used", black(), []api.Weather{{Cold: one(100), Water: 90}, {Cold: one(50), Water: 90}}, 307, 50, []int{10, 5}, 2},
		{"water that is there already", api.Ice{Black: one(300), Wet: one(12)}, two, 0, 50, []int{0, 3}, 2},
		{"more of it than ever freezes", api.Ice{Black: one(300), Wet: one(16)}, two, 0, 50, []int{0, 0}, 0},
		{"perhaps some", api.Ice{Black: one(300), Wet: span(0, 12)}, two, 300, 50, []int{0, 3}, 2},
		{"a warm day melts 2", black(), cold(one(-10), one(100)), 303, 50, []int{0, 10}, 2},
		{"the coldest of a day does not count", black(), cold(span(90, 110)), 304, 50, []int{9}, 1},
		{"snow is soaked, and freezes too", api.Ice{Black: one(300), Snow: one(10)}, cold(one(100)), 305, 50, []int{7}, 1},
		{"snow that is cleared is not", api.Ice{Black: one(300), Snow: one(10)}, []api.Weather{{Cold: one(100), Clear: true}}, 305, 50, []int{10}, 1},
		{"no days", black(), nil, 0, 50, nil, 0},
	} {
		l, day, e := build.Thicken(law(), c.x, c.days, c.need, c.most)
		if e != api.OK || day != c.day || !slices.Equal(l, c.water) {
			t.Errorf("%s: Thicken = %v, %d, %v, want %v, %d", c.name, l, day, e, c.water, c.day)
		}
	}
}

// equal is a net with three paths of the length 4 from 0 to 3.
func equal() api.Net {
	return net(4, leg(0, 1, 1, api.Sure, 0), leg(1, 2, 1, api.Sure, 0), leg(2, 3, 2, api.Sure, 0), leg(0, 2, 2, api.Sure, 0), leg(3, 1, 3, api.Sure, 0))
}

// P5.5: Detour.
func TestDetours(t *testing.T) {
	line := net(40)
	for i := range 39 {
		line.Legs = append(line.Legs, leg(i+1, i, 1000000, api.Sure, 0))
	}
	for _, c := range []struct {
		name          string
		n             api.Net
		from, to      int
		path          []int
		sure, perhaps int
	}{
		{"the chapter's", three(), 0, 2, []int{0, 1}, 20, 5},
		{"and back", three(), 2, 0, []int{1, 0}, 20, 5},
		{"one leg, though two that may be open are as long", three(), 1, 2, []int{1}, 10, 10},
		{"to itself", three(), 2, 2, nil, 0, 0},
		{"one node", net(1), 0, 0, nil, 0, 0},
		{"the fewest legs, then the first ones", equal(), 0, 3, []int{0, 4}, 4, 4},
		{"and back, with other first ones", equal(), 3, 0, []int{2, 3}, 4, 4},
		{"none that is sure", net(2, leg(0, 1, 7, api.Open, 0)), 0, 1, nil, -1, 7},
		{"none at all", net(2, leg(0, 1, 7, api.Never, 0)), 0, 1, nil, -1, -1},
		{"no legs", net(2), 1, 0, nil, -1, -1},
		{"the first one of two legs", net(2, leg(0, 1, 7, api.Open, 0), leg(0, 1, 7, api.Sure, 0), leg(1, 0, 7, api.Sure, 0)), 0, 1, []int{1}, 7, 7},
		{"the shorter one of two legs", net(2, leg(0, 1, 8, api.Sure, 0), leg(1, 0, 7, api.Sure, 0), leg(1, 0, 6, api.Never, 0)), 0, 1, []int{1}, 7, 7},
		{"a longer leg is shorter than many", net(3, leg(0, 1, 1, api.Sure, 0), leg(1, 2, 2, api.Sure, 0), leg(0, 2, 3, api.Sure, 0)), 0, 2, []int{2}, 3, 3},
		{"many legs are shorter than one", net(3, leg(0, 2, 4, api.Sure, 0), leg(1, 2, 2, api.Sure, 0), leg(0, 1, 1, api.Sure, 0)), 0, 2, []int{2, 1}, 3, 3},
		{"as long as can be", line, 0, 39, numbers(39), 39000000, 39000000},
		{"as long as can be, not open", net(40, slices.Repeat([]api.Leg{leg(0, 39, 1000000, api.Open, 0)}, 200)...), 39, 0, nil, -1, 1000000},
	} {
		l, sure, perhaps, e := build.Detour(c.n, c.from, c.to)
		if e != api.OK || sure != c.sure || perhaps != c.perhaps || !slices.Equal(l, c.path) {
			t.Errorf("%s: Detour = %v, %d, %d, %v, want %v, %d, %d", c.name, l, sure, perhaps, e, c.path, c.sure, c.perhaps)
		}
	}
}

// P5.5: Link.
func TestLinks(t *testing.T) {
	star := net(40)
	for i := range 39 {
		star.Legs = append(star.Legs, leg(39, i, 1, api.Open, 100000))
	}
	for _, c := range []struct {
		name string
		n    api.Net
		legs []int
		cost int
	}{
		{"the chapter's", three(), []int{0, 3}, 6},
		{"all alike", equal(), []int{0, 1, 2}, 0},
		{"one node", net(1), nil, 0},
		{"the first one of two", net(2, leg(0, 1, 1, api.Never, 1), leg(0, 1, 1, api.Open, 5), leg(0, 1, 1, api.Sure, 5)), []int{1}, 5},
		{"the cheaper one of two", net(2, leg(0, 1, 1, api.Open, 5), leg(0, 1, 1, api.Sure, 4)), []int{1}, 4},
		{"how long they are does not matter", net(2, leg(0, 1, 1, api.Open, 5), leg(0, 1, 9, api.Open, 4)), []int{1}, 4},
		{"ascending, though the later one is cheaper", net(3, leg(0, 1, 1, api.Sure, 3), leg(1, 2, 1, api.Sure, 2), leg(2, 0, 1, api.Sure, 3)), []int{0, 1}, 5},
		{"two groups are joined last", net(4, leg(0, 1, 1, api.Sure, 1), leg(2, 3, 1, api.Sure, 1), leg(1, 0, 1, api.Sure, 2), leg(3, 2, 1, api.Sure, 2), leg(1, 3, 1, api.Sure, 9), leg(0, 2, 1, api.Sure, 8)), []int{0, 1, 5}, 10},
		{"as dear as can be", star, numbers(39), 3900000},
	} {
		l, cost, e := build.Link(c.n)
		if e != api.OK || cost != c.cost || !slices.Equal(l, c.legs) {
			t.Errorf("%s: Link = %v, %d, %v, want %v, %d", c.name, l, cost, e, c.legs, c.cost)
		}
	}
}
