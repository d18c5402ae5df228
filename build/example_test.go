package build_test

import (
	"fmt"

	"sastrugi/api"
	"sastrugi/build"
)

// The example of README.md: a road that a plough and a pump build on four days, and a way around a lake.
func Example() {
	exactly := func(n int) api.Span { return api.Span{Lo: n, Hi: n} }
	job := api.Job{
		Machines: []api.Machine{{Mild: 0, Hard: 300, Shift: 10}, {Mild: 50, Hard: 200, Shift: 24}},
		Tasks: []api.Task{
			{Machine: 0, Hours: api.Span{Lo: 5, Hi: 12}},
			{Machine: 1, Hours: exactly(10), Wait: exactly(24), After: []int{0}},
			{Machine: 0, Hours: exactly(4), From: exactly(30)},
		},
	}
	days := []api.Weather{{Cold: exactly(100)}, {Cold: exactly(100)}, {Cold: exactly(250)}, {Cold: api.Span{Lo: 150, Hi: 210}}}

	works, err := build.Works(job.Machines[1], days)
	fmt.Println(works, err == api.OK)
	list, open, err := build.Times(job, days)
	fmt.Println(list[1], open, err == api.OK)
	chain, err := build.Chain(job, days)
	fmt.Println(chain, err == api.OK)
	slack, err := build.Slack(job, days, 2)
	fmt.Println(slack, err == api.OK)
	order, hour, err := build.Best(job, days)
	fmt.Println(order, hour, err == api.OK)

	net := api.Net{
		Nodes: 3,
		Legs: []api.Leg{
			{A: 0, B: 1, Long: 10, Open: api.Sure, Cost: 4},
			{A: 1, B: 2, Long: 10, Open: api.Sure, Cost: 9},
			{A: 0, B: 2, Long: 5, Open: api.Open, Cost: 2},
		},
	}
	path, sure, perhaps, err := build.Detour(net, 0, 2)
	fmt.Println(path, sure, perhaps, err == api.OK)
	legs, cost, err := build.Link(net)
	fmt.Println(legs, cost, err == api.OK)
	// Output:
	// [1 1 2 3] true
	// {{5 26} {15 36}} {39 60} true
	// [0 1] true
	// 10 true
	// [0 1 2] 60 true
	// [0 1] 20 5 true
	// [0 2] 6 true
}
