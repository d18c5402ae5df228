package freight_test

import (
	"fmt"
	"slices"

	"sastrugi/api"
	"sastrugi/freight"
)

// The example of README.md: two orders in a winter of seven days.
func Example() {
	season := api.Freight{
		First: api.Span{Lo: 1, Hi: 2},
		Last:  api.Span{Lo: 4, Hi: 5},
		Caps:  slices.Repeat([]api.Span{{Lo: 2, Hi: 3}}, 7),
		Orders: []api.Order{
			{Units: 4, Due: 3, Late: 5, Lost: 20},
			{Units: 5, Due: 5, Late: 1, Lost: 10},
		},
	}
	plan, penalty, err := freight.Best(season)
	fmt.Println(plan, penalty, err == api.OK)
	bound, err := freight.Bound(season)
	fmt.Println(bound, err == api.OK)
	costs, err := freight.Range(season, plan)
	fmt.Println(costs, err == api.OK)
	verdicts, err := freight.Promise(season, plan)
	fmt.Println(verdicts, err == api.OK)
	winter := api.Winter{First: 2, Last: 4, Caps: slices.Repeat([]int{2}, 7)}
	way, err := freight.Spread(season, winter, plan)
	fmt.Println(way, err == api.OK)
	list, penalty, err := freight.Tell(season, winter, way)
	fmt.Println(list, penalty, err == api.OK)
	bills, err := freight.Bills(season, winter, way, 10, 100)
	fmt.Println(bills, err == api.OK)
	shares, err := freight.Share(100, []int{1, 1, 1})
	fmt.Println(shares, err == api.OK)
	text, err := freight.Write(season)
	again, row, err := freight.Read(text)
	fmt.Println(len(again.Orders), row, err == api.OK)
	// Output:
	// [0 1] 30 true
	// 30 true
	// {0 30} true
	// [1 3] true
	// [[0 0 2 2 0 0 0] [0 0 0 0 2 0 0]] true
	// [{4 0 0 3} {2 0 3 -1}] 30 true
	// [107 53] true
	// [34 33 33] true
	// 2 0 true
}
