package bear_test

import (
	"fmt"

	"sastrugi/api"
	"sastrugi/bear"
)

// The example of README.md: two trucks, and a crack not far from the first one.
func Example() {
	plate := api.Plate{
		Strength: api.Span{Lo: 40000, Hi: 50000},
		Shares:   []api.Share{{From: 0, Part: 1000000}, {From: 20, Part: 500000}, {From: 100, Part: 0}},
		Creep:    []api.Share{{From: 0, Part: 1000000}, {From: 60, Part: 640000}, {From: 600, Part: 250000}},
		Near:     5,
		Edge:     500000,
		Gravity:  98,
		Low:      640000,
		High:     1440000,
		Shore:    50,
		Wider:    250000,
	}
	ice := []api.Span{{Lo: 480, Hi: 500}, {Lo: 500, Hi: 520}}
	cracks := []api.Span{{Lo: 30, Hi: 40}}
	trucks := []api.Load{
		{At: 45, Weight: api.Span{Lo: 7000, Hi: 7500}},
		{At: 145, Weight: api.Span{Lo: 7000, Hi: 7500}},
	}

	verdicts, err := bear.Holds(plate, ice, cracks, trucks)
	fmt.Println(verdicts, err == api.OK)
	thick, err := bear.Need(plate, 20000, 60)
	fmt.Println(thick, err == api.OK)
	minutes, err := bear.Stands(plate, 500, 6400)
	fmt.Println(minutes, err == api.OK)
	gap, err := bear.Gap(plate, 500, []api.Span{trucks[0].Weight, trucks[1].Weight})
	fmt.Println(gap, err == api.OK)
	speeds, err := bear.Speeds(plate, api.Span{Lo: 40, Hi: 50}, 100)
	fmt.Println(speeds, err == api.OK)
	// Output:
	// [3 1] true
	// 884 true
	// 599 true
	// 100 true
	// [{0 50} {85 1000}] true
}
