package convoy_test

import (
	"fmt"

	"sastrugi/api"
	"sastrugi/convoy"
)

// The example of README.md: two trucks from both ends, one of which waits in a bay until the other one is past it, unless it fails.
func Example() {
	pace := api.Span{Lo: 50, Hi: 100}
	road := api.Convoy{
		Length: 1000,
		Gap:    200,
		Fails:  1,
		Trucks: []api.Truck{
			{Way: api.WayUp, Start: 0, Pace: pace, Holds: []api.Hold{{At: 300, Until: 20}}},
			{Way: api.WayDown, Start: 0, Pace: pace},
		},
	}

	at, lane, err := convoy.Where(road, 0, false, 4)
	fmt.Println(at, lane, err == api.OK)
	meeting, err := convoy.Meets(road)
	fmt.Println(meeting, err == api.OK)
	off, err := convoy.Off(road)
	fmt.Println(off, err == api.OK)

	road.Fails = 0
	_, err = convoy.Meets(road)
	fmt.Println(err == api.ErrMissing)
	start, err := convoy.Release(road, api.WayUp, pace, api.Span{Lo: 0, Hi: 60})
	fmt.Println(start, err == api.OK)
	list, off, err := convoy.Timetable(road, []int{20, 0, 40})
	fmt.Println(list, off, err == api.OK)
	text, err := convoy.Write(road)
	fmt.Print(text, err == api.OK)
	// Output:
	// {200 300} 3 true
	// {5 0 1 true false 301 500} true
	// {10 34} true
	// true
	// 26 true
	// [1 1] {27 34} true
	// road 1000 200 0
	// truck up 0 50 100
	// hold 300 20
	// truck down 0 50 100
	// true
}
