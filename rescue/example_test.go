package rescue_test

import (
	"fmt"

	"sastrugi/api"
	"sastrugi/rescue"
)

// The example of README.md: three spots, a post that drives from the first one, and one that flies in the day.
func Example() {
	minutes := func(low, high int) api.Span { return api.Span{Lo: low, Hi: high} }
	lake := api.Rescue{
		Spots: 3,
		Paths: []api.Path{
			{A: 0, B: 1, Time: minutes(5, 8), Open: api.Sure},
			{A: 1, B: 2, Time: minutes(10, 20), Open: api.Sure},
			{A: 0, B: 2, Time: minutes(12, 12), Open: api.Open},
		},
		Posts: []api.Post{
			{Spot: 0, Ready: minutes(2, 3)},
			{Spot: 0, Ready: minutes(1, 1), From: 360, To: 1080, Flies: api.Sure, Air: []api.Span{{Lo: 0, Hi: 0}, {Lo: 9, Hi: 9}, {Lo: 10, Hi: 15}}},
		},
		Water:  []api.Span{{Lo: 0, Hi: 10}, {Lo: 10, Hi: 20}, {Lo: 0, Hi: 5}},
		Chills: []api.Chill{{Warm: -400, Minutes: minutes(10, 20)}, {Warm: 0, Minutes: minutes(20, 30)}, {Warm: 15, Minutes: minutes(30, 60)}},
	}
	times, err := rescue.Go(lake, 0)
	fmt.Println(times, err == api.OK)
	lives, err := rescue.Lives(lake)
	fmt.Println(lives, err == api.OK)
	times, err = rescue.Reach(lake, 400)
	fmt.Println(times, err == api.OK)
	day, err := rescue.Cover(lake, 400)
	night, err := rescue.Cover(lake, 1200)
	fmt.Println(day, night, err == api.OK)
	gaps, err := rescue.Gaps(lake, 2)
	fmt.Println(gaps, err == api.OK)
	posts, saved, err := rescue.Send(lake, 400, []int{1, 2, 0})
	fmt.Println(posts, saved, err == api.OK)
	sites, err := rescue.Fewest(lake, []int{0, 1, 2}, minutes(2, 3))
	fmt.Println(sites, err == api.OK)
	sites, covered, err := rescue.Most(lake, []int{0, 1, 2}, minutes(2, 3), 1)
	fmt.Println(sites, covered, err == api.OK)
	// Output:
	// [{2 3} {7 11} {14 31}] true
	// [{20 30} {20 60} {20 30}] true
	// [{1 1} {7 10} {11 16}] true
	// [1 1 1] [1 1 3] true
	// [{0 359} {1080 1439}] true
	// [0 1 -1] 2 true
	// [0 2] true
	// [0] 2 true
}
