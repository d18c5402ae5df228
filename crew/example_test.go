package crew_test

import (
	"fmt"

	"sastrugi/api"
	"sastrugi/crew"
)

// The example of README.md: two drivers, a truck on the scale, and three hauls.
func Example() {
	minute := func(low, high int) api.Span { return api.Span{Lo: low, Hi: high} }
	law := api.Rules{Drive: 270, Rest: 45, Day: 1440, Most: 540}
	ann := api.Driver{Name: "ann", Skills: 3, Turns: []api.Turn{
		{From: minute(0, 0), To: minute(240, 250)},
		{From: minute(290, 300), To: minute(320, 330)},
	}}
	bob := api.Driver{Name: "bob", Skills: 1}
	verdict, rule, first, err := crew.Legal(law, ann)
	fmt.Println(verdict, rule, first, err == api.OK)

	ann.Turns[1].From = minute(295, 300)
	may, err := crew.May(law, ann, 340, 240)
	fmt.Println(may, err == api.OK)
	left, err := crew.Left(law, ann, 340)
	fmt.Println(left, err == api.OK)
	next, err := crew.Next(law, ann, 340, 240)
	fmt.Println(next, err == api.OK)

	scale := api.Scale{Zero: 20, Part: 10000}
	weight, err := crew.Weigh(scale, 6000)
	fmt.Println(weight, err == api.OK)
	verdict, total, err := crew.Pass(scale, []int{6000, 9000, 9000}, api.Allow{Axle: 9200, Total: 24300})
	fmt.Println(verdict, total, err == api.OK)

	hauls := []api.Haul{{From: 400, Long: 200, Skills: 1}, {From: 400, Long: 180, Skills: 2}, {From: 650, Long: 60, Skills: 1}}
	who, done, err := crew.Assign(law, []api.Driver{ann, bob}, hauls)
	fmt.Println(who, done, err == api.OK)
	text, err := crew.Write([]api.Driver{ann, bob})
	fmt.Print(text)
	list, row, err := crew.Read(text)
	fmt.Println(len(list), row, err == api.OK)
	// Output:
	// 3 1 310 true
	// 3 true
	// 235 true
	// 375 true
	// {5921 6080} true
	// 3 {23705 24302} true
	// [1 0 0] 3 true
	// driver ann 3
	// turn 0 0 240 250
	// turn 295 300 320 330
	// driver bob 1
	// end 2
	// 2 0 true
}
