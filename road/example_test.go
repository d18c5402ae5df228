package road_test

import (
	"fmt"

	"sastrugi/api"
	"sastrugi/road"
)

// The example of README.md: six hours of a dispatcher on a road of five places.
func Example() {
	litres := func(low, high int) api.Span { return api.Span{Lo: low, Hi: high} }
	minutes := litres
	region := api.Region{
		Survey: api.Survey{
			Reaches: []api.Reach{
				{Long: 3, Slope: 10, Thin: 2, Grow: 1, Every: 24},
				{Long: 2, Slope: 50, Thin: 5, Grow: 0, Every: 12},
			},
			Sight: [3]int{0, 1, 2},
		},
		Plate: plate(),
		Gap:   200,
		Fails: 1,
		Pace:  api.Span{Lo: 50, Hi: 100},
		Book: api.Book{Accounts: []api.Account{
			{Name: "rack", Kind: api.AccountTank, Open: litres(1000, 1000), Close: litres(900, 930)},
			{Name: "camp", Kind: api.AccountTank, Close: litres(0, 100)},
		}},
		Rescue: api.Rescue{
			Spots: 3,
			Paths: []api.Path{
				{A: 0, B: 1, Time: minutes(5, 8), Open: api.Sure},
				{A: 1, B: 2, Time: minutes(10, 20), Open: api.Sure},
				{A: 0, B: 2, Time: minutes(12, 12), Open: api.Open},
			},
			Posts: []api.Post{
				{Spot: 0, Ready: minutes(2, 3)},
				{Spot: 0, Ready: minutes(1, 1), From: 360, To: 1080, Flies: api.Sure, Air: []api.Span{{Lo: 0, Hi: 0}, {Lo: 9, Hi: 9}, {Lo: 10, Hi: 15}}},
			},
			Water:  []api.Span{{Lo: 0, Hi: 10}, {Lo: 10, Hi: 20}, {Lo: 0, Hi: 5}},
			Chills: []api.Chill{{Warm: -400, Minutes: minutes(10, 20)}, {Warm: 0, Minutes: minutes(20, 30)}, {Warm: 15, Minutes: minutes(30, 60)}},
		},
		Rules:   api.Rules{Drive: 270, Rest: 45, Day: 1440, Most: 540},
		Drivers: []api.Driver{{Name: "ann"}, {Name: "bob"}},
		Scale:   api.Scale{Zero: 20, Part: 10000},
		Allow:   api.Allow{Axle: 9200, Total: 24300},
	}
	sheet := "shut 8000\n" + // shut 0 4 thin: nobody has looked at the ice
		"radar 2 600 620\n" + // ok
		"shut 8000\n" + // open
		"go up ann 2500 5000\n" + // go 1
		"go down bob 4000\n" + // later 10: ann's truck is off then
		"wait 10\n" + // ok
		"go down bob 4000\n" + // go 1
		"storm 7\n" + // caught sure
		"breakup 21 30\n" + // sure
		"next ann 260\n" + // next 10
		"next ann 261\n" + // next 55: after a rest
		"move 0 1 50 60\n" + // ok
		"fuel\n" + // lost 10 100 rack sure camp open
		"reach 2\n" + // open
		"wait 350\n" + // ok
		"reach 2\n" + // sure: now somebody flies
		"crack 4 4 1\n" + // ok
		"shut 8000\n" + // shut 4 4 mark
		"go up ann 99999\n" + // error 14: that is too heavy
		"sing\n" // error 3
	replies, err := road.Run(region, sheet)
	fmt.Print(replies)
	fmt.Println(err == api.OK)
	desk, err := road.Keep(region, sheet)
	fmt.Println(desk.Minute, desk.Looks, desk.Marks, desk.Trucks, desk.Drivers, desk.Book.Moves, err == api.OK)
	text, err := road.Report(region, sheet, 10000)
	fmt.Print(text)
	fmt.Println(err == api.OK)
	// Output:
	// shut 0 4 thin
	// ok
	// open
	// go 1
	// later 10
	// ok
	// go 1
	// caught sure
	// sure
	// next 10
	// next 55
	// ok
	// lost 10 100 rack sure camp open
	// open
	// ok
	// sure
	// ok
	// shut 4 4 mark
	// error 14
	// error 3
	// true
	// 360 [{3 2 0 {600 620}}] [{1 4 4 6 1}] [] [{ann 0 [{{0 0} {5 10}}]} {bob 0 [{{10 10} {15 20}}]}] [{0 1 {50 60}}] true
	// minute 360
	// shut 4 4 mark
	// driver ann sure
	// driver bob sure
	// lost 10 100
	// end
	// true
}
