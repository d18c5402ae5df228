package frost_test

import (
	"fmt"

	"sastrugi/api"
	"sastrugi/frost"
)

// The example of README.md: ice of 300 millimetres in a cold week that is not known exactly.
func Example() {
	law := api.Frost{
		Growth: 100,
		Latent: 10,
		Covers: []api.Cover{{Depth: 0, Part: api.Span{Lo: 1000000, Hi: 1000000}}},
		Melt:   api.Span{Lo: 100000, Hi: 200000},
		Soak:   300000,
		White:  api.Span{Lo: 500000, Hi: 600000},
	}
	ice := api.Ice{Black: api.Span{Lo: 300, Hi: 300}}
	days := make([]api.Weather, 7)
	for i := range days {
		days[i].Cold = api.Span{Lo: 140, Hi: 160}
	}

	sure, perhaps, err := frost.Ready(law, ice, days, 400)
	fmt.Println(sure, perhaps, err == api.OK)
	water, err := frost.Flood(law, ice, days, 6, 50)
	fmt.Println(water, err == api.OK)
	// Output:
	// 6 5 true
	// 28 true
}
