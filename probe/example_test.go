package probe_test

import (
	"fmt"

	"sastrugi/api"
	"sastrugi/probe"
)

// The example of README.md: five places and one core.
func Example() {
	survey := api.Survey{
		Reaches: []api.Reach{
			{Long: 3, Slope: 10, Thin: 2, Grow: 1, Every: 24},
			{Long: 2, Slope: 50, Thin: 5, Grow: 0, Every: 12},
		},
		Sight: [3]int{0, 1, 2},
	}
	looks := []api.Look{{Kind: api.LookCore, At: 0, Hour: 10, Value: api.Span{Lo: 500, Hi: 500}}}

	known, err := probe.Known(survey, looks, 1, 11)
	fmt.Println(known, err == api.OK)
	places, proof, err := probe.Plan(survey, looks, 11, api.LookRadar)
	fmt.Println(places, proof, err == api.OK)
	shut, err := probe.Close(survey, looks, nil, 450, 11)
	fmt.Println(shut, err == api.OK)
	// Output:
	// {488 511} true
	// [3] [1] true
	// [{1 3 3} {4 4 1}] true
}
