package frost_test

import (
	"math"
	"math/rand"
	"reflect"
	"slices"
	"testing"

	"sastrugi/api"
	"sastrugi/frost"
)

// wild returns a number of any kind: near the bounds, far out, or usual.
func wild(r *rand.Rand) int {
	edges := [...]int{math.MinInt, math.MinInt + 1, -1000000, -1001, -1000, -1, 0, 1, 10, 200, 1000, 5000, 5001, 10000, 1000000, 10000001, math.MaxInt - 1, math.MaxInt}
	return edges[r.Intn(len(edges))]
}

func wildSpan(r *rand.Rand) api.Span { return span(wild(r), wild(r)) }

func wildIce(r *rand.Rand) api.Ice {
	return api.Ice{Black: wildSpan(r), White: wildSpan(r), Wet: wildSpan(r), Snow: wildSpan(r)}
}

func wildLaw(r *rand.Rand) api.Frost {
	l := api.Frost{Growth: wild(r), Latent: wild(r), Melt: wildSpan(r), Soak: wild(r), White: wildSpan(r)}
	for range r.Intn(15) {
		l.Covers = append(l.Covers, api.Cover{Depth: wild(r), Part: wildSpan(r)})
	}
	return l
}

func wildDays(r *rand.Rand) []api.Weather {
	days := make([]api.Weather, r.Intn(3)*r.Intn(202))
	for i := range days {
		days[i] = api.Weather{Cold: wildSpan(r), Fall: wildSpan(r), Water: wild(r), Clear: r.Intn(2) == 0}
	}
	return days
}

// P1, R3 and R5: arguments of any value give an error, or results; none panics, and with an error there are no results.
func TestAnyArguments(t *testing.T) {
	r := rand.New(rand.NewSource(11))
	for range 20000 {
		l, x, days := law(), black(), []api.Weather{day(100, 0, 0), day(-5, 2, 3)}
		if r.Intn(2) == 0 {
			l = wildLaw(r)
		}
		if r.Intn(2) == 0 {
			x = wildIce(r)
		}
		if r.Intn(2) == 0 {
			days = wildDays(r)
		}
		anyCall(t, r, l, x, days)
	}
}

func anyCall(t *testing.T, r *rand.Rand, l api.Frost, x api.Ice, days []api.Weather) {
	t.Helper()
	none := func(name string, e api.Errno, zero bool) {
		if e != api.OK && !zero {
			t.Fatalf("%s returns %v and something else", name, e)
		}
	}
	if len(days) > 0 {
		y, e := frost.Step(l, x, days[0])
		none("Step", e, y == api.Ice{})
	}
	list, e := frost.Run(l, x, days)
	none("Run", e, len(list) == 0)
	thick, sound, e := frost.Bearing(l, x)
	none("Bearing", e, thick == api.Span{} && sound == 0)
	sure, perhaps, e := frost.Ready(l, x, days, wild(r))
	none("Ready", e, sure == 0 && perhaps == 0)
	water, e := frost.Flood(l, x, days, wild(r), wild(r))
	none("Flood", e, water == 0)
	core, e := frost.Core(x, wildIce(r))
	none("Core", e, core == api.Ice{})
	index, e := frost.Index(days)
	none("Index", e, index == api.Span{})
	text, e := frost.Write(days)
	none("Write", e, text == "")
}

// P1 and R7: the greatest numbers of a law and of days, for a whole season.
func TestGreatestNumbers(t *testing.T) {
	l := api.Frost{Growth: 10000, Latent: 1, Covers: covers(12), Melt: one(10000000), Soak: 1000000, White: one(1000000)}
	l.Covers[0].Part = one(1000000)
	full := api.Ice{Black: one(5000), White: one(5000), Wet: one(5000), Snow: one(5000)}
	days := slices.Repeat([]api.Weather{day(0, 1000, 0)}, 399)
	// 404000 of snow, soaked, are water: with 5000 and 200 of it, less 1000 that freeze.
	days = append(days, day(1000, 0, 200))
	list, e := frost.Run(l, full, days)
	want := api.Ice{Black: one(5000), White: one(6000), Wet: one(404000 + 5000 + 200 - 1000)}
	if e != api.OK || list[399] != want {
		t.Errorf("Run = %v, %v, want %v", list[399:], e, want)
	}
	warm, e := frost.Run(l, full, slices.Repeat([]api.Weather{day(-1000, 0, 0)}, 2))
	if e != api.OK || !slices.Equal(warm, []api.Ice{{Black: one(5000), Wet: one(5000)}, {Wet: one(5000)}}) {
		t.Errorf("Run = %v, %v", warm, e)
	}
	if n, e := frost.Flood(l, api.Ice{}, slices.Repeat([]api.Weather{day(1, 0, 0)}, 400), 1, 200); n != 200 || e != api.OK {
		t.Errorf("Flood = %d, %v", n, e)
	}
}

// R4: arguments are not changed, and results share no memory with them or with each other.
func TestArgumentsStay(t *testing.T) {
	l, days := law(), []api.Weather{day(100, 5, 7), day(50, 0, 0)}
	kept, was := law(), slices.Clone(days)
	first, _ := frost.Run(l, black(), days)
	second, _ := frost.Run(l, black(), days)
	frost.Step(l, black(), days[0])
	frost.Ready(l, black(), days, 300)
	frost.Flood(l, black(), days, 1, 50)
	frost.Index(days)
	text, _ := frost.Write(days)
	if !reflect.DeepEqual(l, kept) || !slices.Equal(days, was) {
		t.Error("an argument was changed:", l, days)
	}
	first[0] = api.Ice{}
	if second[0] == first[0] {
		t.Error("two results of Run share memory")
	}
	log, _, _ := frost.Read(text)
	other, _, _ := frost.Read(text)
	log[0].Water++
	if other[0] != was[0] {
		t.Error("two results of Read share memory")
	}
}

// R4: a nil slice and an empty one are equal.
func TestEmptyIsNil(t *testing.T) {
	for _, days := range [][]api.Weather{nil, {}} {
		list, a := frost.Run(law(), black(), days)
		sum, b := frost.Index(days)
		text, c := frost.Write(days)
		if len(list) > 0 || sum != (api.Span{}) || text != "" || a != api.OK || b != api.OK || c != api.OK {
			t.Error(list, sum, text, a, b, c)
		}
	}
	for _, none := range [][]api.Cover{nil, {}} {
		l := law()
		if l.Covers = none; frost.Check(l) != api.ErrShort {
			t.Error("no covers are valid")
		}
	}
}
