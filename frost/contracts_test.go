package frost_test

import (
	"math"
	"slices"
	"strings"
	"testing"

	"sastrugi/api"
	"sastrugi/frost"
)

// covers returns n covers that are valid, or too many.
func covers(n int) []api.Cover {
	var list []api.Cover
	for i := range n {
		list = append(list, api.Cover{Depth: i, Part: one(n - i)})
	}
	return list
}

// lawErrors are laws with the error of each.
var lawErrors = []struct {
	name   string
	change func(l *api.Frost)
	want   api.Errno
}{
	{"as it is", func(l *api.Frost) {}, api.OK},
	{"no growth", func(l *api.Frost) { l.Growth = 0 }, api.OK},
	{"most growth", func(l *api.Frost) { l.Growth = 10000 }, api.OK},
	{"growth above", func(l *api.Frost) { l.Growth = 10001 }, api.ErrRange},
	{"growth below", func(l *api.Frost) { l.Growth = -1 }, api.ErrRange},
	{"least latent", func(l *api.Frost) { l.Latent = 1 }, api.OK},
	{"most latent", func(l *api.Frost) { l.Latent = 1000 }, api.OK},
	{"latent below", func(l *api.Frost) { l.Latent = 0 }, api.ErrRange},
	{"latent above, before covers", func(l *api.Frost) { l.Latent, l.Covers = 1001, nil }, api.ErrRange},
	{"no covers", func(l *api.Frost) { l.Covers = nil }, api.ErrShort},
	{"no covers, before melt", func(l *api.Frost) { l.Covers, l.Melt = []api.Cover{}, span(-1, 0) }, api.ErrShort},
	{"most covers", func(l *api.Frost) { l.Covers = covers(12) }, api.OK},
	{"covers above", func(l *api.Frost) { l.Covers = covers(13) }, api.ErrFull},
	{"covers above, before their own errors", func(l *api.Frost) { l.Covers = make([]api.Cover, 13); l.Covers[0].Depth = -1 }, api.ErrFull},
	{"first depth 1", func(l *api.Frost) { l.Covers[0].Depth = 1 }, api.ErrOrder},
	{"first depth below", func(l *api.Frost) { l.Covers[0].Depth = -1 }, api.ErrRange},
	{"first depth above", func(l *api.Frost) { l.Covers[0].Depth = 5001 }, api.ErrRange},
	{"first depth, before its part", func(l *api.Frost) { l.Covers[0] = api.Cover{Depth: 1, Part: one(-1)} }, api.ErrOrder},
	{"first part, before the second depth", func(l *api.Frost) { l.Covers[0].Part, l.Covers[1].Depth = span(2, 1), -1 }, api.ErrOrder},
	{"equal depths", func(l *api.Frost) { l.Covers[1].Depth = 0 }, api.ErrOrder},
	{"most depth", func(l *api.Frost) { l.Covers[1].Depth = 5000 }, api.OK},
	{"depth above", func(l *api.Frost) { l.Covers[1].Depth = 5001 }, api.ErrRange},
	{"part above", func(l *api.Frost) { l.Covers[1].Part = span(400000, 1000001) }, api.ErrRange},
	{"part below", func(l *api.Frost) { l.Covers[1].Part = span(-1, 0) }, api.ErrRange},
	{"part turned", func(l *api.Frost) { l.Covers[1].Part = span(2, 1) }, api.ErrOrder},
	{"part less sure than before", func(l *api.Frost) { l.Covers[0].Part = span(300000, 500000) }, api.ErrOrder},
	{"part greater than before", func(l *api.Frost) { l.Covers[0].Part = span(400000, 400000) }, api.ErrOrder},
	{"part as before", func(l *api.Frost) { l.Covers[0].Part = span(400000, 500000) }, api.OK},
	{"part, before melt", func(l *api.Frost) { l.Covers[1].Part, l.Melt = span(2, 1), one(-1) }, api.ErrOrder},
	{"most melt", func(l *api.Frost) { l.Melt = span(0, 10000000) }, api.OK},
	{"melt above", func(l *api.Frost) { l.Melt = span(0, 10000001) }, api.ErrRange},
	{"melt below", func(l *api.Frost) { l.Melt = span(-1, 0) }, api.ErrRange},
	{"melt turned, before soak", func(l *api.Frost) { l.Melt, l.Soak = span(2, 1), -1 }, api.ErrOrder},
	{"most soak", func(l *api.Frost) { l.Soak = 1000000 }, api.OK},
	{"soak above, before white", func(l *api.Frost) { l.Soak, l.White = 1000001, span(2, 1) }, api.ErrRange},
	{"soak below", func(l *api.Frost) { l.Soak = -1 }, api.ErrRange},
	{"most white", func(l *api.Frost) { l.White = span(0, 1000000) }, api.OK},
	{"white above", func(l *api.Frost) { l.White = span(0, 1000001) }, api.ErrRange},
	{"white below", func(l *api.Frost) { l.White = span(-1, 0) }, api.ErrRange},
	{"white turned", func(l *api.Frost) { l.White = span(2, 1) }, api.ErrOrder},
}

// P1.1, and R1: the error of the law comes before all others.
func TestLawErrors(t *testing.T) {
	badIce, badDays := api.Ice{Black: span(2, 1)}, make([]api.Weather, 401)
	for _, c := range lawErrors {
		l := law()
		c.change(&l)
		if e := frost.Check(l); e != c.want {
			t.Errorf("%s: Check = %v, want %v", c.name, e, c.want)
		}
		if c.want == api.OK {
			continue
		}
		_, step := frost.Step(l, badIce, api.Weather{Water: -1})
		_, run := frost.Run(l, badIce, badDays)
		_, _, bearing := frost.Bearing(l, badIce)
		_, _, ready := frost.Ready(l, badIce, badDays, -1)
		_, flood := frost.Flood(l, badIce, badDays, 0, -1)
		for i, e := range []api.Errno{step, run, bearing, ready, flood} {
			if e != c.want {
				t.Errorf("%s: function %d returns %v, want %v", c.name, i, e, c.want)
			}
		}
	}
}

// P1.1, P1.3, and R1: the error of ice comes behind that of the law and before that of the days.
func TestIceErrors(t *testing.T) {
	full := span(0, 5000)
	for i, c := range []struct {
		x    api.Ice
		want api.Errno
	}{
		{api.Ice{}, api.OK},
		{api.Ice{Black: full, White: full, Wet: full, Snow: full}, api.OK},
		{api.Ice{Black: span(0, 5001)}, api.ErrRange},
		{api.Ice{Black: span(-1, 0)}, api.ErrRange},
		{api.Ice{Black: span(2, 1), White: span(0, 5001)}, api.ErrOrder},
		{api.Ice{White: one(-1), Wet: span(2, 1)}, api.ErrRange},
		{api.Ice{White: span(2, 1), Wet: one(-1)}, api.ErrOrder},
		{api.Ice{Wet: span(2, 1), Snow: one(-1)}, api.ErrOrder},
		{api.Ice{Wet: one(5001), Snow: span(2, 1)}, api.ErrRange},
		{api.Ice{Snow: span(5001, 1)}, api.ErrRange},
		{api.Ice{Snow: span(2, 1)}, api.ErrOrder},
	} {
		if e := frost.CheckIce(c.x); e != c.want {
			t.Errorf("%d: CheckIce = %v, want %v", i, e, c.want)
		}
		if c.want == api.OK {
			continue
		}
		badDays := make([]api.Weather, 401)
		_, step := frost.Step(law(), c.x, api.Weather{Water: -1})
		_, run := frost.Run(law(), c.x, badDays)
		_, _, bearing := frost.Bearing(law(), c.x)
		_, _, ready := frost.Ready(law(), c.x, badDays, -1)
		_, flood := frost.Flood(law(), c.x, badDays, 0, -1)
		_, core := frost.Core(c.x, api.Ice{Black: one(-1)})
		_, second := frost.Core(api.Ice{Black: one(7)}, c.x)
		for k, e := range []api.Errno{step, run, bearing, ready, flood, core, second} {
			if e != c.want {
				t.Errorf("%d: function %d returns %v, want %v", i, k, e, c.want)
			}
		}
	}
}

// P1.1 to P1.4, and R1: the error of the days.
func TestDayErrors(t *testing.T) {
	for i, c := range []struct {
		days []api.Weather
		want api.Errno
	}{
		{nil, api.OK},
		{make([]api.Weather, 400), api.OK},
		{make([]api.Weather, 401), api.ErrFull},
		{append(make([]api.Weather, 400), api.Weather{Water: -1}), api.ErrFull},
		{[]api.Weather{{Cold: span(-1000, 1000), Fall: span(0, 1000), Water: 200}}, api.OK},
		{[]api.Weather{{Cold: span(0, 1001)}}, api.ErrRange},
		{[]api.Weather{{Cold: span(-1001, 0)}}, api.ErrRange},
		{[]api.Weather{{Cold: span(1, 0), Fall: one(-1)}}, api.ErrOrder},
		{[]api.Weather{{Fall: one(-1)}}, api.ErrRange},
		{[]api.Weather{{Fall: one(1001)}}, api.ErrRange},
		{[]api.Weather{{Fall: span(2, 1), Water: -1}}, api.ErrOrder},
		{[]api.Weather{{Water: -1}}, api.ErrRange},
		{[]api.Weather{{}, {Water: 201}, {Cold: span(2, 1)}}, api.ErrRange},
		{[]api.Weather{{}, {Cold: span(2, 1)}, {Water: 201}}, api.ErrOrder},
	} {
		_, run := frost.Run(law(), black(), c.days)
		_, index := frost.Index(c.days)
		_, write := frost.Write(c.days)
		for k, e := range []api.Errno{run, index, write} {
			if e != c.want {
				t.Errorf("%d: function %d returns %v, want %v", i, k, e, c.want)
			}
		}
		if c.want == api.OK {
			continue
		}
		_, _, ready := frost.Ready(law(), black(), c.days, -1)
		_, flood := frost.Flood(law(), black(), c.days, 0, -1)
		if ready != c.want || flood != c.want {
			t.Errorf("%d: Ready %v, Flood %v, want %v", i, ready, flood, c.want)
		}
		if len(c.days) == 1 {
			if _, e := frost.Step(law(), black(), c.days[0]); e != c.want {
				t.Errorf("%d: Step %v, want %v", i, e, c.want)
			}
		}
	}
}

// P1.1: Root.
func TestRoot(t *testing.T) {
	for root := range 300 {
		for n := root * root; n < (root+1)*(root+1); n++ {
			if r := frost.Root(n); r != root {
				t.Fatalf("Root(%d) = %d, want %d", n, r, root)
			}
		}
	}
	for _, root := range []int{1 << 16, 1<<16 + 1, 999999999, 1 << 31, 3037000498} {
		square := root * root
		for n, want := range map[int]int{square - 1: root - 1, square: root, square + 2*root: root, square + 2*root + 1: root + 1} {
			if r := frost.Root(n); r != want {
				t.Errorf("Root(%d) = %d, want %d", n, r, want)
			}
		}
	}
	for n, want := range map[int]int{-1: 0, math.MinInt: 0, math.MaxInt: 3037000499} {
		if r := frost.Root(n); r != want {
			t.Errorf("Root(%d) = %d, want %d", n, r, want)
		}
	}
}

// P1.1: Step, and Run with one day, for days that are worked out by hand.
func TestSteps(t *testing.T) {
	for _, c := range []struct {
		name string
		x    api.Ice
		d    api.Weather
		want api.Ice
	}{
		{"cold", black(), day(160, 0, 0), api.Ice{Black: span(325, 326)}},
		{"an exact root", api.Ice{Black: one(30)}, day(7, 0, 0), api.Ice{Black: one(40)}},
		{"below snow", black(), day(100, 150, 0), api.Ice{Black: span(306, 309), Snow: one(150)}},
		{"just below the depth", black(), day(100, 99, 0), api.Ice{Black: span(316, 317), Snow: one(99)}},
		{"just at the depth", black(), day(100, 100, 0), api.Ice{Black: span(306, 309), Snow: one(100)}},
		{"water that is left", black(), day(100, 0, 20), api.Ice{Black: one(300), White: one(10), Wet: one(10)}},
		{"snow that is soaked", black(), day(200, 100, 10), api.Ice{Black: one(300), White: one(20), Wet: one(20)}},
		{"warmth", black(), day(-150, 0, 0), api.Ice{Black: span(270, 285)}},
		{"warmth on snow", api.Ice{Black: one(300), Snow: one(20)}, day(-150, 0, 0), api.Ice{Black: span(290, 300), Snow: span(0, 5)}},
		{"neither", black(), day(0, 0, 0), black()},
		{"cleared before it snows", api.Ice{Black: one(300), Snow: span(50, 80)}, api.Weather{Cold: one(100), Fall: span(5, 10), Clear: true}, api.Ice{Black: span(316, 317), Snow: span(5, 10)}},
		{"cold or warmth", black(), api.Weather{Cold: span(-20, 30)}, api.Ice{Black: span(296, 305)}},
		{"cold or none", api.Ice{Black: one(5)}, api.Weather{Cold: span(0, 30)}, api.Ice{Black: span(5, 55)}},
		{"warmth or none", black(), api.Weather{Cold: span(-20, 0)}, api.Ice{Black: span(296, 300)}},
		{"warmth and water, which stays", api.Ice{Black: one(5), White: one(3), Wet: one(4), Snow: one(9)}, api.Weather{Cold: one(-20), Water: 2}, api.Ice{Black: span(4, 5), White: span(0, 1), Wet: one(8)}},
		{"warmth that leaves nothing", api.Ice{Black: one(5), White: one(3), Snow: one(2)}, day(-100, 0, 0), api.Ice{}},
		{"water that may be left", api.Ice{Black: one(100), Wet: span(0, 10)}, day(55, 0, 0), api.Ice{Black: span(100, 125), White: span(0, 5), Wet: span(0, 5)}},
		{"all water freezes, and then ice", api.Ice{Black: one(100), Wet: one(5)}, day(55, 0, 0), api.Ice{Black: span(102, 103), White: one(5)}},
	} {
		x, e := frost.Step(law(), c.x, c.d)
		if x != c.want || e != api.OK {
			t.Errorf("%s: Step = %v, %v, want %v", c.name, x, e, c.want)
		}
		list, e := frost.Run(law(), c.x, []api.Weather{c.d})
		if !slices.Equal(list, []api.Ice{c.want}) || e != api.OK {
			t.Errorf("%s: Run = %v, %v, want %v", c.name, list, e, c.want)
		}
	}
}

// P1.1: Run goes on with what is above MaxThick, and Step does not begin with it.
func TestRunBeyondValidIce(t *testing.T) {
	x := api.Ice{Black: one(5000), Snow: one(5000)}
	days := []api.Weather{day(1000, 1000, 0), day(1000, 0, 0)}
	list, e := frost.Run(law(), x, days)
	want := []api.Ice{{Black: span(5003, 5005), Snow: one(6000)}, {Black: span(5006, 5010), Snow: one(6000)}}
	if !slices.Equal(list, want) || e != api.OK {
		t.Errorf("Run = %v, %v, want %v", list, e, want)
	}
	if y, e := frost.Step(law(), list[0], days[1]); y != (api.Ice{}) || e != api.ErrRange {
		t.Errorf("Step = %v, %v", y, e)
	}
	if sure, perhaps, e := frost.Ready(law(), x, days, 5000); sure != 1 || perhaps != 1 || e != api.OK {
		t.Errorf("Ready = %d, %d, %v", sure, perhaps, e)
	}
	// The least water soaks 6000 of snow: 1800 of water. Without it there is none.
	if n, e := frost.Flood(law(), x, days, 2, 200); n != 0 || e != api.OK {
		t.Errorf("Flood = %d, %v", n, e)
	}
}

// P1.2: Bearing.
func TestBearing(t *testing.T) {
	for i, c := range []struct {
		x     api.Ice
		thick api.Span
		sound int
	}{
		{api.Ice{Black: span(300, 310), White: span(41, 43), Wet: span(0, 1)}, span(320, 336), api.Open},
		{api.Ice{}, one(0), api.Sure},
		{api.Ice{White: one(10), Wet: span(1, 5), Snow: one(9)}, span(5, 6), api.Never},
		{api.Ice{Black: one(5000), White: one(5000), Wet: one(5000)}, span(7500, 8000), api.Never},
		{black(), one(300), api.Sure},
	} {
		if thick, sound, e := frost.Bearing(law(), c.x); thick != c.thick || sound != c.sound || e != api.OK {
			t.Errorf("%d: Bearing = %v, %d, %v, want %v, %d", i, thick, sound, e, c.thick, c.sound)
		}
	}
}

// P1.2: the least part of white ice is rounded down to nothing, and up to a millimetre.
func TestBearingIsRoundedOutwards(t *testing.T) {
	l := law()
	l.White = one(1)
	for _, w := range []int{1, 5000} {
		thick, _, e := frost.Bearing(l, api.Ice{White: one(w)})
		if thick != span(0, 1) || e != api.OK {
			t.Errorf("Bearing of %d = %v, %v", w, thick, e)
		}
	}
}

// P1.2: Ready.
func TestReady(t *testing.T) {
	three := []api.Weather{day(160, 0, 0), day(160, 0, 0), day(160, 0, 0)}
	// On the second day the last water freezes: 20 of white ice.
	wet := []api.Weather{day(100, 0, 20), day(100, 0, 0)}
	// Whether the water freezes on the first day is not known.
	open := []api.Weather{{Cold: span(100, 200), Water: 20}, day(100, 0, 0)}
	for i, c := range []struct {
		days          []api.Weather
		need          int
		sure, perhaps int
		e             api.Errno
	}{
		{three, 350, 3, 2, api.OK},
		{three, 0, 1, 1, api.OK},
		{three, 325, 1, 1, api.OK},
		{three, 326, 2, 1, api.OK},
		{three, 370, 3, 3, api.OK},
		{three, 371, 0, 3, api.OK},
		{three, 374, 0, 0, api.OK},
		{three, 5000, 0, 0, api.OK},
		{wet, 0, 2, 2, api.OK},
		{wet, 310, 2, 2, api.OK},
		{wet, 311, 0, 2, api.OK},
		{wet, 313, 0, 0, api.OK},
		{open, 300, 2, 1, api.OK},
		{nil, 0, 0, 0, api.OK},
		{three, -1, 0, 0, api.ErrRange},
		{three, 5001, 0, 0, api.ErrRange},
	} {
		sure, perhaps, e := frost.Ready(law(), black(), c.days, c.need)
		if sure != c.sure || perhaps != c.perhaps || e != c.e {
			t.Errorf("%d: Ready = %d, %d, %v, want %d, %d, %v", i, sure, perhaps, e, c.sure, c.perhaps, c.e)
		}
	}
}

// P1.2: Flood.
func TestFlood(t *testing.T) {
	two := []api.Weather{day(100, 0, 0), day(50, 0, 0)}
	dry := law()
	dry.Soak = 0
	wetSnow := api.Ice{Wet: one(6), Snow: one(100)}
	for i, c := range []struct {
		l        api.Frost
		x        api.Ice
		days     []api.Weather
		at, most int
		want     int
		e        api.Errno
	}{
		{law(), black(), two, 1, 50, 15, api.OK},
		{law(), black(), two, 2, 50, 5, api.OK},
		{law(), black(), two, 1, 15, 15, api.OK},
		{law(), black(), two, 1, 14, 14, api.OK},
		{law(), black(), two, 1, 0, 0, api.OK},
		{law(), api.Ice{Wet: one(20)}, two, 1, 50, -1, api.OK},
		{law(), api.Ice{Wet: span(0, 10)}, two, 1, 50, 5, api.OK},
		{law(), api.Ice{Wet: one(15)}, two, 1, 50, 0, api.OK},
		// The day's own water does not count.
		{law(), black(), []api.Weather{day(100, 0, 200), day(50, 0, 0)}, 1, 50, 15, api.OK},
		{law(), black(), []api.Weather{day(100, 0, 0), day(50, 0, 3)}, 1, 50, 12, api.OK},
		// Water is left for good on days of warmth.
		{law(), black(), []api.Weather{day(-50, 0, 0)}, 1, 50, 0, api.OK},
		// Snow keeps the cold out unless it is soaked: then 10 freeze.
		{law(), wetSnow, two[:1], 1, 50, -1, api.OK},
		{dry, wetSnow, two[:1], 1, 50, 4, api.OK},
		{dry, wetSnow, two[:1], 1, 1, 1, api.OK},
		{dry, wetSnow, two[:1], 1, 0, -1, api.OK},
		// Soaked snow is more water than freezes; without water on it, it is none.
		{law(), api.Ice{Snow: one(100)}, two[:1], 1, 50, 0, api.OK},
		{law(), black(), two, 0, 50, 0, api.ErrRange},
		{law(), black(), two, 3, 50, 0, api.ErrRange},
		{law(), black(), two, math.MinInt, 50, 0, api.ErrRange},
		{law(), black(), two, 1, 200, 15, api.OK},
		{law(), black(), two, 1, 201, 0, api.ErrRange},
		{law(), black(), two, 1, -1, 0, api.ErrRange},
		{law(), black(), nil, 1, 0, 0, api.ErrRange},
	} {
		if n, e := frost.Flood(c.l, c.x, c.days, c.at, c.most); n != c.want || e != c.e {
			t.Errorf("%d: Flood = %d, %v, want %d, %v", i, n, e, c.want, c.e)
		}
	}
}

// P1.3: Core and Index.
func TestCoreAndIndex(t *testing.T) {
	x := api.Ice{Black: span(300, 310), White: span(0, 9), Wet: span(0, 3), Snow: span(20, 40)}
	for i, c := range []struct {
		core, want api.Ice
		e          api.Errno
	}{
		{x, x, api.OK},
		{api.Ice{Black: span(305, 320), White: one(9), Wet: span(0, 1), Snow: span(0, 20)}, api.Ice{Black: span(305, 310), White: one(9), Wet: span(0, 1), Snow: one(20)}, api.OK},
		{api.Ice{Black: span(0, 5000), White: span(0, 5000), Wet: span(0, 5000), Snow: span(0, 5000)}, x, api.OK},
		{api.Ice{Black: span(311, 320), Snow: one(20)}, api.Ice{}, api.ErrClash},
		{api.Ice{Black: span(0, 299), Snow: one(20)}, api.Ice{}, api.ErrClash},
		{api.Ice{Black: one(300), White: one(10), Snow: one(20)}, api.Ice{}, api.ErrClash},
		{api.Ice{Black: one(300), Wet: one(4), Snow: one(30)}, api.Ice{}, api.ErrClash},
		{api.Ice{Black: one(300), Snow: span(0, 19)}, api.Ice{}, api.ErrClash},
	} {
		if y, e := frost.Core(x, c.core); y != c.want || e != c.e {
			t.Errorf("%d: Core = %v, %v, want %v, %v", i, y, e, c.want, c.e)
		}
	}
	if s, e := frost.Index([]api.Weather{day(160, 0, 0), {Cold: span(-150, -100)}}); s != span(10, 60) || e != api.OK {
		t.Errorf("Index = %v, %v", s, e)
	}
	if s, e := frost.Index(nil); s != one(0) || e != api.OK {
		t.Errorf("Index = %v, %v", s, e)
	}
	if s, e := frost.Index([]api.Weather{day(5, 0, 0), {Cold: span(2, 1)}}); s != one(0) || e != api.ErrOrder {
		t.Errorf("Index = %v, %v", s, e)
	}
}

// P1.4: Write and Read.
func TestWriteAndRead(t *testing.T) {
	days := []api.Weather{day(160, 0, 20), {Cold: span(-5, 5), Fall: span(1, 2), Clear: true}}
	const text = "day 160 160 0 0 20 snow\nday -5 5 1 2 0 clear\n"
	if s, e := frost.Write(days); s != text || e != api.OK {
		t.Errorf("Write = %q, %v", s, e)
	}
	if list, row, e := frost.Read(text); !slices.Equal(list, days) || row != 0 || e != api.OK {
		t.Errorf("Read = %v, %d, %v", list, row, e)
	}
	if s, e := frost.Write(nil); s != "" || e != api.OK {
		t.Errorf("Write(nil) = %q, %v", s, e)
	}
	if s, e := frost.Write([]api.Weather{{Water: 201}}); s != "" || e != api.ErrRange {
		t.Errorf("Write = %q, %v", s, e)
	}
}

// P1.4, and R3: texts that are not logs of valid days.
func TestReadErrors(t *testing.T) {
	const good = "day 1 2 3 4 5 snow\n"
	for _, c := range []struct {
		text string
		row  int
		want api.Errno
	}{
		{"", 0, api.OK},
		{"\n", 1, api.ErrForm},
		{good + "\n", 2, api.ErrForm},
		{"day 1 2 3 4 5 rain\n", 1, api.ErrForm},
		{"day 1 2 3 4 5 snow", 1, api.ErrForm},
		{good + good + "day 1 2 3 4 5 clear", 3, api.ErrForm},
		{good + "x\n" + good + "x\n", 2, api.ErrForm},
		{"day 1 2 3 4 snow\n", 1, api.ErrForm},
		{"day 1 2 3 4 5 6 snow\n", 1, api.ErrForm},
		{"day 1 2 3 4 5\n", 1, api.ErrForm},
		{"day\n", 1, api.ErrForm},
		{"Day 1 2 3 4 5 snow\n", 1, api.ErrForm},
		{"day 01 2 3 4 5 snow\n", 1, api.ErrForm},
		{"day -0 2 3 4 5 snow\n", 1, api.ErrForm},
		{"day +1 2 3 4 5 snow\n", 1, api.ErrForm},
		{"day 1 2 3 4 x snow\n", 1, api.ErrForm},
		{"day 1  2 3 4 5 snow\n", 1, api.ErrForm},
		{" day 1 2 3 4 5 snow\n", 1, api.ErrForm},
		{"day 1 2 3 4 5 snow \n", 1, api.ErrForm},
		{"day 1 2 3 4 5 snow\r\n", 1, api.ErrForm},
		{"day\t1 2 3 4 5 snow\n", 1, api.ErrForm},
		{"day 1234567 1 0 0 0 snow\n", 1, api.ErrForm},
		{"day 0 -1234567 0 0 0 snow\n", 1, api.ErrForm},
		{"day 123456 123456 0 0 0 snow\n", 0, api.ErrRange},
		{"day -123456 0 0 0 0 snow\n", 0, api.ErrRange},
		{"day 2 1 0 0 0 snow\n", 0, api.ErrOrder},
		{"day 1001 1001 0 0 0 snow\n", 0, api.ErrRange},
		{"day 0 0 0 0 -1 snow\n", 0, api.ErrRange},
		{"day 2 1 0 0 0 snow\nx\n", 2, api.ErrForm},
		{strings.Repeat(good, 401), 0, api.ErrFull},
		{strings.Repeat(good, 401) + "x", 402, api.ErrForm},
		{strings.Repeat("x", 20001), 0, api.ErrLong},
		{strings.Repeat("x", 20000), 1, api.ErrForm},
	} {
		list, row, e := frost.Read(c.text)
		if len(list) > 0 || row != c.row || e != c.want {
			t.Errorf("Read(%.40q) = %v, %d, %v, want %d, %v", c.text, list, row, e, c.row, c.want)
		}
	}
	if list, row, e := frost.Read(strings.Repeat(good, 400)); len(list) != 400 || row != 0 || e != api.OK {
		t.Errorf("400 days: %d, %d, %v", len(list), row, e)
	}
}
