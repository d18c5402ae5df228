package convoy_test

import (
	"math"
	"slices"
	"strings"
	"testing"

	"sastrugi/api"
	"sastrugi/convoy"
)

// bays returns so many holds of a truck up.
func bays(n int) []api.Hold {
	var list []api.Hold
	for i := range n {
		list = append(list, api.Hold{At: 100 + i, Until: i})
	}
	return list
}

// convoyErrors are convoys with the error of each.
var convoyErrors = []struct {
	name   string
	change func(c *api.Convoy)
	want   api.Errno
}{
	{"as it is", func(c *api.Convoy) {}, api.OK},
	{"nothing", func(c *api.Convoy) { *c = api.Convoy{} }, api.ErrRange},
	{"no trucks", func(c *api.Convoy) { c.Trucks = nil }, api.OK},
	{"shortest", func(c *api.Convoy) { c.Length, c.Trucks[0].Holds = 1, nil }, api.OK},
	{"longest", func(c *api.Convoy) { c.Length, c.Trucks[0].Pace, c.Trucks[1].Pace = 100000, one(100), one(100) }, api.OK},
	{"length below", func(c *api.Convoy) { c.Length, c.Trucks = 0, nil }, api.ErrRange},
	{"length above", func(c *api.Convoy) { c.Length, c.Trucks = 100001, nil }, api.ErrRange},
	{"length, before trucks", func(c *api.Convoy) { c.Length, c.Trucks = -1, make([]api.Truck, 21) }, api.ErrRange},
	{"least gap", func(c *api.Convoy) { c.Gap, c.Trucks = 1, nil }, api.OK},
	{"greatest gap", func(c *api.Convoy) { c.Gap = 100000 }, api.OK},
	{"gap below", func(c *api.Convoy) { c.Gap, c.Trucks = 0, nil }, api.ErrRange},
	{"gap below, before the pace", func(c *api.Convoy) { c.Gap = 0 }, api.ErrRange},
	{"gap above", func(c *api.Convoy) { c.Gap = 100001 }, api.ErrRange},
	{"most fail", func(c *api.Convoy) { c.Fails = 20 }, api.OK},
	{"fails below", func(c *api.Convoy) { c.Fails = -1 }, api.ErrRange},
	{"fails above, before trucks", func(c *api.Convoy) { c.Fails, c.Trucks = 21, make([]api.Truck, 21) }, api.ErrRange},
	{"most trucks", func(c *api.Convoy) { c.Trucks = slices.Repeat(c.Trucks, 10) }, api.OK},
	{"trucks above, before their own errors", func(c *api.Convoy) { c.Trucks = make([]api.Truck, 21) }, api.ErrFull},
	{"way 0, before start", func(c *api.Convoy) { c.Trucks[1] = api.Truck{Start: -1} }, api.ErrKind},
	{"way below", func(c *api.Convoy) { c.Trucks[0].Way = -1 }, api.ErrKind},
	{"way 3, before holds", func(c *api.Convoy) { c.Trucks[0].Way, c.Trucks[0].Holds = 3, bays(9) }, api.ErrKind},
	{"last start", func(c *api.Convoy) { c.Trucks[1].Start = 10000 }, api.OK},
	{"start below", func(c *api.Convoy) { c.Trucks[1].Start = -1 }, api.ErrRange},
	{"start above, before the pace's order", func(c *api.Convoy) { c.Trucks[1].Start, c.Trucks[1].Pace = 10001, span(2, 1) }, api.ErrRange},
	{"slowest", func(c *api.Convoy) { c.Trucks[0].Pace = span(1, 100) }, api.OK},
	{"fastest", func(c *api.Convoy) { c.Gap, c.Trucks[0].Pace = 2000, one(1000) }, api.OK},
	{"pace below", func(c *api.Convoy) { c.Trucks[0].Pace = span(0, 100) }, api.ErrRange},
	{"pace below, before its order", func(c *api.Convoy) { c.Trucks[0].Pace = span(1, 0) }, api.ErrRange},
	{"pace above, before gap", func(c *api.Convoy) { c.Trucks[0].Pace = span(1, 1001) }, api.ErrRange},
	{"pace above, before its order", func(c *api.Convoy) { c.Trucks[0].Pace = span(1001, 1) }, api.ErrRange},
	{"pace beyond a type", func(c *api.Convoy) { c.Trucks[0].Pace = span(math.MaxInt, math.MaxInt) }, api.ErrRange},
	{"pace turned, before late", func(c *api.Convoy) { c.Length, c.Trucks[0].Pace = 100000, span(50, 49) }, api.ErrOrder},
	{"just in time", func(c *api.Convoy) { c.Length = 50000 }, api.OK},
	{"a metre too long", func(c *api.Convoy) { c.Length = 50001 }, api.ErrLate},
	{"too long, before the gap", func(c *api.Convoy) { c.Length, c.Gap = 50001, 1 }, api.ErrLate},
	{"too long for the second one", func(c *api.Convoy) { c.Length, c.Trucks[0].Pace.Lo, c.Trucks[1].Pace.Lo = 90001, 100, 90 }, api.ErrLate},
	{"gap less than twice the pace", func(c *api.Convoy) { c.Gap = 199 }, api.ErrClash},
	{"gap less, before holds", func(c *api.Convoy) { c.Gap, c.Trucks[0].Holds = 199, bays(9) }, api.ErrClash},
	{"gap less for the second one", func(c *api.Convoy) { c.Trucks[1].Pace.Hi = 101 }, api.ErrClash},
	{"most holds", func(c *api.Convoy) { c.Trucks[0].Holds = bays(8) }, api.OK},
	{"holds above", func(c *api.Convoy) { c.Trucks[0].Holds = bays(9) }, api.ErrFull},
	{"holds above, before their own errors", func(c *api.Convoy) { c.Trucks[0].Holds = make([]api.Hold, 9) }, api.ErrFull},
	{"first bay", func(c *api.Convoy) { c.Trucks[0].Holds[0].At = 1 }, api.OK},
	{"last bay", func(c *api.Convoy) { c.Trucks[0].Holds[0].At = 999 }, api.OK},
	{"bay at the beginning", func(c *api.Convoy) { c.Trucks[0].Holds[0].At = 0 }, api.ErrRange},
	{"bay at the end", func(c *api.Convoy) { c.Trucks[0].Holds[0].At = 1000 }, api.ErrRange},
	{"bay before the beginning", func(c *api.Convoy) { c.Trucks[0].Holds[0].At = -1 }, api.ErrRange},
	{"bay far out", func(c *api.Convoy) { c.Trucks[1].Holds = []api.Hold{{At: math.MinInt}, {At: math.MaxInt}} }, api.ErrRange},
	{"last until", func(c *api.Convoy) { c.Trucks[0].Holds[0].Until = 10000 }, api.OK},
	{"first until", func(c *api.Convoy) { c.Trucks[0].Holds[0].Until = 0 }, api.OK},
	{"until below", func(c *api.Convoy) { c.Trucks[0].Holds[0].Until = -1 }, api.ErrRange},
	{"until above", func(c *api.Convoy) { c.Trucks[0].Holds[0].Until = 10001 }, api.ErrRange},
	{"until, before the order", func(c *api.Convoy) { c.Trucks[0].Holds = []api.Hold{{At: 300}, {At: 300, Until: -1}} }, api.ErrRange},
	{"one bay twice", func(c *api.Convoy) { c.Trucks[0].Holds = []api.Hold{{At: 300}, {At: 300}} }, api.ErrOrder},
	{"a metre farther up", func(c *api.Convoy) { c.Trucks[0].Holds = []api.Hold{{At: 300, Until: 9}, {At: 301}} }, api.OK},
	{"farther down, for one up", func(c *api.Convoy) { c.Trucks[0].Holds = []api.Hold{{At: 300}, {At: 299}} }, api.ErrOrder},
	{"farther down", func(c *api.Convoy) { c.Trucks[1].Holds = []api.Hold{{At: 300}, {At: 299}, {At: 1}} }, api.OK},
	{"farther up, for one down", func(c *api.Convoy) { c.Trucks[1].Holds = []api.Hold{{At: 300}, {At: 301}} }, api.ErrOrder},
	{"one bay twice, for one down", func(c *api.Convoy) { c.Trucks[1].Holds = []api.Hold{{At: 300}, {At: 300}} }, api.ErrOrder},
	{"the order of two, before the third", func(c *api.Convoy) { c.Trucks[0].Holds = []api.Hold{{At: 300}, {At: 200}, {At: 0}} }, api.ErrOrder},
	{"the third behind the second", func(c *api.Convoy) { c.Trucks[0].Holds = []api.Hold{{At: 300}, {At: 500}, {At: 400}} }, api.ErrOrder},
	{"holds, before the next truck", func(c *api.Convoy) {
		c.Trucks[0].Holds, c.Trucks[1].Way = []api.Hold{{At: 300}, {At: 200}}, 0
	}, api.ErrOrder},
}

// P4.1, and R1: the error of the convoy comes before all others; and R3: nothing is returned beside it.
func TestConvoyErrors(t *testing.T) {
	for _, c := range convoyErrors {
		x := held()
		c.change(&x)
		if e := convoy.Check(x); e != c.want {
			t.Errorf("%s: Check = %v, want %v", c.name, e, c.want)
		}
		text, e := convoy.Write(x)
		if e != c.want || (text == "") != (e != api.OK) {
			t.Errorf("%s: Write = %q, %v, want %v", c.name, text, e, c.want)
		}
		if c.want == api.OK {
			continue
		}
		for i, e := range answers(t, x) {
			if e != c.want {
				t.Errorf("%s: function %d returns %v, want %v", c.name, i, e, c.want)
			}
		}
	}
}

// answers are the errors of all functions that a convoy is given to, with arguments that are otherwise wrong.
func answers(t *testing.T, c api.Convoy) []api.Errno {
	t.Helper()
	at, lane, e1 := convoy.Where(c, -1, true, -1)
	m, e2 := convoy.Meets(c)
	off, e3 := convoy.Off(c)
	safe, e4 := convoy.Safe(c, span(2, 1))
	list, e5 := convoy.Caught(c, span(-1, -2))
	start, e6 := convoy.Release(c, 3, span(2, 1), span(2, 1))
	places, last, e7 := convoy.Timetable(c, nil)
	if at != span(0, 0) || lane != 0 || m != (api.Meeting{}) || off != span(0, 0) || safe != 0 || len(list) > 0 || start != 0 || len(places) > 0 || last != span(0, 0) {
		t.Error("something is returned beside an error:", at, lane, m, off, safe, list, start, places, last)
	}
	return []api.Errno{e1, e2, e3, e4, e5, e6, e7}
}

// P4.2: the errors of Where's own arguments, in their order.
func TestWhereErrors(t *testing.T) {
	for _, c := range []struct {
		truck, minute int
		want          api.Errno
	}{
		{0, 0, api.OK}, {1, 30000, api.OK}, {2, -1, api.ErrMissing}, {-1, -1, api.ErrMissing}, {2, 0, api.ErrMissing}, {math.MaxInt, 0, api.ErrMissing}, {0, -1, api.ErrRange}, {1, 30001, api.ErrRange}, {1, math.MinInt, api.ErrRange},
	} {
		for _, fails := range []bool{false, true} {
			at, lane, e := convoy.Where(held(), c.truck, fails, c.minute)
			if e != c.want || e != api.OK && (at != span(0, 0) || lane != 0) {
				t.Errorf("Where(%d, %v, %d) = %v, %d, %v, want %v", c.truck, fails, c.minute, at, lane, e, c.want)
			}
		}
	}
}

// P4.4 and P4.5: the errors of break-ups and storms, also without trucks.
func TestMinuteErrors(t *testing.T) {
	for _, c := range []struct {
		s    api.Span
		want api.Errno
	}{
		{span(0, 0), api.OK}, {span(0, 30000), api.OK}, {one(30000), api.OK}, {span(-1, 0), api.ErrRange}, {span(0, -1), api.ErrRange}, {span(0, 30001), api.ErrRange}, {span(30001, 0), api.ErrRange}, {span(math.MaxInt, math.MinInt), api.ErrRange}, {span(1, 0), api.ErrOrder}, {span(30000, 29999), api.ErrOrder},
	} {
		for _, x := range []api.Convoy{held(), road(1000, 200, 0)} {
			n, a := convoy.Safe(x, c.s)
			list, b := convoy.Caught(x, c.s)
			if a != c.want || b != c.want {
				t.Errorf("Safe and Caught for %v = %v, %v, want %v", c.s, a, b, c.want)
			}
			if (n != 0) != (c.want == api.OK) || c.want != api.OK && len(list) > 0 || c.want == api.OK && len(list) != len(x.Trucks) {
				t.Errorf("Safe and Caught for %v = %d, %v beside %v", c.s, n, list, c.want)
			}
		}
	}
}

// P4.6: the errors of Release's own arguments, in their order.
func TestReleaseErrors(t *testing.T) {
	one19 := road(1000, 200, 0, slices.Repeat([]api.Truck{up(0, one(50))}, 19)...)
	full := road(1000, 200, 0, slices.Repeat([]api.Truck{up(0, one(50))}, 20)...)
	empty := road(1000, 200, 0)
	for _, c := range []struct {
		name         string
		c            api.Convoy
		way          int
		pace, window api.Span
		want         api.Errno
	}{
		{"full", full, 0, span(0, 0), span(-1, -2), api.ErrFull},
		{"full, though nothing else is wrong", full, 1, span(50, 50), span(0, 10000), api.ErrFull},
		{"19", one19, 1, span(50, 50), span(0, 10000), api.ErrMissing},
		{"way 0", empty, 0, span(0, 0), span(-1, -2), api.ErrKind},
		{"way 3", empty, 3, span(2, 1), span(2, 1), api.ErrKind},
		{"pace below", empty, 1, span(0, 50), span(2, 1), api.ErrRange},
		{"pace above", empty, 2, span(1001, 1), span(2, 1), api.ErrRange},
		{"pace turned", empty, 2, span(2, 1), span(-1, -1), api.ErrOrder},
		{"too slow", road(1001, 200, 0), 2, span(1, 101), span(-1, -1), api.ErrLate},
		{"too fast", empty, 2, span(1, 101), span(-1, -1), api.ErrClash},
		{"window below", empty, 2, span(1, 100), span(-1, 0), api.ErrRange},
		{"window above", empty, 2, span(1, 100), span(10001, 0), api.ErrRange},
		{"window's end above", empty, 2, span(1, 100), span(0, 10001), api.ErrRange},
		{"window far out", empty, 2, span(1, 100), span(math.MinInt, math.MaxInt), api.ErrRange},
		{"window turned", empty, 2, span(1, 100), span(1, 0), api.ErrOrder},
		{"window turned, on a road that is not accepted", two(), 2, span(1, 100), span(1, 0), api.ErrOrder},
		{"not accepted", two(), 2, span(50, 100), span(5000, 10000), api.ErrMissing},
	} {
		if n, e := convoy.Release(c.c, c.way, c.pace, c.window); n != 0 || e != c.want {
			t.Errorf("%s: Release = %d, %v, want %v", c.name, n, e, c.want)
		}
	}
}

// P4.7: the errors of Timetable's own arguments, in their order.
func TestTimetableErrors(t *testing.T) {
	trucks := func(n int) api.Convoy {
		return road(1000, 200, 0, slices.Repeat([]api.Truck{up(0, one(50))}, n)...)
	}
	for _, c := range []struct {
		name   string
		c      api.Convoy
		starts []int
		want   api.Errno
	}{
		{"no trucks", trucks(0), make([]int, 7), api.ErrShort},
		{"no trucks, nothing else", trucks(0), []int{1}, api.ErrShort},
		{"no starts", trucks(1), nil, api.ErrShort},
		{"no starts, before too many trucks", trucks(6), []int{}, api.ErrShort},
		{"too many trucks", trucks(6), []int{-1}, api.ErrFull},
		{"too many trucks, nothing else", trucks(6), []int{0, 10, 20, 30, 40, 50}, api.ErrFull},
		{"too many starts, before their own errors", trucks(1), []int{-1, 0, 0, 0, 0, 0, 0}, api.ErrFull},
		{"start below", trucks(1), []int{-1}, api.ErrRange},
		{"start above", trucks(1), []int{0, 10001}, api.ErrRange},
		{"start far out", trucks(1), []int{math.MaxInt, math.MinInt}, api.ErrRange},
		{"fewer starts than it takes", trucks(5), []int{0, 10, 20, 30}, api.ErrMissing},
	} {
		if l, off, e := convoy.Timetable(c.c, c.starts); len(l) > 0 || off != span(0, 0) || e != c.want {
			t.Errorf("%s: Timetable = %v, %v, %v, want %v", c.name, l, off, e, c.want)
		}
	}
}

// P4.8: texts that are not timetables, with the first row that is not.
func TestReadErrors(t *testing.T) {
	const head, truck = "road 1000 200 1\n", "truck up 0 50 100\n"
	for _, c := range []struct {
		text string
		row  int
		e    api.Errno
	}{
		{head, 0, api.OK},
		{head + truck + "hold 300 20\n" + "truck down 7 1 1\nhold 999 0\nhold 1 10000\n", 0, api.OK},
		{"", 1, api.ErrForm},
		{"\n", 1, api.ErrForm},
		{"road", 1, api.ErrForm},
		{"road 1000 200 1", 1, api.ErrForm},
		{"road 1000 200\n", 1, api.ErrForm},
		{"road 1000 200 1 1\n", 1, api.ErrForm},
		{"road 1000 200 1 \n", 1, api.ErrForm},
		{" road 1000 200 1\n", 1, api.ErrForm},
		{"road  1000 200 1\n", 1, api.ErrForm},
		{"Road 1000 200 1\n", 1, api.ErrForm},
		{"road\t1000 200 1\n", 1, api.ErrForm},
		{"road 1000 200 1\r\n", 1, api.ErrForm},
		{"road 01000 200 1\n", 1, api.ErrForm},
		{"road 1000 +200 1\n", 1, api.ErrForm},
		{"road 1000 200 -1\n", 1, api.ErrForm},
		{"road 1000 200 -0\n", 1, api.ErrForm},
		{"road 1000 200 x\n", 1, api.ErrForm},
		{"road 1000000000 200 1\n", 1, api.ErrForm},
		{"road 999999999 200 1\n", 0, api.ErrRange},
		{"road 0 200 1\n", 0, api.ErrRange},
		{truck, 1, api.ErrForm},
		{"hold 300 20\n" + head, 1, api.ErrForm},
		{head + head, 2, api.ErrForm},
		{head + truck + head, 3, api.ErrForm},
		{head + "hold 300 20\n", 2, api.ErrForm},
		{head + "\n", 2, api.ErrForm},
		{head + "x", 2, api.ErrForm},
		{head + truck + "truck up 0 50 100", 3, api.ErrForm},
		{head + "truck\n", 2, api.ErrForm},
		{head + "truck up\n", 2, api.ErrForm},
		{head + "truck  0 50 100\n", 2, api.ErrForm},
		{head + "truck 0 50 100\n", 2, api.ErrForm},
		{head + "truck 1 0 50 100\n", 2, api.ErrForm},
		{head + "truck left 0 50 100\n", 2, api.ErrForm},
		{head + "truck up 0 50\n", 2, api.ErrForm},
		{head + "truck down 0 50 100 0\n", 2, api.ErrForm},
		{head + "truck down 0 50 0100\n", 2, api.ErrForm},
		{head + "truck down -1 50 100\n", 2, api.ErrForm},
		{head + "lorry up 0 50 100\n", 2, api.ErrForm},
		{head + truck + "hold 300\n", 3, api.ErrForm},
		{head + truck + "hold 300 20 0\n", 3, api.ErrForm},
		{head + truck + "hold 300 1234567890\n", 3, api.ErrForm},
		{head + truck + "hold 300 -1\n", 3, api.ErrForm},
		{head + truck + "bay 300 20\n", 3, api.ErrForm},
		{head + truck + "hold 300 20\n\n", 4, api.ErrForm},
		// The form of all rows comes before the convoy's errors.
		{"road 0 0 0\n" + truck + "x\n", 3, api.ErrForm},
		{head + truck + "hold 1000 20\n", 0, api.ErrRange},
		{head + truck + "hold 300 999999999\n", 0, api.ErrRange},
		{head + truck + "hold 300 20\nhold 300 20\n", 0, api.ErrOrder},
		{head + truck + strings.Repeat("hold 300 20\n", 9), 0, api.ErrFull},
		{head + strings.Repeat(truck, 21), 0, api.ErrFull},
		{head + "truck up 0 100 50\n", 0, api.ErrOrder},
		{head + "truck up 0 50 101\n", 0, api.ErrClash},
		{"road 1001 200 0\ntruck up 0 1 1\n", 0, api.ErrLate},
		{strings.Repeat("x", 20000), 1, api.ErrForm},
		{strings.Repeat("x", 20001), 0, api.ErrLong},
		{head + strings.Repeat("x\n", 9993), 0, api.ErrLong},
		{head + strings.Repeat("x\n", 9992), 2, api.ErrForm},
	} {
		x, row, e := convoy.Read(c.text)
		if row != c.row || e != c.e || e != api.OK && (x.Length != 0 || x.Gap != 0 || x.Fails != 0 || x.Trucks != nil) {
			t.Errorf("Read(%.60q) = %v, %d, %v, want %d, %v", c.text, x, row, e, c.row, c.e)
		}
	}
}
