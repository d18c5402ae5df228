package convoy_test

import (
	"reflect"
	"slices"
	"testing"

	"sastrugi/api"
	"sastrugi/convoy"
)

// P4.2: Where, for trucks that are worked out by hand, up and, on the road that is turned, down.
func TestWhere(t *testing.T) {
	late := road(1000, 200, 0, up(7, span(50, 100)))
	// It may reach the second bay only behind the first one, and does not wait in the third one, which is over when it comes.
	bays := road(1000, 200, 0, up(2, span(40, 60), api.Hold{At: 100, Until: 10}, api.Hold{At: 150, Until: 20}, api.Hold{At: 151, Until: 5}))
	// Its first bay is over when it comes, and so it goes on to the second one.
	over := road(1000, 200, 0, up(0, span(50, 100), api.Hold{At: 120, Until: 2}, api.Hold{At: 350, Until: 6}))
	// It waits in a bay up to the minute in which it may come there at the earliest: it is stopped there, but not in the bay.
	just := road(1000, 200, 0, up(0, span(50, 100), api.Hold{At: 100, Until: 2}))
	for _, c := range []struct {
		name   string
		c      api.Convoy
		fails  bool
		minute int
		at     api.Span
		lane   int
	}{
		{"start", held(), false, 0, one(0), api.Sure},
		{"on its way", held(), false, 2, span(100, 200), api.Sure},
		{"perhaps in the bay", held(), false, 3, span(150, 300), api.Open},
		{"one minute more", held(), false, 4, span(200, 300), api.Open},
		{"the last minute in which it may be on the lane", held(), false, 5, span(250, 300), api.Open},
		{"in the bay", held(), false, 6, one(300), api.Never},
		{"in the bay for the last minute", held(), false, 19, one(300), api.Never},
		{"at the bay in the minute until", held(), false, 20, one(300), api.Sure},
		{"behind the bay", held(), false, 21, span(350, 400), api.Sure},
		{"not yet off", held(), false, 26, span(600, 900), api.Sure},
		{"perhaps off", held(), false, 27, span(650, 1000), api.Open},
		{"the last minute in which it may not be off", held(), false, 33, span(950, 1000), api.Open},
		{"off", held(), false, 34, one(1000), api.Never},
		{"long ago", held(), false, 30000, one(1000), api.Never},
		{"failing, at the bay", held(), true, 3, span(150, 300), api.Sure},
		{"failing, behind the bay", held(), true, 4, span(200, 400), api.Sure},
		{"failing, perhaps off", held(), true, 10, span(500, 1000), api.Open},
		{"failing, off", held(), true, 20, one(1000), api.Never},
		{"before the start", late, false, 6, one(0), api.Never},
		{"before the start, in the first minute", late, true, 0, one(0), api.Never},
		{"in the minute of the start", late, false, 7, one(0), api.Sure},
		{"a minute later", late, true, 8, span(50, 100), api.Sure},
		{"in front of the first of three bays", bays, false, 3, span(40, 60), api.Sure},
		{"perhaps in the first of three bays", bays, false, 4, span(80, 100), api.Open},
		{"in the first of three bays", bays, false, 9, one(100), api.Never},
		{"between two bays", bays, false, 10, one(100), api.Sure},
		{"perhaps in the second of three bays", bays, false, 11, span(140, 150), api.Open},
		{"in the second of three bays", bays, false, 12, one(150), api.Never},
		{"at the second of three bays, until", bays, false, 20, one(150), api.Sure},
		{"past the third one", bays, false, 21, span(190, 210), api.Sure},
		{"past all of them, failing", bays, true, 11, span(360, 540), api.Sure},
		{"stopped at a bay that is over then", over, false, 2, span(100, 120), api.Sure},
		{"past the bay that is over", over, false, 3, span(150, 220), api.Sure},
		{"perhaps in the next bay", over, false, 5, span(250, 350), api.Open},
		{"the next bay is over", over, false, 6, span(300, 350), api.Sure},
		{"past both", over, false, 7, span(350, 450), api.Sure},
		{"perhaps in a bay for a minute", just, false, 1, span(50, 100), api.Open},
		{"at a bay, until", just, false, 2, one(100), api.Sure},
		{"past a bay that only some are stopped at", just, false, 3, span(150, 200), api.Sure},
	} {
		at, lane, e := convoy.Where(c.c, 0, c.fails, c.minute)
		if at != c.at || lane != c.lane || e != api.OK {
			t.Errorf("%s: Where = %v, %d, %v, want %v, %d", c.name, at, lane, e, c.at, c.lane)
		}
		want := span(1000-c.at.Hi, 1000-c.at.Lo)
		at, lane, e = convoy.Where(turned(c.c), 0, c.fails, c.minute)
		if at != want || lane != c.lane || e != api.OK {
			t.Errorf("%s, turned: Where = %v, %d, %v, want %v, %d", c.name, at, lane, e, want, c.lane)
		}
	}
	// The second truck of H goes down.
	if at, lane, e := convoy.Where(held(), 1, false, 9); at != span(100, 550) || lane != api.Sure || e != api.OK {
		t.Error(at, lane, e)
	}
	if at, lane, e := convoy.Where(held(), 1, false, 15); at != span(0, 250) || lane != api.Open || e != api.OK {
		t.Error(at, lane, e)
	}
	// A truck may fail in Where although none does.
	if at, lane, e := convoy.Where(held(), 0, true, 5); at != span(250, 500) || lane != api.Sure || e != api.OK {
		t.Error(at, lane, e)
	}
}

// P4.3: Meets, for convoys that are worked out by hand.
func TestMeets(t *testing.T) {
	none := api.Meeting{Minute: -1}
	wait := func(at, until int) api.Hold { return api.Hold{At: at, Until: until} }
	fast, slow, pace := span(50, 100), one(50), one(100)
	for _, c := range []struct {
		name string
		c    api.Convoy
		want api.Meeting
	}{
		{"V", two(), api.Meeting{Minute: 5, Second: 1, At: 301, Other: 500}},
		{"H", held(), none},
		{"K", failing(), api.Meeting{Minute: 5, Second: 1, FirstFails: true, At: 301, Other: 500}},
		{"no trucks", road(5, 5, 20), none},
		{"one truck", road(1000, 200, 20, up(0, fast)), none},
		{"both at one end in the first minute", road(1000, 200, 0, up(0, fast), up(0, fast)), api.Meeting{Second: 1}},
		{"both at the other end", road(1000, 200, 0, down(3, fast), down(3, fast)), api.Meeting{Minute: 3, Second: 1, At: 1000, Other: 1000}},
		{"both from unlike ends of a road as short as the gap", road(200, 200, 0, up(0, one(10)), down(0, one(10))), api.Meeting{Minute: 1, Second: 1, At: 10, Other: 190}},
		{"a metre shorter", road(199, 200, 0, up(0, one(10)), down(0, one(10))), api.Meeting{Other: 199, Second: 1}},
		{"one starts when the other one has arrived", road(200, 200, 0, up(0, one(10)), down(20, one(10))), none},
		{"a minute before", road(200, 200, 0, up(0, one(10)), down(19, one(10))), api.Meeting{Minute: 19, Second: 1, At: 190, Other: 200}},
		{"one follows, as near as it may", road(1000, 200, 0, up(0, pace), up(2, pace)), none},
		{"one follows, and is nearer", road(1000, 200, 0, up(0, pace), up(1, pace)), api.Meeting{Minute: 1, Second: 1, At: 100}},
		{"one follows, and comes nearer", road(1000, 200, 0, up(0, fast), up(4, fast)), api.Meeting{Minute: 5, Second: 1, At: 250, Other: 51}},
		{"as near in front", road(1000, 200, 0, up(2, pace), up(0, pace)), none},
		{"the least Other", road(1000, 200, 0, up(4, fast), up(0, fast)), api.Meeting{Minute: 5, Second: 1, At: 51, Other: 250}},
		{"not apart when the other one comes out of its bay", road(1000, 200, 0, up(0, fast, wait(300, 17)), down(0, fast)), api.Meeting{Minute: 17, Second: 1, At: 300, Other: 101}},
		{"apart when the other one comes out of its bay", road(1000, 200, 0, up(0, fast, wait(300, 18)), down(0, fast)), none},
		{"a bay that is passed while nobody is in it", road(1000, 200, 0, up(0, slow), down(0, slow, wait(500, 1))), api.Meeting{Minute: 9, Second: 1, At: 450, Other: 550}},
		{"one passes the other one in its bay", road(1000, 200, 0, up(0, fast, wait(300, 20)), up(4, slow)), none},
		{"one comes to the bay too soon", road(1000, 200, 0, up(0, fast, wait(300, 20)), up(3, slow)), api.Meeting{Minute: 3, Second: 1, At: 150}},
		{"one passes the bay, but not far enough", road(1000, 200, 0, up(0, fast, wait(300, 20)), up(10, slow)), api.Meeting{Minute: 21, Second: 1, At: 351, Other: 550}},
		{"both in one bay, and out of it at once", road(1000, 200, 0, up(0, pace, wait(500, 30)), down(10, pace, wait(500, 30))), api.Meeting{Minute: 30, Second: 1, At: 500, Other: 500}},
		{"both in one bay, and out of it one by one", road(1000, 200, 0, up(0, pace, wait(500, 30)), down(10, pace, wait(500, 32))), none},
		{"a gap as in V", road(1000, 201, 0, held().Trucks...), none},
		{"a metre more", road(1000, 202, 0, held().Trucks...), api.Meeting{Minute: 5, Second: 1, At: 299, Other: 500}},
		{"neither fails, before those who fail", road(1000, 200, 2, two().Trucks...), api.Meeting{Minute: 5, Second: 1, At: 301, Other: 500}},
		{"the second one fails", road(1000, 200, 1, up(0, pace), down(0, pace, wait(900, 12))), api.Meeting{Minute: 5, Second: 1, SecondFails: true, At: 500, Other: 500}},
		{"none may", road(1000, 200, 0, up(0, pace), down(0, pace, wait(900, 12))), none},
		{"either one may fail, but not both", road(1000, 200, 1, up(0, pace, wait(100, 12)), down(0, pace, wait(900, 24))), none},
		{"both may", road(1000, 200, 2, up(0, pace, wait(100, 12)), down(0, pace, wait(900, 24))), api.Meeting{Minute: 5, Second: 1, FirstFails: true, SecondFails: true, At: 500, Other: 500}},
		{"the same with or without a failure", road(1000, 200, 0, up(0, pace, wait(100, 3)), down(0, pace, wait(900, 3))), api.Meeting{Minute: 7, Second: 1, At: 500, Other: 500}},
		{"the first one alone, before the second one alone", road(1000, 200, 1, up(0, pace, wait(100, 3)), down(0, pace, wait(900, 3))), api.Meeting{Minute: 6, Second: 1, FirstFails: true, At: 600, Other: 600}},
		{"both, since it is sooner", road(1000, 200, 2, up(0, pace, wait(100, 3)), down(0, pace, wait(900, 3))), api.Meeting{Minute: 5, Second: 1, FirstFails: true, SecondFails: true, At: 500, Other: 500}},
		{"the least Second", road(1000, 200, 0, up(0, pace), up(0, pace), up(0, pace)), api.Meeting{Second: 1}},
		{"the least First, before the least Second", road(1000, 200, 0, up(0, pace), up(5, pace), down(5, pace), up(5, pace), down(5, pace)), api.Meeting{Minute: 5, First: 1, Second: 3}},
		{"the least minute, before the least First", road(1000, 200, 0, up(9, pace), down(4, pace), up(8, pace), up(8, pace)), api.Meeting{Minute: 8, First: 2, Second: 3}},
		{"the least First, before who fails", road(1000, 200, 1, up(2, pace, wait(100, 40)), down(60, pace), up(0, pace), up(8, pace, wait(300, 70)), up(1, pace)), api.Meeting{Minute: 1, First: 2, Second: 4, At: 100}},
		{"a failure that comes to nothing", road(1000, 200, 2, up(0, pace), up(2, pace)), none},
	} {
		m, e := convoy.Meets(c.c)
		want := api.OK
		if c.want == none {
			c.want, want = api.Meeting{}, api.ErrMissing
		}
		if m != c.want || e != want {
			t.Errorf("%s: Meets = %v, %v, want %v, %v", c.name, m, e, c.want, want)
		}
	}
}

// P4.4: Off, Safe, and, by hand, how failures make the last truck earlier.
func TestOff(t *testing.T) {
	wait := func(at, until int) api.Hold { return api.Hold{At: at, Until: until} }
	three := func(fails int) api.Convoy {
		// Off in 40, 30 and 12 if they do as they are told, and in 10, 12 and 12 if they fail.
		return road(1000, 200, fails, up(0, one(100), wait(500, 35)), up(2, one(100), wait(300, 23)), down(2, one(100)))
	}
	for _, c := range []struct {
		name string
		c    api.Convoy
		want api.Span
	}{
		{"V", two(), span(10, 20)},
		{"H", held(), span(27, 34)},
		{"K", failing(), span(10, 34)},
		{"no trucks", road(5, 5, 0), one(0)},
		{"no trucks, of which some fail", road(5, 5, 20), one(0)},
		{"a road of one metre", road(1, 200, 0, up(7, span(1, 100))), one(8)},
		{"in steps that do not fit", road(1000, 200, 0, up(0, span(90, 99))), span(11, 12)},
		{"in steps that do", road(1000, 200, 0, up(0, span(50, 100))), span(10, 20)},
		{"three", three(0), one(40)},
		{"three, one fails", three(1), span(30, 40)},
		{"three, two fail", three(2), span(12, 40)},
		{"three, all fail", three(3), span(12, 40)},
		{"three, more may fail than there are", three(20), span(12, 40)},
		{"until its last bay", road(1000, 200, 0, down(10000, one(1), wait(999, 10000), wait(1, 10000))), one(11000)},
		{"from its first bay on, a metre from its beginning", road(1000, 200, 0, down(0, one(1), wait(999, 10000), wait(1, 10000))), one(10999)},
	} {
		if off, e := convoy.Off(c.c); off != c.want || e != api.OK {
			t.Errorf("%s: Off = %v, %v, want %v", c.name, off, e, c.want)
		}
	}
	for _, c := range []struct {
		name    string
		c       api.Convoy
		breakup api.Span
		want    int
	}{
		{"a minute later", held(), span(35, 50), api.Sure},
		{"perhaps in the last minute", held(), span(34, 50), api.Open},
		{"between", held(), span(30, 33), api.Open},
		{"just when it may be off", held(), span(5, 27), api.Never},
		{"a minute behind that", held(), span(5, 28), api.Open},
		{"one minute, Never", held(), one(27), api.Never},
		{"one minute, Open", held(), one(28), api.Open},
		{"one minute, Sure", held(), one(35), api.Sure},
		{"a failure helps", failing(), span(5, 27), api.Open},
		{"no trucks, in the first minute", road(5, 5, 0), one(0), api.Sure},
		{"no trucks", road(5, 5, 0), span(0, 30000), api.Sure},
		{"the first minute", held(), one(0), api.Never},
		{"the last minute", held(), one(30000), api.Sure},
	} {
		if v, e := convoy.Safe(c.c, c.breakup); v != c.want || e != api.OK {
			t.Errorf("%s: Safe = %d, %v, want %d", c.name, v, e, c.want)
		}
	}
}

// P4.5: Caught.
func TestCaught(t *testing.T) {
	with := func(fails int, c api.Convoy) api.Convoy {
		c.Fails = fails
		return c
	}
	// It is in the bay in the minutes 5 to 9, and off in the minute 16; if it fails, it is off in the minute 11.
	bay := road(1000, 200, 0, up(1, one(100), api.Hold{At: 400, Until: 10}))
	for _, c := range []struct {
		name  string
		c     api.Convoy
		storm api.Span
		want  []int
	}{
		{"none", road(5, 5, 0), span(0, 30000), nil},
		{"H in the bay", held(), span(6, 19), []int{api.Never, api.Sure}},
		{"K in the bay", failing(), span(6, 9), []int{api.Open, api.Sure}},
		{"H perhaps in the bay", held(), one(3), []int{api.Open, api.Sure}},
		{"H surely in one of two minutes", held(), span(2, 3), []int{api.Sure, api.Sure}},
		{"H out of the bay", held(), one(20), []int{api.Sure, api.Never}},
		{"K out of the bay, or off", failing(), one(20), []int{api.Open, api.Never}},
		{"H off", held(), span(34, 30000), []int{api.Never, api.Never}},
		{"H perhaps off", held(), span(10, 19), []int{api.Never, api.Open}},
		{"before the start", bay, one(0), []int{api.Never}},
		{"at the start", bay, span(0, 1), []int{api.Sure}},
		{"in the bay", bay, span(5, 9), []int{api.Never}},
		{"at the bay, until", bay, span(5, 10), []int{api.Sure}},
		{"the last minute on the lane", bay, span(15, 99), []int{api.Sure}},
		{"off", bay, span(16, 99), []int{api.Never}},
		{"in the bay, if it does not fail", with(1, bay), span(5, 9), []int{api.Open}},
		{"on the lane, also if it fails", with(20, bay), span(5, 10), []int{api.Sure}},
		// In the minute 11 it is surely on the lane if it does not fail, and off if it does.
		{"no minute in which it surely is on the lane", with(1, bay), span(11, 12), []int{api.Open}},
		// If it fails it is on the lane in the minute 5, if not in the minute 11; but in no minute of the storm whether it fails or not.
		{"two minutes, but not one", with(1, road(1000, 200, 0, up(1, one(100), api.Hold{At: 400, Until: 11}))), span(5, 11), []int{api.Open}},
		{"off, in any case", with(1, bay), span(16, 99), []int{api.Never}},
	} {
		list, e := convoy.Caught(c.c, c.storm)
		if e != api.OK || !slices.Equal(list, c.want) {
			t.Errorf("%s: Caught = %v, %v, want %v", c.name, list, e, c.want)
		}
	}
}

// P4.6: Release.
func TestRelease(t *testing.T) {
	fast, slow := span(50, 100), one(50)
	wait := func(until int) api.Hold { return api.Hold{At: 300, Until: until} }
	alone := road(1000, 200, 0, down(0, fast))
	for _, c := range []struct {
		name         string
		c            api.Convoy
		way          int
		pace, window api.Span
		want         int
		e            api.Errno
	}{
		{"as the other one is off", alone, api.WayUp, fast, span(0, 30), 20, api.OK},
		{"in a window that ends before", alone, api.WayUp, fast, span(0, 19), 0, api.ErrMissing},
		{"in a window that begins later", alone, api.WayUp, fast, span(25, 30), 25, api.OK},
		{"in a window of one minute", alone, api.WayUp, fast, one(20), 20, api.OK},
		{"in a window of one minute before", alone, api.WayUp, fast, one(19), 0, api.ErrMissing},
		{"the last minute of all", alone, api.WayUp, fast, one(10000), 10000, api.OK},
		{"the same way, slowly", alone, api.WayDown, slow, span(0, 30), 4, api.OK},
		{"the same way, perhaps fast", alone, api.WayDown, fast, span(0, 30), 12, api.OK},
		{"on a road without trucks", road(100, 20, 0), api.WayUp, one(10), span(7, 9), 7, api.OK},
		// The other one starts in the minute 40, so this one must be off then, or start 4 minutes later.
		{"before the other one", road(1000, 200, 0, down(40, one(50))), api.WayUp, slow, span(0, 99), 0, api.OK},
		{"just before the other one", road(1000, 200, 0, down(40, one(50))), api.WayUp, slow, span(20, 99), 20, api.OK},
		{"not before the other one", road(1000, 200, 0, down(40, one(50))), api.WayUp, slow, span(21, 99), 60, api.OK},
		{"in front of the other one", road(1000, 200, 0, up(40, one(50))), api.WayUp, slow, span(21, 99), 21, api.OK},
		{"as near in front of the other one as it may", road(1000, 200, 0, up(40, one(50))), api.WayUp, slow, span(36, 99), 36, api.OK},
		{"behind the other one", road(1000, 200, 0, up(40, one(50))), api.WayUp, slow, span(37, 99), 44, api.OK},
		// The other one is in its bay in the minutes 6 to 39, and this one has to be 200 metres behind the bay when it comes out.
		{"past the bay", road(1000, 200, 0, up(0, slow, wait(40))), api.WayDown, slow, span(0, 99), 0, api.OK},
		{"just past the bay", road(1000, 200, 0, up(0, slow, wait(40))), api.WayDown, slow, span(22, 99), 22, api.OK},
		{"not past the bay", road(1000, 200, 0, up(0, slow, wait(40))), api.WayDown, slow, span(23, 99), 54, api.OK},
		{"not past the bay, if the other one fails", road(1000, 200, 1, up(0, slow, wait(40))), api.WayDown, slow, span(0, 22), 20, api.OK},
		{"past the bay, since the other one may not fail", road(1000, 200, 0, up(0, slow, wait(40))), api.WayDown, slow, span(0, 22), 0, api.OK},
		{"neither past the bay nor behind it", road(1000, 200, 0, up(0, slow, wait(40))), api.WayDown, slow, span(23, 53), 0, api.ErrMissing},
		{"between two", road(1000, 200, 20, up(0, slow), up(8, slow)), api.WayUp, slow, span(1, 99), 4, api.OK},
		{"not between two", road(1000, 200, 20, up(0, slow), up(7, slow)), api.WayUp, slow, span(1, 99), 11, api.OK},
	} {
		n, e := convoy.Release(c.c, c.way, c.pace, c.window)
		if n != c.want || e != c.e {
			t.Errorf("%s: Release = %d, %v, want %d, %v", c.name, n, e, c.want, c.e)
		}
	}
}

// P4.6: the new truck waits nowhere, and its own failure is none.
func TestReleaseMayGoOn(t *testing.T) {
	c := road(1000, 200, 0)
	for i, want := range []int{0, 4, 8, 12} {
		n, e := convoy.Release(c, api.WayUp, one(50), span(0, 99))
		if n != want || e != api.OK {
			t.Errorf("%d: Release = %d, %v, want %d", i, n, e, want)
		}
		c.Trucks = append(c.Trucks, up(n, one(50)))
		c.Fails = i
	}
}

// P4.7: Timetable.
func TestTimetable(t *testing.T) {
	pace := one(50)
	alone := road(1000, 200, 0, down(0, span(50, 100)))
	row := func(n int) api.Convoy { return road(1000, 200, 0, slices.Repeat([]api.Truck{up(0, pace)}, n)...) }
	// The first one has to be in its bay when the second one comes.
	bay := road(1000, 200, 0, up(0, pace, api.Hold{At: 300, Until: 30}), down(0, pace))
	fails := bay
	fails.Fails = 1
	for _, c := range []struct {
		name   string
		c      api.Convoy
		starts []int
		list   []int
		off    api.Span
		e      api.Errno
	}{
		{"V", two(), []int{0, 5, 20}, []int{0, 2}, span(30, 40), api.OK},
		{"V, with other places", two(), []int{20, 5, 0}, []int{0, 2}, span(30, 40), api.OK},
		{"V, too near", two(), []int{0, 5}, nil, span(0, 0), api.ErrMissing},
		{"V, twice the same", two(), []int{9, 9}, nil, span(0, 0), api.ErrMissing},
		{"the earliest, at its first place", alone, []int{9, 3, 3}, []int{1}, span(13, 23), api.OK},
		{"one start", alone, []int{10000}, []int{0}, span(10010, 10020), api.OK},
		{"the first list of those that are as good", row(2), []int{0, 4, 0, 4}, []int{0, 1}, one(24), api.OK},
		{"the first list, not the first truck first", row(2), []int{4, 0}, []int{0, 1}, one(24), api.OK},
		{"the first of the best lists, not the first one of all", row(3), []int{40, 8, 0, 4, 1}, []int{1, 2, 3}, one(28), api.OK},
		{"five trucks and six starts", row(5), []int{16, 12, 8, 4, 0, 2}, []int{0, 1, 2, 3, 4}, one(36), api.OK},
		{"five trucks and six starts, one too near", row(5), []int{17, 12, 8, 4, 0, 16}, []int{1, 2, 3, 4, 5}, one(36), api.OK},
		{"five trucks, too near", row(5), []int{0, 4, 8, 12, 13, 14}, nil, span(0, 0), api.ErrMissing},
		{"past the bay", bay, []int{0, 3}, []int{0, 0}, one(44), api.OK},
		{"past the bay, if none fails", fails, []int{0, 3}, nil, span(0, 0), api.ErrMissing},
		{"not past the bay", fails, []int{0, 20}, []int{1, 0}, span(40, 44), api.OK},
		{"the one that waits starts later at no cost", bay, []int{5, 0}, []int{0, 0}, one(44), api.OK},
	} {
		l, off, e := convoy.Timetable(c.c, c.starts)
		if !slices.Equal(l, c.list) || off != c.off || e != c.e {
			t.Errorf("%s: Timetable = %v, %v, %v, want %v, %v, %v", c.name, l, off, e, c.list, c.off, c.e)
		}
	}
	// The starts that the trucks have do not count.
	c := two()
	c.Trucks[0].Start, c.Trucks[1].Start = 7, 10000
	if l, off, e := convoy.Timetable(c, []int{0, 20}); !slices.Equal(l, []int{0, 1}) || off != span(30, 40) || e != api.OK {
		t.Error(l, off, e)
	}
}

// P4.8: Write and Read.
func TestTexts(t *testing.T) {
	for _, c := range []struct {
		c    api.Convoy
		text string
	}{
		{failing(), "road 1000 200 1\ntruck up 0 50 100\nhold 300 20\ntruck down 0 50 100\n"},
		{road(1, 1, 0), "road 1 1 0\n"},
		{road(100000, 100000, 20, up(10000, span(100, 1000))), "road 100000 100000 20\ntruck up 10000 100 1000\n"},
		{
			road(500, 20, 0, down(3, one(7), api.Hold{At: 499, Until: 10000}, api.Hold{At: 1}), down(0, one(10))),
			"road 500 20 0\ntruck down 3 7 7\nhold 499 10000\nhold 1 0\ntruck down 0 10 10\n",
		},
	} {
		if text, e := convoy.Write(c.c); text != c.text || e != api.OK {
			t.Errorf("Write(%v) = %q, %v, want %q", c.c, text, e, c.text)
		}
		x, row, e := convoy.Read(c.text)
		if !reflect.DeepEqual(x, c.c) || row != 0 || e != api.OK {
			t.Errorf("Read(%q) = %v, %d, %v, want %v", c.text, x, row, e, c.c)
		}
	}
}

// P4.8: the longest timetable of all; none is too long.
func TestLongestText(t *testing.T) {
	x := down(10000, one(1000))
	for i := range 8 {
		x.Holds = append(x.Holds, api.Hold{At: 99999 - i, Until: 10000})
	}
	c := road(100000, 100000, 20, slices.Repeat([]api.Truck{x}, 20)...)
	text, e := convoy.Write(c)
	if e != api.OK || len(text) != 22+20*(27+8*17) {
		t.Error(len(text), e)
	}
	if y, row, e := convoy.Read(text); !reflect.DeepEqual(y, c) || row != 0 || e != api.OK {
		t.Error(y, row, e)
	}
}
