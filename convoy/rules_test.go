package convoy_test

import (
	"math"
	"math/rand"
	"reflect"
	"slices"
	"testing"

	"sastrugi/api"
	"sastrugi/convoy"
)

// wild returns a number of any kind: near the bounds, far out, or usual.
func wild(r *rand.Rand) int {
	edges := [...]int{math.MinInt, math.MinInt + 1, -1, 0, 1, 2, 3, 20, 21, 50, 100, 300, 999, 1000, 1001, 10000, 10001, 30000, 30001, 100000, 100001, math.MaxInt - 1, math.MaxInt}
	return edges[r.Intn(len(edges))]
}

func wildSpan(r *rand.Rand) api.Span {
	if r.Intn(2) == 0 {
		return one(wild(r))
	}
	return span(wild(r), wild(r))
}

// wildConvoy is a convoy of which some parts may have any value.
func wildConvoy(r *rand.Rand) api.Convoy {
	c := failing()
	c.Trucks = slices.Repeat(c.Trucks, r.Intn(12))
	for _, n := range []*int{&c.Length, &c.Gap, &c.Fails} {
		if r.Intn(8) == 0 {
			*n = wild(r)
		}
	}
	for i := range c.Trucks {
		x := &c.Trucks[i]
		switch r.Intn(30) {
		case 0:
			x.Way = wild(r)
		case 1:
			x.Start = wild(r)
		case 2:
			x.Pace = wildSpan(r)
		case 3:
			x.Holds = make([]api.Hold, r.Intn(10))
			for k := range x.Holds {
				x.Holds[k] = api.Hold{At: wild(r), Until: wild(r)}
			}
		}
	}
	return c
}

// P1, R3 and R5: arguments of any value give an error, or results; none panics, and with an error there are no results.
func TestAnyArguments(t *testing.T) {
	r := rand.New(rand.NewSource(55))
	seen := map[api.Errno]int{}
	for range 5000 {
		c := wildConvoy(r)
		seen[convoy.Check(c)]++
		anyCall(t, r, c)
	}
	for _, e := range []api.Errno{api.OK, api.ErrRange, api.ErrKind, api.ErrFull, api.ErrOrder, api.ErrLate, api.ErrClash} {
		if seen[e] < 20 {
			t.Error("too few of each error:", seen)
		}
	}
}

func anyCall(t *testing.T, r *rand.Rand, c api.Convoy) {
	t.Helper()
	bare := func(name string, e api.Errno, zero bool) {
		if e != api.OK && !zero {
			t.Fatalf("%s returns %v and something else", name, e)
		}
	}
	at, lane, e := convoy.Where(c, r.Intn(4)*wild(r), r.Intn(2) == 0, wild(r))
	bare("Where", e, at == span(0, 0) && lane == 0)
	m, e := convoy.Meets(c)
	bare("Meets", e, m == api.Meeting{})
	off, e := convoy.Off(c)
	bare("Off", e, off == span(0, 0))
	n, e := convoy.Safe(c, wildSpan(r))
	bare("Safe", e, n == 0)
	list, e := convoy.Caught(c, wildSpan(r))
	bare("Caught", e, len(list) == 0)
	n, e = convoy.Release(c, r.Intn(4), wildSpan(r), wildSpan(r))
	bare("Release", e, n == 0)
	list, off, e = convoy.Timetable(c, []int{wild(r), wild(r), wild(r)}[:r.Intn(4)])
	bare("Timetable", e, len(list) == 0 && off == span(0, 0))
	text, e := convoy.Write(c)
	bare("Write", e, text == "")
}

// P1: any text is read, or not.
func TestAnyText(t *testing.T) {
	r := rand.New(rand.NewSource(56))
	words := []string{"road", "truck", "hold", "up", "down", " ", " ", " ", "\n", "\n", "0", "1", "1000", "200", "\x00", "\xff", "é", "-", "99999999999999999999"}
	for range 20000 {
		text := ""
		for range r.Intn(30) {
			text += words[r.Intn(len(words))]
		}
		x, row, e := convoy.Read(text)
		if e != api.OK && (x.Length != 0 || x.Trucks != nil) || (row > 0) != (e == api.ErrForm) {
			t.Fatalf("Read(%q) = %v, %d, %v", text, x, row, e)
		}
	}
}

// full returns so many trucks on the longest road. Told, they go from bay to bay, each time for 100 minutes, 400 metres apart, and wait there for 900; failing, they drive on, 300 metres apart.
func full(trucks, fails int) api.Convoy {
	c := road(100000, 200, fails)
	for i := range trucks {
		x := up(3*i, one(100))
		for k := range 8 {
			x.Holds = append(x.Holds, api.Hold{At: 10000*(k+1) - 400*i, Until: 1000 * (k + 1)})
		}
		c.Trucks = append(c.Trucks, x)
	}
	return c
}

// P1 and R7: the longest drives of as many trucks as there may be.
func TestGreatestConvoys(t *testing.T) {
	c := full(20, 20)
	if m, e := convoy.Meets(c); m != (api.Meeting{}) || e != api.ErrMissing {
		t.Error(m, e)
	}
	// Failing, the last one drives from the minute 57 to 1057; told, it has 27,600 metres to go from its last bay.
	if off, e := convoy.Off(c); off != span(1057, 8276) || e != api.OK {
		t.Error(off, e)
	}
	for _, x := range []struct {
		storm api.Span
		want  int
	}{{span(0, 30000), api.Sure}, {span(100, 999), api.Open}, {span(1100, 1999), api.Never}, {span(8277, 30000), api.Never}} {
		if list, e := convoy.Caught(c, x.storm); e != api.OK || !slices.Equal(list, slices.Repeat([]int{x.want}, 20)) {
			t.Errorf("Caught in %v = %v, %v, want %d", x.storm, list, e, x.want)
		}
	}
	five := full(5, 20)
	// A truck that starts in the minute 0 goes from bay to bay, and is off before those that start later.
	if l, off, e := convoy.Timetable(five, []int{10000, 9998, 9996, 9994, 0, 9992}); !slices.Equal(l, []int{1, 2, 3, 4, 5}) || off != one(10998) || e != api.OK {
		t.Error(l, off, e)
	}
}

// P1 and P4.6: releases on the longest road, in the longest window.
func TestGreatestReleases(t *testing.T) {
	through := full(19, 20)
	for i := range through.Trucks {
		through.Trucks[i].Holds = nil
	}
	for i, c := range []struct {
		c    api.Convoy
		way  int
		from int
		want int
	}{
		// All others are in their bays when it comes by, unless they fail: then it waits for the last one.
		{full(19, 0), api.WayDown, 0, 0},
		{full(19, 20), api.WayDown, 0, 1054},
		{through, api.WayDown, 0, 1054},
		{through, api.WayUp, 1, 56},
	} {
		if n, e := convoy.Release(c.c, c.way, one(100), span(c.from, 10000)); n != c.want || e != api.OK {
			t.Errorf("%d: Release = %d, %v, want %d", i, n, e, c.want)
		}
	}
}

// R4: arguments are neither changed nor kept, and results share no memory with them or with each other.
func TestArgumentsStay(t *testing.T) {
	c, starts, text := failing(), []int{0, 20, 5}, "road 1000 200 1\ntruck up 0 50 100\nhold 300 20\n"
	c.Trucks = append(make([]api.Truck, 0, 9), c.Trucks...)
	calls := func() []any {
		at, lane, _ := convoy.Where(c, 0, true, 4)
		a, _ := convoy.Meets(c)
		b, _ := convoy.Off(c)
		d, _ := convoy.Safe(c, span(5, 27))
		e, _ := convoy.Caught(c, span(6, 9))
		f, _ := convoy.Release(held(), api.WayUp, span(50, 100), span(0, 100))
		g, h, _ := convoy.Timetable(two(), starts)
		i, _ := convoy.Write(c)
		x, _, _ := convoy.Read(text)
		return []any{at, lane, a, b, d, e, f, g, h, i, x.Trucks, x.Trucks[0].Holds}
	}
	first, second, again := calls(), calls(), calls()
	if !reflect.DeepEqual(c, failing()) || !slices.Equal(starts, []int{0, 20, 5}) {
		t.Error("an argument was changed:", c, starts)
	}
	if n, e := convoy.Release(c, api.WayUp, span(50, 100), span(0, 100)); n != 0 || e != api.ErrMissing || !reflect.DeepEqual(c.Trucks[:9][2], api.Truck{}) {
		t.Error("the memory behind an argument was changed:", n, e, c.Trucks[:9])
	}
	for i, x := range first {
		if v := reflect.ValueOf(x); v.Kind() == reflect.Slice {
			if v.Len() == 0 {
				t.Errorf("the result %d is meant to have something", i)
			}
			v.Index(0).SetZero()
		}
	}
	if !reflect.DeepEqual(second, again) || !reflect.DeepEqual(calls(), second) {
		t.Error("results share memory, or depend on what was called before")
	}
}

// R4: a nil slice and an empty one are equal.
func TestEmptyIsNil(t *testing.T) {
	for _, none := range [][]api.Truck{nil, {}} {
		c := road(5, 5, 1, none...)
		c.Trucks = none
		_, a := convoy.Meets(c)
		off, b := convoy.Off(c)
		list, d := convoy.Caught(c, span(0, 9))
		n, e := convoy.Release(c, api.WayUp, one(1), span(7, 9))
		text, f := convoy.Write(c)
		_, _, g := convoy.Timetable(c, []int{1})
		if a != api.ErrMissing || off != one(0) || len(list) > 0 || n != 7 || text != "road 5 5 1\n" || b != api.OK || d != api.OK || e != api.OK || f != api.OK || g != api.ErrShort {
			t.Error(off, list, n, text, a, b, d, e, f, g)
		}
	}
	for _, none := range [][]api.Hold{nil, {}} {
		c := two()
		c.Trucks[0].Holds = none
		m, e := convoy.Meets(c)
		text, f := convoy.Write(c)
		if m.At != 301 || e != api.OK || f != api.OK || text != "road 1000 200 0\ntruck up 0 50 100\ntruck down 0 50 100\n" {
			t.Error(m, text, e, f)
		}
	}
	for _, none := range [][]int{nil, {}} {
		if l, off, e := convoy.Timetable(two(), none); len(l) > 0 || off != one(0) || e != api.ErrShort {
			t.Error(l, off, e)
		}
	}
}
