package convoy_test

import (
	"math/rand"
	"reflect"
	"slices"
	"testing"

	"sastrugi/api"
	"sastrugi/convoy"
)

// P4.2, P4.9 and P4.10: in each minute a truck may be just at the metres that Where says, and on the lane as it says.
func TestWhereIsExact(t *testing.T) {
	r := rand.New(rand.NewSource(44))
	seen := map[int]int{}
	for range 400 {
		s := open(someConvoy(r))
		for i, x := range s.Trucks {
			for _, fails := range []bool{false, true} {
				for minute := range horizon(s.Convoy) {
					gone := of(s.gone[i], fails)[minute]
					low, high := metre(s.Convoy, x, gone[0]), metre(s.Convoy, x, gone[len(gone)-1])
					want := span(min(low, high), max(low, high))
					at, lane, e := convoy.Where(s.Convoy, i, fails, minute)
					if at != want || len(gone) != at.Hi-at.Lo+1 || lane != s.verdict(i, fails, minute) || e != api.OK {
						t.Fatalf("Where(%v, %d, %v, %d) = %v, %d, %v, want %v, %d", s.Convoy, i, fails, minute, at, lane, e, gone, s.verdict(i, fails, minute))
					}
					seen[lane]++
				}
			}
		}
	}
	for v := api.Sure; v <= api.Open; v++ {
		if seen[v] < 1000 {
			t.Error("too few of each verdict:", seen)
		}
	}
}

// P4.3 and P4.12: the first meeting is the first one of all courses.
func TestMeetingsAreTheFirst(t *testing.T) {
	r := rand.New(rand.NewSource(45))
	seen := map[api.Meeting]int{}
	for range 6000 {
		s := open(someConvoy(r))
		want, met := s.first()
		got, e := convoy.Meets(s.Convoy)
		if got != want || met != (e == api.OK) || !met && e != api.ErrMissing {
			t.Fatalf("Meets(%v) = %v, %v, want %v, %v", s.Convoy, got, e, want, met)
		}
		if !met {
			seen[api.Meeting{Minute: -1}]++
		} else {
			seen[api.Meeting{FirstFails: got.FirstFails, SecondFails: got.SecondFails}]++
		}
	}
	if len(seen) != 5 {
		t.Error("too few kinds:", seen)
	}
	for kind, n := range seen {
		if n < 8 {
			t.Error("too few of", kind, seen)
		}
	}
}

// P4.9, P4.11 and P4.14: in each course each truck is where Where says, the last one is off within Off, and if the convoy is accepted no two of them meet, nor pass each other if they come from unlike ends.
func TestCourses(t *testing.T) {
	r := rand.New(rand.NewSource(46))
	passed := 0
	for range 200 {
		c := someAccepted(r)
		last := horizon(c)
		off, e := convoy.Off(c)
		if e != api.OK {
			t.Fatal(e)
		}
		for range 6 {
			s := someCourse(r, c, last)
			arrived := 0
			for minute := range last {
				for i, x := range c.Trucks {
					gone := s.gone[i][minute]
					if gone < c.Length {
						arrived = minute + 1
					}
					at, lane, e := convoy.Where(c, i, s.fails[i], minute)
					m, on := metre(c, x, gone), lanes(c, x, s.fails[i], gone, minute)
					if e != api.OK || m < at.Lo || m > at.Hi || lane == api.Sure && !on || lane == api.Never && on {
						t.Fatalf("%v: the truck %d is at %d in the minute %d, on the lane: %v; but Where = %v, %d, %v", c, i, m, minute, on, at, lane, e)
					}
				}
				passed += s.apart(t, c, minute)
			}
			if len(c.Trucks) > 0 && (arrived < off.Lo || arrived > off.Hi) {
				t.Fatalf("Off(%v) = %v, but the last truck is off in the minute %d", c, off, arrived)
			}
		}
	}
	if passed < 100 {
		t.Error("too few trucks pass each other by their bays:", passed)
	}
}

// apart checks that no two trucks meet in a minute of a course, and that those from unlike ends do not pass each other on the lane up to the next one. It returns how many are behind each other then though they were not, somewhere beside the lane.
func (s course) apart(t *testing.T, c api.Convoy, minute int) int {
	t.Helper()
	passed := 0
	for i, x := range c.Trucks {
		for j, y := range c.Trucks[:i] {
			both := func(minute int) (lane bool, apart int) {
				a, b := s.gone[i][minute], s.gone[j][minute]
				return lanes(c, x, s.fails[i], a, minute) && lanes(c, y, s.fails[j], b, minute), metre(c, x, a) - metre(c, y, b)
			}
			now, a := both(minute)
			next, b := both(minute + 1)
			if now && max(a, -a) < c.Gap {
				t.Fatalf("%v is accepted, but %d and %d meet in the minute %d", c, j, i, minute)
			}
			if x.Way == y.Way || a < 0 == (b < 0) {
				continue
			}
			if passed++; now && next {
				t.Fatalf("%v is accepted, but %d and %d pass each other behind the minute %d", c, j, i, minute)
			}
		}
	}
	return passed
}

// P4.4 and P4.14: Off is from the first to the last minute in which the last truck is off, over all trucks that fail, and Safe follows it.
func TestOffIsExact(t *testing.T) {
	r := rand.New(rand.NewSource(47))
	seen := map[int]int{}
	for range 3000 {
		s := open(someConvoy(r))
		want := s.lastOff()
		off, e := convoy.Off(s.Convoy)
		if off != want || e != api.OK {
			t.Fatalf("Off(%v) = %v, %v, want %v", s.Convoy, off, e, want)
		}
		breakup := some(r, 0, off.Hi+5, 8)
		verdict := api.Open
		if len(s.Trucks) == 0 || off.Hi < breakup.Lo {
			verdict = api.Sure
		} else if off.Lo >= breakup.Hi {
			verdict = api.Never
		}
		if v, e := convoy.Safe(s.Convoy, breakup); v != verdict || e != api.OK {
			t.Fatalf("Safe(%v, %v) = %d, %v, want %d", s.Convoy, breakup, v, e, verdict)
		}
		seen[verdict]++
	}
	for v := api.Sure; v <= api.Open; v++ {
		if seen[v] < 100 {
			t.Error("too few of each verdict:", seen)
		}
	}
}

// P4.5: Caught, minute by minute.
func TestCaughtIsExact(t *testing.T) {
	r := rand.New(rand.NewSource(48))
	seen := map[int]int{}
	for range 2000 {
		s := open(someConvoy(r))
		storm := some(r, 0, horizon(s.Convoy), 6)
		list, e := convoy.Caught(s.Convoy, storm)
		if e != api.OK || len(list) != len(s.Trucks) {
			t.Fatal(list, e)
		}
		for i, got := range list {
			if want := s.caught(i, storm); got != want {
				t.Fatalf("Caught(%v, %v) = %v, want %d for %d", s.Convoy, storm, list, want, i)
			}
			seen[got]++
		}
	}
	for v := api.Sure; v <= api.Open; v++ {
		if seen[v] < 100 {
			t.Error("too few of each verdict:", seen)
		}
	}
}

// fewer returns a convoy with fewer failures, a lesser gap, narrower paces, or without one of its trucks.
func fewer(r *rand.Rand, c api.Convoy) api.Convoy {
	c = copied(c)
	switch r.Intn(4) {
	case 0:
		c.Fails = r.Intn(c.Fails + 1)
	case 1:
		least := 1
		for _, x := range c.Trucks {
			least = max(least, 2*x.Pace.Hi)
		}
		c.Gap = least + r.Intn(c.Gap-least+1)
	case 2:
		for i, x := range c.Trucks {
			c.Trucks[i].Pace = inside(r, x.Pace)
		}
	case 3:
		if n := len(c.Trucks); n > 0 {
			i := r.Intn(n)
			c.Trucks = slices.Delete(c.Trucks, i, i+1)
		}
	}
	return c
}

// P4.13: what was accepted is accepted with fewer failures, a lesser gap, narrower paces, or without one of its trucks.
func TestFewer(t *testing.T) {
	r := rand.New(rand.NewSource(49))
	fails, trucks := 0, 0
	for range 1500 {
		c := someAccepted(r)
		fails += c.Fails
		trucks += len(c.Trucks)
		x := fewer(r, c)
		if m, e := convoy.Meets(x); e != api.ErrMissing {
			t.Fatalf("%v is accepted, but Meets(%v) = %v, %v", c, x, m, e)
		}
	}
	if fails < 1500 || trucks < 3000 {
		t.Error("too few failures or trucks:", fails, trucks)
	}
	for range 3000 {
		c := someConvoy(r)
		x := copied(c)
		x.Fails = r.Intn(c.Fails + 1)
		a, e := convoy.Off(c)
		b, f := convoy.Off(x)
		if e != api.OK || f != api.OK || b.Lo < a.Lo || b.Hi > a.Hi {
			t.Fatalf("Off(%v) = %v, %v, and with %d failures %v, %v", c, a, e, x.Fails, b, f)
		}
	}
}

// P0: with narrower paces what may be lies within what may be with wider ones, and a verdict that is Sure, or Never, stays so.
func TestNarrowerPaces(t *testing.T) {
	r := rand.New(rand.NewSource(50))
	kept := func(wide, narrow int) bool { return wide == api.Open || narrow == wide }
	for range 2000 {
		c := someConvoy(r)
		x := copied(c)
		for i := range x.Trucks {
			x.Trucks[i].Pace = inside(r, x.Trucks[i].Pace)
		}
		a, _ := convoy.Off(c)
		b, _ := convoy.Off(x)
		if b.Lo < a.Lo || b.Hi > a.Hi {
			t.Fatalf("Off(%v) = %v, with narrower paces %v", c, a, b)
		}
		times := some(r, 0, horizon(c), 9)
		v, _ := convoy.Safe(c, times)
		w, _ := convoy.Safe(x, inside(r, times))
		if !kept(v, w) {
			t.Fatalf("Safe(%v, %v) = %d, with narrower paces %d", c, times, v, w)
		}
		l, _ := convoy.Caught(c, times)
		m, _ := convoy.Caught(x, times)
		for i := range l {
			minute, fails := r.Intn(horizon(c)), r.Intn(2) == 0
			at, lane, _ := convoy.Where(c, i, fails, minute)
			within, on, _ := convoy.Where(x, i, fails, minute)
			if !kept(l[i], m[i]) || !kept(lane, on) || within.Lo < at.Lo || within.Hi > at.Hi {
				t.Fatalf("%v, %d: Caught %d, %d, Where %v %d, %v %d", c, i, l[i], m[i], at, lane, within, on)
			}
		}
	}
}

// P4.6 and P4.15: a release is the first minute of the window with which the convoy is accepted.
func TestReleaseIsTheFirst(t *testing.T) {
	r := rand.New(rand.NewSource(51))
	seen := map[string]int{}
	for range 1500 {
		c := someAccepted(r)
		if r.Intn(10) == 0 {
			c = someConvoy(r)
		}
		next := someTruck(r, c.Length, c.Gap/2, 0)
		window := some(r, 0, 60, 40)
		want := -1
		for start := window.Lo; want < 0 && start <= window.Hi; start++ {
			x := copied(c)
			x.Trucks = append(x.Trucks, api.Truck{Way: next.Way, Start: start, Pace: next.Pace})
			if accepted(x) {
				want = start
			}
		}
		got, e := convoy.Release(c, next.Way, next.Pace, window)
		switch {
		case want < 0 && (got != 0 || e != api.ErrMissing), want >= 0 && (got != want || e != api.OK):
			t.Fatalf("Release(%v, %v, %v) = %d, %v, want %d", c, next, window, got, e, want)
		case want < 0:
			seen["none"]++
		case want == window.Lo:
			seen["at once"]++
		default:
			seen["later"]++
		}
	}
	if seen["none"] < 50 || seen["at once"] < 50 || seen["later"] < 50 {
		t.Error("too few kinds:", seen)
	}
}

// P4.7 and P4.16: no other list of starts is accepted with a lesser Hi of Off, and none before with the same.
func TestTimetablesAreTheBest(t *testing.T) {
	r := rand.New(rand.NewSource(52))
	seen := map[bool]int{}
	for range 400 {
		c := someConvoy(r)
		c.Trucks = c.Trucks[:min(3, len(c.Trucks))]
		if len(c.Trucks) == 0 {
			continue
		}
		var starts []int
		for range 1 + r.Intn(4) {
			starts = append(starts, r.Intn(60))
		}
		var best []int
		var off api.Span
		for n := range pow(len(starts), len(c.Trucks)) {
			list, given := digits(n, len(starts), len(c.Trucks)), []int{}
			for _, place := range list {
				given = append(given, starts[place])
			}
			x := started(c, given)
			if o, _ := convoy.Off(x); accepted(x) && (best == nil || o.Hi < off.Hi) {
				best, off = list, o
			}
		}
		want := api.OK
		if best == nil {
			want = api.ErrMissing
		}
		l, o, e := convoy.Timetable(c, starts)
		if !slices.Equal(l, best) || o != off || e != want {
			t.Fatalf("Timetable(%v, %v) = %v, %v, %v, want %v, %v, %v", c, starts, l, o, e, best, off, want)
		}
		seen[best != nil]++
	}
	if seen[true] < 50 || seen[false] < 50 {
		t.Error("too few kinds:", seen)
	}
}

func pow(n, times int) int {
	p := 1
	for range times {
		p *= n
	}
	return p
}

// digits returns a number as so many digits, the last one of which counts once.
func digits(n, base, many int) []int {
	list := make([]int, many)
	for i := range list {
		list[many-1-i] = n % base
		n /= base
	}
	return list
}

// P4.17: a road that is turned has the same meetings' minutes and trucks, and the same Off; and who fails is the same.
func TestTurned(t *testing.T) {
	r := rand.New(rand.NewSource(53))
	for range 4000 {
		c := someConvoy(r)
		x := turned(c)
		m, e := convoy.Meets(c)
		n, f := convoy.Meets(x)
		m.At, m.Other, n.At, n.Other = 0, 0, 0, 0
		a, _ := convoy.Off(c)
		b, _ := convoy.Off(x)
		if m != n || e != f || a != b || convoy.Check(x) != api.OK {
			t.Fatalf("%v: Meets = %v, %v, turned %v, %v; Off = %v, turned %v", c, m, e, n, f, a, b)
		}
	}
}

// P4.8 and P4.18: a convoy is read from its timetable, and what is read is written as it was.
func TestTextsAreRead(t *testing.T) {
	r := rand.New(rand.NewSource(54))
	for range 2000 {
		c := someConvoy(r)
		text, e := convoy.Write(c)
		if e != api.OK {
			t.Fatal(e)
		}
		x, row, e := convoy.Read(text)
		if !reflect.DeepEqual(x, c) || row != 0 || e != api.OK {
			t.Fatalf("Read(Write(%v)) = %v, %d, %v", c, x, row, e)
		}
		// With another byte somewhere it is read as another convoy, or not at all.
		i := r.Intn(len(text))
		other := text[:i] + string(" \n0129adhlopruwx-"[r.Intn(17)]) + text[i+r.Intn(2):]
		if x, row, e = convoy.Read(other); e != api.OK {
			if (row > 0) != (e == api.ErrForm) || x.Length != 0 || x.Trucks != nil {
				t.Fatalf("Read(%q) = %v, %d, %v", other, x, row, e)
			}
			continue
		}
		if again, e := convoy.Write(x); again != other || e != api.OK {
			t.Fatalf("Read(%q) is written as %q, %v", other, again, e)
		}
	}
}
