package frost_test

import (
	"math/rand"
	"slices"
	"testing"

	"sastrugi/api"
	"sastrugi/frost"
)

// P1.5 and P1.6, day by day: what is known is the least ice that has all true ice. All of it is gone through.
func TestKnownIsTheHullOfTheTrue(t *testing.T) {
	r := rand.New(rand.NewSource(1))
	for range 600 {
		l, x, d := someLaw(r), someIce(r), someDay(r)
		var h hull
		truths(x, func(y truth) { trueDay(l, d, y, h.add) })
		y, e := frost.Step(l, x, d)
		if y != h.x || e != api.OK {
			t.Fatalf("Step(%v, %v, %v) = %v, %v, want %v", l, x, d, y, e, h.x)
		}
	}
}

// P1.5 over days: true ice, changed by true weather day by day, stays within what is known.
func TestTrueIceStaysWithin(t *testing.T) {
	r := rand.New(rand.NewSource(2))
	for range 400 {
		l, x, days := someLaw(r), someIce(r), someDays(r, 1+r.Intn(12))
		list, e := frost.Run(l, x, days)
		if e != api.OK || len(list) != len(days) {
			t.Fatal(list, e)
		}
		now := truth{inside(r, x.Black).Lo, inside(r, x.White).Hi, inside(r, x.Wet).Lo, inside(r, x.Snow).Hi}
		for i, d := range narrower(r, days) {
			var may []truth
			trueDay(l, d, now, func(y truth) { may = append(may, y) })
			now = may[r.Intn(len(may))]
			var h hull
			if h.add(now); !iceWithin(h.x, list[i]) {
				t.Fatalf("after day %d: %v is not within %v", i+1, now, list[i])
			}
		}
	}
}

// P1.7: for ice and days within, what is known lies within, and what is Sure stays.
func TestNarrowerIsWithin(t *testing.T) {
	r := rand.New(rand.NewSource(3))
	for range 1000 {
		l, x, days := someLaw(r), someIce(r), someDays(r, r.Intn(10))
		y := api.Ice{Black: inside(r, x.Black), White: inside(r, x.White), Wet: inside(r, x.Wet), Snow: inside(r, x.Snow)}
		closer := narrower(r, days)
		wide, _ := frost.Run(l, x, days)
		narrow, e := frost.Run(l, y, closer)
		for i := range wide {
			if e != api.OK || !iceWithin(narrow[i], wide[i]) {
				t.Fatalf("after day %d: %v is not within %v", i+1, narrow[i], wide[i])
			}
		}
		a, u, _ := frost.Bearing(l, x)
		b, v, _ := frost.Bearing(l, y)
		if !within(b, a) || u != api.Open && u != v {
			t.Fatalf("Bearing is %v, %d and within %v, %d", a, u, b, v)
		}
		need := r.Intn(60)
		sure, perhaps, _ := frost.Ready(l, x, days, need)
		surely, might, _ := frost.Ready(l, y, closer, need)
		if sure > 0 && (surely == 0 || surely > sure) || might > 0 && (perhaps == 0 || might < perhaps) {
			t.Fatalf("Ready: %d, %d, and with narrower days %d, %d", sure, perhaps, surely, might)
		}
	}
}

// P1.2, by what is known after each day: Ready's days are the first ones.
func TestReadyIsTheFirstDay(t *testing.T) {
	r := rand.New(rand.NewSource(4))
	for range 500 {
		l, x, days, need := someLaw(r), someIce(r), someDays(r, r.Intn(12)), r.Intn(60)
		list, _ := frost.Run(l, x, days)
		sure, perhaps := 0, 0
		for i := len(list) - 1; i >= 0; i-- {
			thick, sound, e := frost.Bearing(l, list[i])
			if e != api.OK {
				t.Fatal(e)
			}
			if sound == api.Sure && thick.Lo >= need {
				sure = i + 1
			}
			if sound != api.Never && thick.Hi >= need {
				perhaps = i + 1
			}
		}
		a, b, e := frost.Ready(l, x, days, need)
		if a != sure || b != perhaps || e != api.OK {
			t.Fatalf("Ready = %d, %d, %v, want %d, %d", a, b, e, sure, perhaps)
		}
	}
}

// P1.8: what is known after days is that after the last ones of what is known after the first ones.
func TestDaysAreOneAfterTheOther(t *testing.T) {
	r := rand.New(rand.NewSource(5))
	for range 500 {
		l, x, days := someLaw(r), someIce(r), someDays(r, 1+r.Intn(12))
		list, _ := frost.Run(l, x, days)
		for k, y := range list {
			if !valid(y) {
				t.Fatal("these days are meant to leave valid ice")
			}
			rest, e := frost.Run(l, y, days[k+1:])
			if e != api.OK || !slices.Equal(rest, list[k+1:]) {
				t.Fatalf("%v, then %v, but all at once %v", y, rest, list[k+1:])
			}
		}
	}
}

// P1.9: on days without warmth ice gets no thinner; colder days leave no more water, and the first of them no less white ice.
func TestColdDays(t *testing.T) {
	r := rand.New(rand.NewSource(6))
	for range 1000 {
		l, x, days := someLaw(r), someIce(r), someDays(r, 1+r.Intn(10))
		for i := range days {
			days[i].Cold = some(r, 0, 40, 8)
		}
		colder := slices.Clone(days)
		for i := range colder {
			colder[i].Cold.Lo += r.Intn(9)
			colder[i].Cold.Hi = max(colder[i].Cold.Lo, colder[i].Cold.Hi+r.Intn(9))
		}
		list, _ := frost.Run(l, x, days)
		other, _ := frost.Run(l, x, colder)
		before := x
		for i, y := range list {
			if y.White.Lo < before.White.Lo || y.White.Hi < before.White.Hi || y.Black.Lo < before.Black.Lo || y.Black.Hi < before.Black.Hi {
				t.Fatalf("thinner in the cold: %v, then %v", before, y)
			}
			if other[i].Wet.Lo > y.Wet.Lo || other[i].Wet.Hi > y.Wet.Hi {
				t.Fatalf("more water in the cold: %v, but %v", y, other[i])
			}
			before = y
		}
		if other[0].White.Lo < list[0].White.Lo || other[0].White.Hi < list[0].White.Hi {
			t.Fatalf("less white ice in the cold: %v, but %v", list[0], other[0])
		}
	}
}

// P1.10: Flood's water leaves none for sure, and each greater one, up to most, may leave some: all of them are looked at.
func TestFloodIsTheGreatest(t *testing.T) {
	r := rand.New(rand.NewSource(7))
	seen := map[bool]int{}
	for range 1500 {
		l, x, days := someLaw(r), someIce(r), someDays(r, 1+r.Intn(6))
		at, most := 1+r.Intn(len(days)), r.Intn(30)
		want := -1
		for water := range most + 1 {
			other := slices.Clone(days)
			other[at-1].Water = water
			list, _ := frost.Run(l, x, other)
			if list[len(list)-1].Wet.Hi == 0 {
				want = water
			}
		}
		n, e := frost.Flood(l, x, days, at, most)
		if n != want || e != api.OK {
			t.Fatalf("Flood(%v, %v, %v, %d, %d) = %d, %v, want %d", l, x, days, at, most, n, e, want)
		}
		seen[n > 0]++
	}
	if seen[true] < 100 || seen[false] < 100 {
		t.Error("too few kinds of floods", seen)
	}
}

// P1.11: a core narrows what is known, leaves all true ice that is within both, and may be taken twice.
func TestCores(t *testing.T) {
	r := rand.New(rand.NewSource(8))
	for range 2000 {
		x, core := someIce(r), api.Ice{Black: some(r, 0, 30, 20), White: some(r, 0, 12, 9), Wet: some(r, 0, 8, 7), Snow: some(r, 0, 8, 7)}
		y, e := frost.Core(x, core)
		both := 0
		truths(x, func(p truth) {
			var h hull
			if h.add(p); !iceWithin(h.x, core) {
				return
			}
			both++
			if !iceWithin(h.x, y) {
				t.Fatalf("Core(%v, %v) = %v lost %v", x, core, y, p)
			}
		})
		if both == 0 {
			if e != api.ErrClash || y != (api.Ice{}) {
				t.Fatalf("Core(%v, %v) = %v, %v", x, core, y, e)
			}
			continue
		}
		if e != api.OK || !iceWithin(y, x) || !iceWithin(y, core) {
			t.Fatalf("Core(%v, %v) = %v, %v", x, core, y, e)
		}
		if z, e := frost.Core(y, core); z != y || e != api.OK {
			t.Fatalf("twice: %v, %v, once: %v", z, e, y)
		}
	}
}

// P1.12: a log is read from its days, and what is read is written as it was.
func TestLogs(t *testing.T) {
	r := rand.New(rand.NewSource(9))
	for range 200 {
		var days []api.Weather
		for range r.Intn(401) {
			days = append(days, api.Weather{Cold: some(r, -1000, 1000, 2001), Fall: some(r, 0, 1000, 1001), Water: r.Intn(201), Clear: r.Intn(2) == 0})
		}
		text, e := frost.Write(days)
		if e != api.OK {
			t.Fatal(e)
		}
		list, row, e := frost.Read(text)
		if !slices.Equal(list, days) || row != 0 || e != api.OK {
			t.Fatalf("%v was read as %v, %d, %v", days, list, row, e)
		}
		if again, e := frost.Write(list); again != text || e != api.OK {
			t.Fatalf("%q was written as %q, %v", text, again, e)
		}
	}
}

// P1.12 for texts near to logs: what is read is written as it was, or there is an error.
func TestTextsNearLogs(t *testing.T) {
	r := rand.New(rand.NewSource(10))
	const letters = "day 01-9snowcler\n"
	read := 0
	for range 20000 {
		text := []byte("day -5 12 0 10 7 snow\nday 100 100 0 0 0 clear\n")
		for range 1 + r.Intn(2) {
			text[r.Intn(len(text))] = letters[r.Intn(len(letters))]
		}
		days, row, e := frost.Read(string(text))
		if e != api.OK {
			if len(days) > 0 || (e == api.ErrForm) != (row > 0) {
				t.Fatalf("Read(%q) = %v, %d, %v", text, days, row, e)
			}
			continue
		}
		read++
		if again, e := frost.Write(days); again != string(text) || e != api.OK {
			t.Fatalf("%q was written as %q, %v", text, again, e)
		}
	}
	if read < 100 {
		t.Error("too few texts were logs:", read)
	}
}
