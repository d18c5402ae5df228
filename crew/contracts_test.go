package crew_test

import (
	"slices"
	"strings"
	"testing"

	"sastrugi/api"
	"sastrugi/crew"
)

// P9.1: verdicts on drivers, and the first minute that breaks a rule in the worst case.
func TestLegal(t *testing.T) {
	wide := api.Rules{Drive: 100, Rest: 2, Day: 10, Most: 3}
	long := api.Rules{Drive: 3000, Rest: 3000, Day: 3000, Most: 3000}
	for i, c := range []struct {
		u                     api.Rules
		d                     api.Driver
		verdict, rule, minute int
	}{
		{rules(), ann(), api.Open, 1, 5},
		{rules(), changed(func(d *api.Driver) { d.Turns[1] = turn(5, 7) }), api.Sure, 0, 0},
		{rules(), changed(func(d *api.Driver) { d.Turns[1] = turn(4, 6) }), api.Never, 1, 5},
		{rules(), exact(0, 4, 6, 8, 10, 12), api.Sure, 0, 0},
		{rules(), exact(0, 4, 6, 9), api.Never, 2, 8},
		{rules(), exact(), api.Sure, 0, 0},
		{rules(), exact(2996, 3000), api.Sure, 0, 0},
		{rules(), exact(2995, 3000), api.Never, 1, 2999},
		// As many minutes as may be without a rest, and one more; what is before the minute 0 is a rest.
		{rules(), exact(0, 4), api.Sure, 0, 0},
		{rules(), exact(0, 5), api.Never, 1, 4},
		{rules(), exact(7, 12), api.Never, 1, 11},
		{rules(), exact(1, 5), api.Sure, 0, 0},
		// A rest is two minutes one after the other, not one and one.
		{rules(), exact(0, 3, 4, 5, 6, 7), api.Never, 1, 6},
		{rules(), exact(0, 2, 3, 5, 7, 9), api.Sure, 0, 0},
		{rules(), exact(0, 4, 5, 6), api.Never, 1, 5},
		{api.Rules{Drive: 4, Rest: 1, Day: 10, Most: 6}, exact(0, 4, 5, 6), api.Sure, 0, 0},
		// Turns that touch are one drive; a turn of no minutes is none, and no end of a rest.
		{rules(), exact(0, 2, 2, 4), api.Sure, 0, 0},
		{rules(), exact(0, 2, 2, 5), api.Never, 1, 4},
		{rules(), exact(0, 4, 5, 5, 6, 8), api.Sure, 0, 0},
		// Three minutes in ten: those that end with the minute 9 begin with 0, those that end with 10 begin with 1.
		{wide, exact(0, 3, 9, 10), api.Never, 2, 9},
		{wide, exact(0, 3, 10, 13), api.Sure, 0, 0},
		{wide, exact(0, 3, 10, 14), api.Never, 2, 13},
		{wide, exact(0, 1, 5, 6, 8, 9, 10, 11), api.Sure, 0, 0},
		{wide, exact(0, 1, 5, 6, 8, 10), api.Never, 2, 9},
		{api.Rules{Drive: 100, Rest: 2, Day: 1, Most: 1}, exact(0, 100), api.Sure, 0, 0},
		// A minute that breaks both rules breaks rule 1; otherwise the first minute counts.
		{api.Rules{Drive: 2, Rest: 5, Day: 10, Most: 2}, exact(0, 3), api.Never, 1, 2},
		{api.Rules{Drive: 3, Rest: 5, Day: 10, Most: 2}, exact(0, 9), api.Never, 2, 2},
		{api.Rules{Drive: 2, Rest: 5, Day: 10, Most: 3}, exact(0, 9), api.Never, 1, 2},
		// In the worst case a rule is broken earlier than in others, or another one.
		{rules(), api.Driver{Name: "a", Turns: []api.Turn{{From: span(0, 5), To: span(5, 9)}}}, api.Open, 1, 4},
		{rules(), api.Driver{Name: "a", Turns: []api.Turn{{From: span(0, 1), To: span(6, 9)}}}, api.Never, 1, 4},
		{api.Rules{Drive: 5, Rest: 2, Day: 9, Most: 6}, api.Driver{Name: "a", Turns: []api.Turn{turn(0, 5), {From: span(6, 8), To: span(8, 9)}}}, api.Open, 1, 6},
		{api.Rules{Drive: 5, Rest: 2, Day: 9, Most: 6}, api.Driver{Name: "a", Turns: []api.Turn{turn(0, 5), {From: span(7, 8), To: span(8, 9)}}}, api.Open, 2, 8},
		{long, exact(0, 3000), api.Sure, 0, 0},
		{api.Rules{Drive: 2999, Rest: 3000, Day: 3000, Most: 3000}, exact(0, 1, 1, 3000), api.Never, 1, 2999},
		{api.Rules{Drive: 3000, Rest: 3000, Day: 3000, Most: 2999}, exact(0, 3000), api.Never, 2, 2999},
		{api.Rules{Drive: 3000, Rest: 3000, Day: 2999, Most: 2999}, exact(0, 3000), api.Sure, 0, 0},
	} {
		v, rule, minute, e := crew.Legal(c.u, c.d)
		if e != api.OK || v != c.verdict || rule != c.rule || minute != c.minute {
			t.Errorf("%d: Legal = %d, %d, %d, %v, want %d, %d, %d", i, v, rule, minute, e, c.verdict, c.rule, c.minute)
		}
	}
}

// early is a driver with a turn that begins in the minutes 0 to 1 and ends in the minutes 4 to 5.
func early() api.Driver {
	return api.Driver{Name: "a", Turns: []api.Turn{{From: span(0, 1), To: span(4, 5)}}}
}

// P9.2: who may drive, with the edges of a clash.
func TestMay(t *testing.T) {
	nineteen := api.Driver{Name: "a", Turns: make([]api.Turn, 19)}
	for i, c := range []struct {
		d              api.Driver
		at, long, want int
		e              api.Errno
	}{
		{exact(0, 4), 6, 2, api.Sure, api.OK},
		{exact(0, 4), 6, 3, api.Never, api.OK},
		{exact(0, 4), 5, 1, api.Never, api.OK},
		{exact(0, 4), 3, 1, 0, api.ErrClash},
		{exact(0, 4), 4, 1, api.Never, api.OK},
		{exact(0, 4), 0, 1, 0, api.ErrClash},
		{exact(0, 4), 2996, 4, api.Sure, api.OK},
		// A turn of no minutes clashes within a turn, but not at its ends, and changes nothing.
		{exact(0, 4), 4, 0, api.Sure, api.OK},
		{exact(0, 4), 0, 0, api.Sure, api.OK},
		{exact(0, 4), 3, 0, 0, api.ErrClash},
		{exact(0, 4), 1, 0, 0, api.ErrClash},
		{exact(0, 5), 9, 0, api.Never, api.OK},
		{ann(), 9, 0, api.Open, api.OK},
		{exact(), 3000, 0, api.Sure, api.OK},
		// Before a turn, between turns and behind them.
		{exact(5, 9), 0, 2, api.Sure, api.OK},
		{exact(5, 9), 0, 3, api.Never, api.OK},
		{exact(5, 9), 0, 5, api.Never, api.OK},
		{exact(5, 9), 0, 6, 0, api.ErrClash},
		{exact(0, 1, 9, 10), 3, 4, api.Sure, api.OK},
		{exact(0, 1, 9, 10), 1, 8, api.Never, api.OK},
		{exact(0, 1, 9, 10), 1, 9, 0, api.ErrClash},
		{exact(0, 1, 9, 10), 0, 10, 0, api.ErrClash},
		// A turn of no minutes may not lie within the turn more.
		{exact(5, 5), 4, 2, 0, api.ErrClash},
		{exact(5, 5), 4, 1, api.Sure, api.OK},
		{exact(5, 5), 5, 1, api.Sure, api.OK},
		{exact(5, 5), 5, 0, api.Sure, api.OK},
		// Where the driver may still drive, or perhaps drove already.
		{early(), 4, 1, 0, api.ErrClash},
		{early(), 5, 1, api.Open, api.OK},
		{early(), 5, 2, api.Never, api.OK},
		{early(), 7, 1, api.Open, api.OK},
		{exact(4, 5), 0, 4, api.Never, api.OK},
		{changed(func(d *api.Driver) { d.Turns = []api.Turn{{From: span(3, 5), To: one(7)}} }), 0, 3, api.Open, api.OK},
		{changed(func(d *api.Driver) { d.Turns = []api.Turn{{From: span(3, 5), To: one(7)}} }), 0, 4, 0, api.ErrClash},
		{nineteen, 0, 1, api.Sure, api.OK},
	} {
		if v, e := crew.May(rules(), c.d, c.at, c.long); v != c.want || e != c.e {
			t.Errorf("%d: May(%d for %d) = %d, %v, want %d, %v", i, c.at, c.long, v, e, c.want, c.e)
		}
	}
}

// P9.2: for how long one may drive.
func TestLeft(t *testing.T) {
	long := api.Rules{Drive: 3000, Rest: 1, Day: 3000, Most: 3000}
	for i, c := range []struct {
		u        api.Rules
		d        api.Driver
		at, want int
	}{
		{rules(), exact(0, 4), 6, 2},
		{rules(), exact(0, 4), 5, 0},
		{rules(), exact(0, 4), 10, 4},
		{rules(), exact(0, 4), 7, 2},
		{rules(), exact(0, 4), 8, 4},
		{rules(), exact(0, 4), 4, 0},
		{rules(), exact(0, 4), 0, 0},
		{rules(), exact(), 0, 4},
		// Up to a turn, or less, because of what follows.
		{rules(), exact(5, 7), 0, 3},
		{rules(), exact(5, 9), 0, 2},
		{rules(), exact(5, 9), 3, 0},
		{rules(), exact(5, 7), 3, 2},
		{rules(), exact(5, 7), 4, 1},
		{rules(), exact(5, 7), 5, 0},
		{rules(), exact(5, 5), 4, 1},
		// Up to the end of the clock.
		{rules(), exact(0, 4), 2998, 2},
		{rules(), exact(0, 4), 3000, 0},
		{long, exact(), 0, 3000},
		{long, exact(), 1, 2999},
		// Who is not Sure has nothing left.
		{rules(), exact(0, 5), 9, -1},
		{rules(), early(), 9, -1},
		{rules(), ann(), 2000, -1},
	} {
		if n, e := crew.Left(c.u, c.d, c.at); n != c.want || e != api.OK {
			t.Errorf("%d: Left(%d) = %d, %v, want %d", i, c.at, n, e, c.want)
		}
	}
}

// P9.2: from when on one may drive.
func TestNext(t *testing.T) {
	for i, c := range []struct {
		d                api.Driver
		from, long, want int
		e                api.Errno
	}{
		{exact(0, 4), 4, 1, 6, api.OK},
		{exact(0, 4), 4, 3, 8, api.OK},
		{exact(0, 4), 4, 4, 8, api.OK},
		{exact(0, 4), 4, 5, 0, api.ErrMissing},
		{exact(0, 4), 0, 1, 6, api.OK},
		{exact(0, 4), 7, 1, 7, api.OK},
		{exact(), 0, 4, 0, api.OK},
		{exact(2, 4), 0, 2, 0, api.OK},
		{exact(2, 4), 0, 3, 6, api.OK},
		// In a gap between turns, or behind both.
		{exact(0, 1, 9, 10), 0, 4, 3, api.OK},
		{exact(0, 1, 9, 10), 1, 3, 1, api.OK},
		{exact(0, 1, 9, 10), 2, 4, 3, api.OK},
		{exact(0, 1, 9, 10), 4, 4, 12, api.OK},
		{exact(5, 9), 0, 4, 13, api.OK},
		// Up to the end of the clock.
		{exact(0, 4), 2998, 2, 2998, api.OK},
		{exact(0, 4), 2998, 3, 0, api.ErrMissing},
		{exact(0, 4), 3000, 1, 0, api.ErrMissing},
		{exact(2990, 2994), 2990, 4, 0, api.ErrMissing},
		{exact(2990, 2994), 2990, 2, 2996, api.OK},
		// Who is not Sure may never drive.
		{exact(0, 5), 0, 1, 0, api.ErrMissing},
		{ann(), 100, 1, 0, api.ErrMissing},
	} {
		if n, e := crew.Next(rules(), c.d, c.from, c.long); n != c.want || e != c.e {
			t.Errorf("%d: Next(%d, %d) = %d, %v, want %d, %v", i, c.from, c.long, n, e, c.want, c.e)
		}
	}
	if n, e := crew.Next(api.Rules{Drive: 3000, Rest: 1, Day: 3000, Most: 3000}, exact(), 0, 3000); n != 0 || e != api.OK {
		t.Error(n, e)
	}
}

// P9.3: true weights, with the ends of all bounds.
func TestWeigh(t *testing.T) {
	for i, c := range []struct {
		s       api.Scale
		reading int
		want    api.Span
	}{
		{off(), 1000, span(971, 1030)},
		{api.Scale{}, 1000, one(1000)},
		{api.Scale{}, 0, one(0)},
		{api.Scale{}, 100000, one(100000)},
		// A true weight is not below 0.
		{off(), 0, span(0, 20)},
		{off(), 10, span(0, 30)},
		{off(), 20, span(0, 40)},
		{off(), 21, span(1, 41)},
		// The zero alone, and the part alone.
		{api.Scale{Zero: 7}, 1000, span(993, 1007)},
		{api.Scale{Part: 10000}, 1000, span(991, 1010)},
		{api.Scale{Part: 1}, 100000, one(100000)},
		{api.Scale{Part: 10}, 100000, span(100000, 100001)},
		{api.Scale{Part: 100000}, 11, span(10, 12)},
		{api.Scale{Part: 100000}, 9, span(9, 10)},
		{api.Scale{Part: 100000}, 90000, span(81819, 100000)},
		{api.Scale{Zero: 1000, Part: 100000}, 100000, span(90000, 112222)},
		{api.Scale{Zero: 1000, Part: 100000}, 0, span(0, 1111)},
	} {
		if w, e := crew.Weigh(c.s, c.reading); w != c.want || e != api.OK {
			t.Errorf("%d: Weigh(%d) = %v, %v, want %v", i, c.reading, w, e, c.want)
		}
	}
}

// P9.3: trucks that may pass, and trucks that may not, with the edges of what is allowed.
func TestPass(t *testing.T) {
	two := []int{1000, 1000}
	for i, c := range []struct {
		s           api.Scale
		readings    []int
		axle, total int
		verdict     int
		want        api.Span
	}{
		{off(), two, 1030, 2060, api.Sure, span(1942, 2060)},
		{off(), two, 1030, 2059, api.Open, span(1942, 2060)},
		{off(), two, 1029, 2060, api.Open, span(1942, 2060)},
		{off(), two, 970, 9999, api.Never, span(1942, 2060)},
		{off(), two, 971, 9999, api.Open, span(1942, 2060)},
		{off(), two, 9999, 1941, api.Never, span(1942, 2060)},
		{off(), two, 9999, 1942, api.Open, span(1942, 2060)},
		// One axle is too heavy, whichever it is.
		{off(), []int{1000, 0}, 970, 9999, api.Never, span(971, 1050)},
		{off(), []int{0, 1000}, 970, 9999, api.Never, span(971, 1050)},
		{off(), []int{0, 1000}, 1029, 9999, api.Open, span(971, 1050)},
		{off(), []int{1000, 0}, 1030, 1050, api.Sure, span(971, 1050)},
		{off(), nil, 0, 0, api.Sure, one(0)},
		{off(), []int{0}, 0, 0, api.Open, span(0, 20)},
		{api.Scale{}, []int{0}, 0, 0, api.Sure, one(0)},
		{api.Scale{}, []int{3, 4}, 4, 7, api.Sure, one(7)},
		{api.Scale{}, []int{3, 4}, 4, 6, api.Never, one(7)},
		{api.Scale{}, []int{3, 4}, 3, 7, api.Never, one(7)},
		{off(), make([]int, 12), 20, 240, api.Sure, span(0, 240)},
		{api.Scale{Zero: 1000, Part: 100000}, slices.Repeat([]int{100000}, 12), 1000000, 1000000, api.Never, span(1080000, 1346664)},
		{api.Scale{Zero: 1000, Part: 100000}, slices.Repeat([]int{100000}, 8), 1000000, 1000000, api.Sure, span(720000, 897776)},
	} {
		v, total, e := crew.Pass(c.s, c.readings, api.Allow{Axle: c.axle, Total: c.total})
		if v != c.verdict || total != c.want || e != api.OK {
			t.Errorf("%d: Pass(%v) = %d, %v, %v, want %d, %v", i, c.readings, v, total, e, c.verdict, c.want)
		}
	}
}

// bob is a driver without turns and with one skill.
func bob() api.Driver { return api.Driver{Name: "bob", Skills: 1} }

func haul(from, long, skills int) api.Haul {
	return api.Haul{From: from, Long: long, Skills: skills}
}

// P9.4: who does which haul.
func TestAssign(t *testing.T) {
	pair := []api.Driver{exact(0, 4), bob()}
	tired := exact(0, 5) // is not Sure
	many := func(turns int) api.Driver { return api.Driver{Name: "a", Turns: make([]api.Turn, turns)} }
	for i, c := range []struct {
		l     []api.Driver
		hauls []api.Haul
		who   []int
	}{
		{pair, []api.Haul{haul(6, 2, 1), haul(6, 2, 2), haul(7, 1, 1)}, []int{0, -1, 1}},
		{pair, []api.Haul{haul(6, 2, 1), haul(6, 2, 2)}, []int{1, 0}},
		{pair, nil, nil},
		{nil, nil, nil},
		{nil, []api.Haul{haul(0, 1, 0), haul(0, 1, 0)}, []int{-1, -1}},
		// Of lists that do as many, the first one; whoever has no haul does not matter.
		{[]api.Driver{bob(), bob()}, []api.Haul{haul(0, 1, 0), haul(5, 1, 0)}, []int{0, 0}},
		{[]api.Driver{bob(), bob()}, []api.Haul{haul(0, 2, 0), haul(1, 2, 0), haul(2, 2, 0)}, []int{0, 1, 0}},
		{[]api.Driver{bob()}, []api.Haul{haul(0, 2, 0), haul(1, 2, 0)}, []int{0, -1}},
		{[]api.Driver{tired, bob()}, []api.Haul{haul(20, 1, 0)}, []int{1}},
		{[]api.Driver{tired, tired}, []api.Haul{haul(20, 1, 0)}, []int{-1}},
		{[]api.Driver{ann(), bob()}, []api.Haul{haul(20, 1, 0)}, []int{1}},
		// Two hauls with a rest between them, two that touch, and one too many.
		{[]api.Driver{bob()}, []api.Haul{haul(0, 4, 0), haul(6, 2, 0)}, []int{0, 0}},
		{[]api.Driver{bob()}, []api.Haul{haul(2, 2, 0), haul(0, 2, 0)}, []int{0, 0}},
		{[]api.Driver{bob()}, []api.Haul{haul(0, 3, 0), haul(3, 2, 0)}, []int{0, -1}},
		{[]api.Driver{bob()}, []api.Haul{haul(0, 4, 0), haul(6, 3, 0), haul(20, 5, 0)}, []int{0, -1, -1}},
		{[]api.Driver{bob()}, []api.Haul{haul(0, 3, 0), haul(0, 2, 0), haul(2, 2, 0)}, []int{-1, 0, 0}},
		// A haul that is done must not keep two others from being done.
		{[]api.Driver{bob()}, []api.Haul{haul(0, 9, 0), haul(0, 1, 0), haul(8, 1, 0)}, []int{-1, 0, 0}},
		// Skills: all bits, and no others.
		{[]api.Driver{bob()}, []api.Haul{haul(0, 1, 2), haul(0, 1, 3), haul(0, 1, 1)}, []int{-1, -1, 0}},
		{[]api.Driver{{Name: "a", Skills: 6}}, []api.Haul{haul(0, 1, 1), haul(1, 1, 2), haul(2, 1, 4), haul(3, 1, 6), haul(5, 1, 5)}, []int{-1, 0, 0, 0, -1}},
		{[]api.Driver{{Name: "a", Skills: 255}, bob()}, []api.Haul{haul(0, 1, 128), haul(0, 1, 255)}, []int{0, -1}},
		// A clash with a turn, and with one that is only perhaps so long.
		{[]api.Driver{exact(0, 4)}, []api.Haul{haul(3, 4, 0), haul(10, 1, 0)}, []int{-1, 0}},
		{[]api.Driver{{Name: "a", Turns: []api.Turn{{From: one(0), To: span(1, 2)}}}}, []api.Haul{haul(1, 1, 0), haul(2, 1, 0)}, []int{-1, 0}},
		// As many turns as there may be.
		{[]api.Driver{many(20)}, []api.Haul{haul(5, 1, 0)}, []int{-1}},
		{[]api.Driver{many(19)}, []api.Haul{haul(5, 1, 0), haul(9, 1, 0)}, []int{0, -1}},
		{[]api.Driver{many(18)}, []api.Haul{haul(5, 1, 0), haul(9, 1, 0)}, []int{0, 0}},
		{[]api.Driver{bob()}, []api.Haul{haul(2996, 4, 0)}, []int{0}},
	} {
		done := 0
		for _, i := range c.who {
			if i >= 0 {
				done++
			}
		}
		who, n, e := crew.Assign(rules(), c.l, c.hauls)
		if e != api.OK || n != done || !slices.Equal(who, c.who) {
			t.Errorf("%d: Assign = %v, %d, %v, want %v, %d", i, who, n, e, c.who, done)
		}
	}
}

// P9.5: books, written and read.
func TestBooks(t *testing.T) {
	most := api.Driver{Name: "abcdefgh", Skills: 255, Turns: slices.Repeat([]api.Turn{turn(3000, 3000)}, 20)}
	for _, c := range []struct {
		l    []api.Driver
		text string
	}{
		{nil, "end 0\n"},
		{[]api.Driver{exact(0, 4)}, "driver ann 3\nturn 0 0 4 4\nend 1\n"},
		{[]api.Driver{ann(), {Name: "bob"}, exact(0, 4)}, "driver ann 3\nturn 0 0 3 3\nturn 4 5 6 7\ndriver bob 0\ndriver ann 3\nturn 0 0 4 4\nend 3\n"},
		{[]api.Driver{{Name: "end"}, {Name: "turn", Skills: 9}, {Name: "driver"}}, "driver end 0\ndriver turn 9\ndriver driver 0\nend 0\n"},
		{slices.Repeat([]api.Driver{most}, 4), strings.Repeat("driver abcdefgh 255\n"+strings.Repeat("turn 3000 3000 3000 3000\n", 20), 4) + "end 80\n"},
	} {
		if text, e := crew.Write(c.l); e != api.OK || text != c.text {
			t.Errorf("Write(%v) = %q, %v, want %q", c.l, text, e, c.text)
		}
		if l, row, e := crew.Read(c.text); e != api.OK || row != 0 || !equal(l, c.l) {
			t.Errorf("Read(%q) = %v, %d, %v, want %v", c.text, l, row, e, c.l)
		}
	}
}
