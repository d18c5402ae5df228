package crew_test

import (
	"math"
	"slices"
	"strings"
	"testing"

	"sastrugi/api"
	"sastrugi/crew"
)

// P9.1: rules that are valid, and rules that are not; each function that has rules returns their error before all others.
func TestRuleErrors(t *testing.T) {
	for _, c := range []struct {
		u    api.Rules
		want api.Errno
	}{
		{rules(), api.OK},
		{api.Rules{Drive: 1, Rest: 1, Day: 1, Most: 1}, api.OK},
		{api.Rules{Drive: 3000, Rest: 3000, Day: 3000, Most: 3000}, api.OK},
		{api.Rules{Drive: 0, Rest: 1, Day: 1, Most: 1}, api.ErrRange},
		{api.Rules{Drive: 1, Rest: 0, Day: 1, Most: 1}, api.ErrRange},
		{api.Rules{Drive: 1, Rest: 1, Day: 0, Most: 1}, api.ErrRange},
		{api.Rules{Drive: 1, Rest: 1, Day: 1, Most: 0}, api.ErrRange},
		{api.Rules{Drive: 3001, Rest: 1, Day: 1, Most: 1}, api.ErrRange},
		{api.Rules{Drive: 1, Rest: 3001, Day: 1, Most: 1}, api.ErrRange},
		{api.Rules{Drive: 1, Rest: 1, Day: 3001, Most: 1}, api.ErrRange},
		{api.Rules{Drive: 1, Rest: 1, Day: 1, Most: 3001}, api.ErrRange},
		{api.Rules{Drive: math.MinInt, Rest: math.MaxInt, Day: -1, Most: 1}, api.ErrRange},
		{api.Rules{}, api.ErrRange},
	} {
		if e := crew.CheckRules(c.u); e != c.want {
			t.Errorf("CheckRules(%v) = %v, want %v", c.u, e, c.want)
		}
		first := func(other api.Errno) api.Errno {
			if c.want != api.OK {
				return c.want
			}
			return other
		}
		_, _, _, a := crew.Legal(c.u, api.Driver{})
		_, b := crew.May(c.u, api.Driver{}, -1, -1)
		_, d := crew.Left(c.u, api.Driver{}, -1)
		_, f := crew.Next(c.u, api.Driver{}, -1, 0)
		_, _, g := crew.Assign(c.u, make([]api.Driver, 5), nil)
		if a != first(api.ErrForm) || b != a || d != a || f != a || g != first(api.ErrFull) {
			t.Errorf("%v: %v %v %v %v %v", c.u, a, b, d, f, g)
		}
	}
}

// P9.1, P9.2, P9.4 and P9.5: the first error of a driver, whoever returns it, and before a minute is wrong.
func TestDriverErrors(t *testing.T) {
	for _, c := range []struct {
		name   string
		change func(d *api.Driver)
		want   api.Errno
	}{
		{"as they are", func(d *api.Driver) {}, api.OK},
		{"nobody", func(d *api.Driver) { *d = api.Driver{} }, api.ErrForm},
		{"the shortest name", func(d *api.Driver) { d.Name = "a" }, api.OK},
		{"the longest name, with the last letter", func(d *api.Driver) { d.Name = "azazazaz" }, api.OK},
		{"a longer name", func(d *api.Driver) { d.Name = "abcdefghi" }, api.ErrForm},
		{"a great letter", func(d *api.Driver) { d.Name = "Ann" }, api.ErrForm},
		{"a great letter behind others", func(d *api.Driver) { d.Name = "anN" }, api.ErrForm},
		{"a great letter between others", func(d *api.Driver) { d.Name = "aNn" }, api.ErrForm},
		{"a number in the name", func(d *api.Driver) { d.Name = "a1b" }, api.ErrForm},
		{"bytes beside the letters", func(d *api.Driver) { d.Name = "a`b" }, api.ErrForm},
		{"bytes behind the letters", func(d *api.Driver) { d.Name = "a{b" }, api.ErrForm},
		{"a blank", func(d *api.Driver) { d.Name = "a b" }, api.ErrForm},
		{"a line feed", func(d *api.Driver) { d.Name = "ann\n" }, api.ErrForm},
		{"other letters", func(d *api.Driver) { d.Name = "é" }, api.ErrForm},
		{"no letters at all", func(d *api.Driver) { d.Name = "a\xffb" }, api.ErrForm},
		{"a wrong name, before the skills", func(d *api.Driver) { d.Name, d.Skills = "a1", -1 }, api.ErrForm},
		{"no skills", func(d *api.Driver) { d.Skills = 0 }, api.OK},
		{"all skills", func(d *api.Driver) { d.Skills = 255 }, api.OK},
		{"skills below", func(d *api.Driver) { d.Skills = -1 }, api.ErrRange},
		{"skills above", func(d *api.Driver) { d.Skills = 256 }, api.ErrRange},
		{"wrong skills, before too many turns", func(d *api.Driver) { d.Skills, d.Turns = -1, make([]api.Turn, 21) }, api.ErrRange},
		{"as many turns as may be", func(d *api.Driver) { d.Turns = make([]api.Turn, 20) }, api.OK},
		{"too many turns", func(d *api.Driver) { d.Turns = make([]api.Turn, 21) }, api.ErrFull},
		{"too many turns, before their own errors", func(d *api.Driver) { d.Turns = slices.Repeat([]api.Turn{turn(-1, -2)}, 21) }, api.ErrFull},
		{"no turns", func(d *api.Driver) { d.Turns = nil }, api.OK},
		{"from below", func(d *api.Driver) { d.Turns[0].From = span(-1, 0) }, api.ErrRange},
		{"from above", func(d *api.Driver) { d.Turns[1].From = span(4, 3001) }, api.ErrRange},
		{"to below", func(d *api.Driver) { d.Turns[0].To = span(-1, 3) }, api.ErrRange},
		{"to above", func(d *api.Driver) { d.Turns[1].To = span(6, 3001) }, api.ErrRange},
		{"the last minute", func(d *api.Driver) { d.Turns[1].To = span(6, 3000) }, api.OK},
		{"far out", func(d *api.Driver) { d.Turns[1].To = span(math.MinInt, math.MaxInt) }, api.ErrRange},
		{"from in no order", func(d *api.Driver) { d.Turns[1].From = span(5, 4) }, api.ErrOrder},
		{"from in no order, before to", func(d *api.Driver) { d.Turns[1].From, d.Turns[1].To = span(5, 4), one(-1) }, api.ErrOrder},
		{"from below, in no order", func(d *api.Driver) { d.Turns[1].From = span(5, -1) }, api.ErrRange},
		{"to in no order", func(d *api.Driver) { d.Turns[1].To = span(7, 6) }, api.ErrOrder},
		{"to in no order, and before from", func(d *api.Driver) { d.Turns[0] = api.Turn{From: span(2, 3), To: span(1, 0)} }, api.ErrOrder},
		{"to may be before from", func(d *api.Driver) { d.Turns[1].From = span(4, 7) }, api.ErrOrder},
		{"to may be as early as from", func(d *api.Driver) { d.Turns[1].From = span(4, 6) }, api.OK},
		{"to may be before from, before the turn before", func(d *api.Driver) { d.Turns[1].From = span(2, 7) }, api.ErrOrder},
		{"before the end of the turn before", func(d *api.Driver) { d.Turns[1].From = span(2, 5) }, api.ErrClash},
		{"before the latest end of the turn before", func(d *api.Driver) { d.Turns[0].To = span(3, 5) }, api.ErrClash},
		{"at the end of the turn before", func(d *api.Driver) { d.Turns[1].From = span(3, 6) }, api.OK},
		{"a third turn clashes", func(d *api.Driver) { d.Turns = append(d.Turns, turn(6, 9)) }, api.ErrClash},
		{"a third turn clashes, before the error of the fourth one", func(d *api.Driver) { d.Turns = append(d.Turns, turn(6, 9), turn(-1, 0)) }, api.ErrClash},
		{"a third turn, from behind its end", func(d *api.Driver) { d.Turns = append(d.Turns, api.Turn{From: span(8, 9), To: span(8, 9)}) }, api.ErrOrder},
	} {
		d := changed(c.change)
		if e := crew.Check(d); e != c.want {
			t.Errorf("%s: Check = %v, want %v", c.name, e, c.want)
		}
		want := c.want
		if want == api.OK {
			want = api.ErrRange // of the minutes, and of the hauls
		}
		_, a := crew.May(rules(), d, -1, 0)
		_, b := crew.Left(rules(), d, -1)
		_, f := crew.Next(rules(), d, -1, 1)
		who, n, g := crew.Assign(rules(), []api.Driver{bob(), d}, []api.Haul{{}})
		if a != want || b != want || f != want || g != want || len(who)+n > 0 {
			t.Errorf("%s: %v %v %v %v, want %v", c.name, a, b, f, g, want)
		}
		v, rule, minute, h := crew.Legal(rules(), d)
		text, i := crew.Write([]api.Driver{bob(), d})
		if h != c.want || i != c.want || (v == 0) != (h != api.OK) || (text == "") != (i != api.OK) || h != api.OK && rule+minute > 0 {
			t.Errorf("%s: Legal = %d, %d, %d, %v, Write = %q, %v, want %v", c.name, v, rule, minute, h, text, i, c.want)
		}
	}
}

// P9.2: minutes that are not valid, in the order of the errors.
func TestMinuteErrors(t *testing.T) {
	for _, c := range []struct {
		d               api.Driver
		at, long        int
		may, left, next api.Errno
	}{
		{exact(0, 4), 6, 1, api.OK, api.OK, api.OK},
		{exact(0, 4), -1, 1, api.ErrRange, api.ErrRange, api.ErrRange},
		{exact(0, 4), 3001, 1, api.ErrRange, api.ErrRange, api.ErrRange},
		{exact(0, 4), 6, -1, api.ErrRange, api.OK, api.ErrRange},
		{exact(0, 4), 6, 0, api.OK, api.OK, api.ErrRange},
		{exact(0, 4), 3000, 0, api.OK, api.OK, api.ErrRange},
		{exact(0, 4), 3000, 1, api.ErrRange, api.OK, api.ErrMissing},
		{exact(0, 4), 2999, 2, api.ErrRange, api.OK, api.ErrMissing},
		{exact(0, 4), 2999, 1, api.OK, api.OK, api.OK},
		{exact(0, 4), 0, 3000, api.ErrClash, api.OK, api.ErrMissing},
		{exact(0, 4), 0, 3001, api.ErrRange, api.OK, api.ErrRange},
		{exact(0, 4), 3, 3000, api.ErrRange, api.ErrClash, api.ErrMissing},
		{exact(0, 4), 3, 1, api.ErrClash, api.ErrClash, api.OK},
		{exact(0, 4), math.MinInt, math.MinInt, api.ErrRange, api.ErrRange, api.ErrRange},
		{exact(0, 4), math.MaxInt, math.MaxInt, api.ErrRange, api.ErrRange, api.ErrRange},
		{exact(0, 4), 1, math.MaxInt, api.ErrRange, api.ErrClash, api.ErrRange},
		{exact(0, 4), 1, math.MinInt, api.ErrRange, api.ErrClash, api.ErrRange},
		// Too many turns: behind a minute that is wrong, before a clash.
		{full(), 9, 1, api.ErrFull, api.ErrFull, api.ErrFull},
		{full(), 9, 0, api.ErrFull, api.ErrFull, api.ErrRange},
		{full(), -1, 1, api.ErrRange, api.ErrRange, api.ErrRange},
		{full(), 9, 3000, api.ErrRange, api.ErrFull, api.ErrFull},
		{changed(func(d *api.Driver) {
			d.Turns = append([]api.Turn{turn(0, 9)}, slices.Repeat([]api.Turn{turn(9, 9)}, 19)...)
		}), 3, 1, api.ErrFull, api.ErrFull, api.ErrFull},
	} {
		v, a := crew.May(rules(), c.d, c.at, c.long)
		left, b := crew.Left(rules(), c.d, c.at)
		next, d := crew.Next(rules(), c.d, c.at, c.long)
		if a != c.may || b != c.left || d != c.next {
			t.Errorf("%d for %d: %v, %v, %v, want %v, %v, %v", c.at, c.long, a, b, d, c.may, c.left, c.next)
		}
		if a != api.OK && v != 0 || b != api.OK && left != 0 || d != api.OK && next != 0 {
			t.Errorf("%d for %d: something beside an error: %d, %d, %d", c.at, c.long, v, left, next)
		}
	}
}

// P9.3: scales, readings and what is allowed, in the order of the errors.
func TestScaleErrors(t *testing.T) {
	for _, c := range []struct {
		s    api.Scale
		want api.Errno
	}{
		{api.Scale{Zero: 1000, Part: 100000}, api.OK},
		{api.Scale{Zero: 1001}, api.ErrRange},
		{api.Scale{Zero: -1}, api.ErrRange},
		{api.Scale{Part: 100001}, api.ErrRange},
		{api.Scale{Part: -1}, api.ErrRange},
		{api.Scale{Zero: math.MinInt, Part: math.MaxInt}, api.ErrRange},
		{api.Scale{Part: 1000000}, api.ErrRange},
		{api.Scale{Part: -1000000}, api.ErrRange},
	} {
		w, a := crew.Weigh(c.s, 500)
		v, total, b := crew.Pass(c.s, []int{500}, api.Allow{Axle: 9999, Total: 9999})
		if a != c.want || b != c.want || (w == one(0)) != (a != api.OK) || (v == 0 && total == one(0)) != (b != api.OK) {
			t.Errorf("%v: %v, %v, %d, %v, %v, want %v", c.s, w, a, v, total, b, c.want)
		}
		if _, _, e := crew.Pass(c.s, make([]int, 13), api.Allow{}); e != c.want && c.want != api.OK || e != api.ErrFull && c.want == api.OK {
			t.Errorf("%v with too many readings: %v", c.s, e)
		}
	}
	for _, c := range []struct {
		name        string
		readings    []int
		axle, total int
		want        api.Errno
	}{
		{"as much as may be", make([]int, 12), 1000000, 1000000, api.OK},
		{"nothing", nil, 0, 0, api.OK},
		{"too many readings, before what is allowed", make([]int, 13), -1, -1, api.ErrFull},
		{"too many readings, before their own errors", slices.Repeat([]int{-1}, 13), 0, 0, api.ErrFull},
		{"an axle below", nil, -1, 0, api.ErrRange},
		{"an axle above", nil, 1000001, 0, api.ErrRange},
		{"a total below", nil, 0, -1, api.ErrRange},
		{"a total above", nil, 0, 1000001, api.ErrRange},
		{"a reading below", []int{5, -1}, 0, 0, api.ErrRange},
		{"a reading above", []int{100001, 5}, 0, 0, api.ErrRange},
		{"the greatest reading", []int{100000}, 0, 0, api.OK},
		{"readings far out", []int{math.MinInt, math.MaxInt}, 1, 1, api.ErrRange},
	} {
		v, total, e := crew.Pass(off(), c.readings, api.Allow{Axle: c.axle, Total: c.total})
		if e != c.want || (v == 0) != (e != api.OK) || e != api.OK && total != one(0) {
			t.Errorf("%s: Pass = %d, %v, %v, want %v", c.name, v, total, e, c.want)
		}
	}
	for _, reading := range []int{-1, 100001, math.MinInt, math.MaxInt} {
		if w, e := crew.Weigh(off(), reading); e != api.ErrRange || w != one(0) {
			t.Errorf("Weigh(%d) = %v, %v", reading, w, e)
		}
	}
}

// P9.4: drivers and hauls, in the order of the errors.
func TestHaulErrors(t *testing.T) {
	for _, c := range []struct {
		name  string
		l     []api.Driver
		hauls []api.Haul
		want  api.Errno
	}{
		{"as many as may be", slices.Repeat([]api.Driver{bob()}, 4), slices.Repeat([]api.Haul{haul(0, 1, 0)}, 5), api.OK},
		{"too many drivers, before their own errors", make([]api.Driver, 5), make([]api.Haul, 6), api.ErrFull},
		{"a wrong driver, before too many hauls", make([]api.Driver, 1), make([]api.Haul, 6), api.ErrForm},
		{"too many hauls, before their own errors", nil, make([]api.Haul, 6), api.ErrFull},
		{"too many hauls", nil, slices.Repeat([]api.Haul{haul(0, 1, 0)}, 6), api.ErrFull},
		{"from below", nil, []api.Haul{haul(0, 1, 0), haul(-1, 2, 0)}, api.ErrRange},
		{"from above", nil, []api.Haul{haul(3001, 1, 0)}, api.ErrRange},
		{"no minutes", nil, []api.Haul{haul(0, 0, 0)}, api.ErrRange},
		{"minutes below", nil, []api.Haul{haul(5, -1, 0)}, api.ErrRange},
		{"the longest one", nil, []api.Haul{haul(0, 3000, 0)}, api.OK},
		{"too long", nil, []api.Haul{haul(0, 3001, 0)}, api.ErrRange},
		{"up to the end of the clock", nil, []api.Haul{haul(2999, 1, 0)}, api.OK},
		{"beyond the end of the clock", nil, []api.Haul{haul(2999, 2, 0)}, api.ErrRange},
		{"at the end of the clock", nil, []api.Haul{haul(3000, 1, 0)}, api.ErrRange},
		{"all skills", nil, []api.Haul{haul(0, 1, 255)}, api.OK},
		{"skills below", nil, []api.Haul{haul(0, 1, -1)}, api.ErrRange},
		{"skills above", nil, []api.Haul{haul(0, 1, 256)}, api.ErrRange},
		{"far out", nil, []api.Haul{haul(math.MaxInt, math.MaxInt, math.MaxInt)}, api.ErrRange},
		{"far below", nil, []api.Haul{haul(math.MinInt, math.MinInt, math.MinInt)}, api.ErrRange},
		{"only together in bounds", nil, []api.Haul{haul(-1, 5, 0)}, api.ErrRange},
	} {
		who, n, e := crew.Assign(rules(), c.l, c.hauls)
		if e != c.want || len(who) > 0 && e != api.OK || e != api.OK && n != 0 || e == api.OK && len(who) != len(c.hauls) {
			t.Errorf("%s: Assign = %v, %d, %v, want %v", c.name, who, n, e, c.want)
		}
	}
}

// P9.5: too many drivers are written by nobody; their own errors are in TestDriverErrors.
func TestWriteErrors(t *testing.T) {
	for n, want := range []api.Errno{api.OK, api.OK, api.OK, api.OK, api.OK, api.ErrFull, api.ErrFull} {
		if text, e := crew.Write(slices.Repeat([]api.Driver{bob()}, n)); e != want || (text == "") != (e != api.OK) {
			t.Errorf("%d drivers: %q, %v", n, text, e)
		}
	}
	if _, e := crew.Write(make([]api.Driver, 5)); e != api.ErrFull {
		t.Error(e)
	}
}

// P9.5: texts that are no books, and which row is not as said.
func TestReadErrors(t *testing.T) {
	const ann = "driver ann 3\n"
	const turn = "turn 0 0 4 4\n"
	for _, c := range []struct {
		text string
		row  int
		want api.Errno
	}{
		{"end 0\n", 0, api.OK},
		{ann + turn + "end 1\n", 0, api.OK},
		{ann + "end 0\n", 0, api.OK},
		// Something is missing.
		{"", 1, api.ErrForm},
		{"\n", 1, api.ErrForm},
		{"end 0", 1, api.ErrForm},
		{ann, 2, api.ErrForm},
		{ann + turn, 3, api.ErrForm},
		{ann + turn + "end 1", 3, api.ErrForm},
		{ann + turn + "e", 3, api.ErrForm},
		{ann + "turn 0 0 4 4", 2, api.ErrForm},
		{"driver ann 3", 1, api.ErrForm},
		// Something stands behind the row end.
		{"end 0\nend 0\n", 2, api.ErrForm},
		{"end 0\n\n", 2, api.ErrForm},
		{"end 0\n ", 2, api.ErrForm},
		{"end 0\n" + ann, 2, api.ErrForm},
		{ann + "end 0\n" + turn, 3, api.ErrForm},
		{ann + "end 0\n" + turn + "end 1\n", 3, api.ErrForm},
		// The row end has another number; but rows that are not as said come first.
		{"end 1\n", 1, api.ErrClash},
		{"end 999999\n", 1, api.ErrClash},
		{ann + turn + "end 0\n", 3, api.ErrClash},
		{ann + turn + "end 2\n", 3, api.ErrClash},
		{ann + turn + ann + turn + "end 1\n", 5, api.ErrClash},
		{ann + turn + ann + turn + "end 2\n", 0, api.OK},
		{"end 1\nx", 2, api.ErrForm},
		{"end 1\nend 0\n", 2, api.ErrForm},
		// Rows in a wrong order.
		{turn + "end 1\n", 1, api.ErrForm},
		{turn + ann + "end 1\n", 1, api.ErrForm},
		// Words of rows.
		{"driver ann\nend 0\n", 1, api.ErrForm},
		{"driver ann 3 4\nend 0\n", 1, api.ErrForm},
		{"driver\nend 0\n", 1, api.ErrForm},
		{"driver 3\nend 0\n", 1, api.ErrForm},
		{"driver  3\nend 0\n", 1, api.ErrForm},
		{"driver  ann 3\nend 0\n", 1, api.ErrForm},
		{"driver ann  3\nend 0\n", 1, api.ErrForm},
		{"driver ann 3 \nend 0\n", 1, api.ErrForm},
		{" driver ann 3\nend 0\n", 1, api.ErrForm},
		{"driver ann 3\r\nend 0\n", 1, api.ErrForm},
		{"driver\tann 3\nend 0\n", 1, api.ErrForm},
		{"Driver ann 3\nend 0\n", 1, api.ErrForm},
		{"drivers ann 3\nend 0\n", 1, api.ErrForm},
		{"driver ann x\nend 0\n", 1, api.ErrForm},
		{"end\n", 1, api.ErrForm},
		{"end 0 0\n", 1, api.ErrForm},
		{"end 0 \n", 1, api.ErrForm},
		{"End 0\n", 1, api.ErrForm},
		{ann + "turn 0 0 4\nend 1\n", 2, api.ErrForm},
		{ann + "turn 0 0 4 4 4\nend 1\n", 2, api.ErrForm},
		{ann + "turn\nend 1\n", 2, api.ErrForm},
		{ann + "turns 0 0 4 4\nend 1\n", 2, api.ErrForm},
		{ann + "\nend 0\n", 2, api.ErrForm},
		// Numbers.
		{"driver ann 03\nend 0\n", 1, api.ErrForm},
		{"driver ann +3\nend 0\n", 1, api.ErrForm},
		{"driver ann -3\nend 0\n", 1, api.ErrForm},
		{"driver ann -0\nend 0\n", 1, api.ErrForm},
		{"driver ann 1234567\nend 0\n", 1, api.ErrForm},
		{"driver ann 123456\nend 0\n", 0, api.ErrRange},
		{ann + "turn 0 0 4 -4\nend 1\n", 2, api.ErrForm},
		{ann + "turn 0 0 4 04\nend 1\n", 2, api.ErrForm},
		{ann + "turn 00 0 4 4\nend 1\n", 2, api.ErrForm},
		{ann + "turn 0 0 4 1000000\nend 1\n", 2, api.ErrForm},
		{ann + "turn 0 0 4 999999\nend 1\n", 0, api.ErrRange},
		{"end 00\n", 1, api.ErrForm},
		{"end -0\n", 1, api.ErrForm},
		{"end 0000000\n", 1, api.ErrForm},
		{"end 1000000\n", 1, api.ErrForm},
		{"end 99999999999999999999999\n", 1, api.ErrForm},
		// Drivers who are not valid.
		{"driver Ann 3\nend 0\n", 0, api.ErrForm},
		{"driver abcdefghi 3\nend 0\n", 0, api.ErrForm},
		{"driver abcdefgh 3\nend 0\n", 0, api.OK},
		{"driver \x00\xff\t 3\nend 0\n", 0, api.ErrForm},
		{"driver ann 256\nend 0\n", 0, api.ErrRange},
		{ann + "turn 5 5 4 4\nend 1\n", 0, api.ErrOrder},
		{ann + "turn 5 4 9 9\nend 1\n", 0, api.ErrOrder},
		{ann + turn + "turn 3 3 9 9\nend 2\n", 0, api.ErrClash},
		{ann + turn + "turn 3 3 9 9\nend 1\n", 4, api.ErrClash},
		{ann + turn + "driver bob 0\nturn 3 3 9 9\nend 2\n", 0, api.OK},
		{ann + strings.Repeat("turn 0 0 0 0\n", 20) + "end 20\n", 0, api.OK},
		{ann + strings.Repeat("turn 0 0 0 0\n", 21) + "end 21\n", 0, api.ErrFull},
		{strings.Repeat(ann, 4) + "end 0\n", 0, api.OK},
		{strings.Repeat(ann, 5) + "end 0\n", 0, api.ErrFull},
		{strings.Repeat("driver Ann 3\n", 5) + "end 0\n", 0, api.ErrFull},
		// Texts that are too long, or nearly.
		{strings.Repeat("x", 10001), 0, api.ErrLong},
		{strings.Repeat("x", 10000), 1, api.ErrForm},
		{strings.Repeat(ann, 769) + "x", 770, api.ErrForm},
		{strings.Repeat(ann, 768) + "driver a 0\nend 0\n", 0, api.ErrLong},
		{strings.Repeat(ann, 768) + "end 9999\n", 769, api.ErrClash},
		{"driver " + strings.Repeat("a", 9984) + " 3\nend 0\n", 0, api.ErrForm},
		{"driver " + strings.Repeat("a", 9985) + " 3\nend 0\n", 0, api.ErrLong},
	} {
		l, row, e := crew.Read(c.text)
		if e != c.want || row != c.row || e != api.OK && len(l) > 0 {
			text := c.text[:min(len(c.text), 60)]
			t.Errorf("Read(%q) = %v, %d, %v, want %d, %v", text, l, row, e, c.row, c.want)
		}
	}
}
