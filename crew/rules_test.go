package crew_test

import (
	"math"
	"math/rand"
	"reflect"
	"slices"
	"testing"

	"sastrugi/api"
	"sastrugi/crew"
)

// wild returns a number of any kind: near the bounds, far out, or usual.
func wild(r *rand.Rand) int {
	edges := [...]int{math.MinInt, math.MinInt + 1, -1, 0, 1, 2, 3, 5, 12, 13, 255, 256, 1000, 1001, 2999, 3000, 3001, 100000, 100001, 1000000, 1000001, math.MaxInt - 1, math.MaxInt}
	return edges[r.Intn(len(edges))]
}

func wildSpan(r *rand.Rand) api.Span {
	if r.Intn(2) == 0 {
		return one(wild(r))
	}
	return span(wild(r), wild(r))
}

// wildRules are rules of which some numbers may have any value.
func wildRules(r *rand.Rand) api.Rules {
	u := someRules(r, 9, 4, 20)
	switch r.Intn(30) {
	case 0:
		u.Drive = wild(r)
	case 1:
		u.Rest = wild(r)
	case 2:
		u.Day = wild(r)
	case 3:
		u.Most = wild(r)
	}
	return u
}

// wildDriver is a driver of whom some parts may have any value.
func wildDriver(r *rand.Rand) api.Driver {
	d := someDriver(r, usual)
	switch r.Intn(30) {
	case 0:
		d.Name = []string{"", "Ann", "abcdefghi", "é", "\xff", " "}[r.Intn(6)]
	case 1:
		d.Skills = wild(r)
	case 2:
		d.Turns = slices.Repeat(d.Turns, 7)
	case 3:
		d.Turns = make([]api.Turn, 19+r.Intn(3))
	}
	for i := range d.Turns {
		t := &d.Turns[i]
		switch r.Intn(60) {
		case 0:
			t.From = wildSpan(r)
		case 1:
			t.To = wildSpan(r)
		}
	}
	return d
}

// wildHaul is a haul of which some numbers may have any value.
func wildHaul(r *rand.Rand) api.Haul {
	h := someHaul(r)
	switch r.Intn(60) {
	case 0:
		h.From = wild(r)
	case 1:
		h.Long = wild(r)
	case 2:
		h.Skills = wild(r)
	}
	return h
}

// number is a usual number, or any.
func number(r *rand.Rand, good int) int {
	if r.Intn(10) == 0 {
		return wild(r)
	}
	return r.Intn(good)
}

// many returns so many things.
func many[T any](r *rand.Rand, most int, each func(r *rand.Rand) T) []T {
	var list []T
	for range r.Intn(most + 1) {
		list = append(list, each(r))
	}
	return list
}

// bare checks that there is nothing beside an error.
func bare(t *testing.T, name string, e api.Errno, nothing bool) {
	t.Helper()
	if e != api.OK && !nothing {
		t.Fatalf("%s returns %v and something else", name, e)
	}
}

// P1, R3 and R5: arguments of any value give an error, or results; none panics, and with an error there are no results.
func TestAnyArguments(t *testing.T) {
	r := rand.New(rand.NewSource(135))
	seen, named := map[api.Errno]int{}, map[string]map[api.Errno]int{}
	note := func(name string, e api.Errno, nothing bool) {
		bare(t, name, e, nothing)
		if named[name] == nil {
			named[name] = map[api.Errno]int{}
		}
		named[name][e]++
	}
	for range 2000 {
		u, d := wildRules(r), wildDriver(r)
		seen[crew.Check(d)]++
		v, rule, minute, e := crew.Legal(u, d)
		note("Legal", e, v == 0 && rule == 0 && minute == 0)
		n, e := crew.May(u, d, number(r, 40), number(r, 6))
		note("May", e, n == 0)
		n, e = crew.Left(u, d, number(r, 40))
		note("Left", e, n == 0)
		n, e = crew.Next(u, d, number(r, 40), number(r, 6))
		note("Next", e, n == 0)
		s := api.Scale{Zero: number(r, 1001), Part: number(r, 100001)}
		w, e := crew.Weigh(s, number(r, 100001))
		note("Weigh", e, w == one(0))
		reading := func(r *rand.Rand) int {
			if r.Intn(40) == 0 {
				return wild(r)
			}
			return r.Intn(9000)
		}
		v, w, e = crew.Pass(s, many(r, 13, reading), api.Allow{Axle: number(r, 9000), Total: number(r, 50000)})
		note("Pass", e, v == 0 && w == one(0))
		who, n, e := crew.Assign(u, many(r, 5, wildDriver), many(r, 6, wildHaul))
		note("Assign", e, len(who) == 0 && n == 0)
		text, e := crew.Write(many(r, 5, wildDriver))
		note("Write", e, text == "")
	}
	for _, e := range []api.Errno{api.OK, api.ErrForm, api.ErrRange, api.ErrFull, api.ErrOrder, api.ErrClash} {
		if seen[e] < 20 {
			t.Error("too few of each error:", seen)
		}
	}
	for name, errors := range named {
		if errors[api.OK] < 100 || errors[api.ErrRange] < 100 {
			t.Error(name, "has too few of each error:", errors)
		}
	}
}

// P1 and R5: any text is read, or not.
func TestAnyText(t *testing.T) {
	r := rand.New(rand.NewSource(136))
	words := []string{"driver", "turn", "end", " ", " ", "\n", "ann", "0", "12", "-", "\x00", "é", "\xff", "999999", "9999999999999999999999"}
	for range 20000 {
		text := ""
		for range r.Intn(12) {
			text += words[r.Intn(len(words))]
		}
		if r.Intn(2) == 0 {
			text += "\nend 0\n"
		}
		l, row, e := crew.Read(text)
		want, wrong := wrongRow(text)
		if row != want || want > 0 && e != wrong || e != api.OK && len(l) > 0 {
			t.Fatalf("Read(%q) = %v, %d, %v, want %d, %v", text, l, row, e, want, wrong)
		}
	}
}

// busy is a driver with as many turns, and of them as many minutes, as there may be; the clock ends with the last one.
func busy() api.Driver {
	d := api.Driver{Name: "abcdefgh", Skills: 255}
	for i := range 20 {
		d.Turns = append(d.Turns, api.Turn{From: span(150*i, 150*i+10), To: span(150*i+100, 150*i+150)})
	}
	return d
}

// P1: as much of all as there may be.
func TestGreatest(t *testing.T) {
	loose := api.Rules{Drive: 3000, Rest: 3000, Day: 3000, Most: 3000}
	d := busy()
	if v, rule, minute, e := crew.Legal(loose, d); v != api.Sure || rule != 0 || minute != 0 || e != api.OK {
		t.Error(v, rule, minute, e)
	}
	strict := loose
	strict.Most = 2999
	if v, rule, minute, e := crew.Legal(strict, d); v != api.Open || rule != 2 || minute != 2999 || e != api.OK {
		t.Error(v, rule, minute, e)
	}
	strict.Most = 1799 // of 20 turns of 90 minutes
	if v, rule, minute, e := crew.Legal(strict, d); v != api.Never || rule != 2 || minute != 1799 || e != api.OK {
		t.Error(v, rule, minute, e)
	}
	d.Turns = d.Turns[:19]
	strict.Most = 2850
	if n, e := crew.Left(loose, d, 2850); n != 150 || e != api.OK {
		t.Error(n, e)
	}
	if n, e := crew.Next(loose, d, 0, 150); n != 2850 || e != api.OK {
		t.Error(n, e)
	}
	if n, e := crew.Left(strict, d, 2850); n != 0 || e != api.OK {
		t.Error(n, e)
	}
	if n, e := crew.Next(strict, d, 0, 1); n != 0 || e != api.ErrMissing {
		t.Error(n, e)
	}
	text, e := crew.Write(slices.Repeat([]api.Driver{busy()}, 4))
	if l, row, e2 := crew.Read(text); e != api.OK || e2 != api.OK || row != 0 || len(l) != 4 || len(text) > 2200 {
		t.Error("no book is too long:", len(text), e, row, e2)
	}
}

// P1 and P9.4: as many choices as there may be, of drivers with many minutes, of whom each one may do one haul, or one of whom alone may do any.
func TestMostChoices(t *testing.T) {
	loose := api.Rules{Drive: 3000, Rest: 1, Day: 3000, Most: 2000}
	d := api.Driver{Name: "a", Turns: []api.Turn{turn(0, 1500)}}
	l := slices.Repeat([]api.Driver{d}, 4)
	var hauls []api.Haul
	for i := range 5 {
		hauls = append(hauls, haul(1500+100*i, 500, 0))
	}
	if who, n, e := crew.Assign(loose, l, hauls); e != api.OK || n != 4 || !slices.Equal(who, []int{0, 1, 2, 3, -1}) {
		t.Error(who, n, e)
	}
	for i := range hauls {
		hauls[i].Skills = 1
	}
	l[3].Skills = 1
	if who, n, e := crew.Assign(loose, l, hauls); e != api.OK || n != 1 || !slices.Equal(who, []int{3, -1, -1, -1, -1}) {
		t.Error(who, n, e)
	}
}

// R4: arguments are neither changed nor kept, and results share no memory with them or with each other.
func TestArgumentsStay(t *testing.T) {
	turns := append(make([]api.Turn, 0, 9), turn(0, 2), turn(9, 10))
	l := append(make([]api.Driver, 0, 9), api.Driver{Name: "ann", Skills: 3, Turns: turns}, bob())
	hauls := append(make([]api.Haul, 0, 9), haul(5, 2, 1), haul(5, 1, 0), haul(4, 9, 0))
	readings := append(make([]int, 0, 9), 100, 200)
	all := func() []any {
		v, rule, minute, _ := crew.Legal(rules(), l[0])
		may, _ := crew.May(rules(), l[0], 5, 2)
		left, _ := crew.Left(rules(), l[0], 5)
		next, _ := crew.Next(rules(), l[0], 1, 3)
		pass, total, _ := crew.Pass(off(), readings, api.Allow{Axle: 250, Total: 300})
		a, _, _ := crew.Assign(rules(), l, hauls)
		text, _ := crew.Write(l)
		b, _, _ := crew.Read(text)
		return []any{a, b[0].Turns, b, []any{v, rule, minute, may, left, next, pass, total}}
	}
	stay := func() bool {
		return slices.Equal(turns[:9], append([]api.Turn{turn(0, 2), turn(9, 10)}, make([]api.Turn, 7)...)) &&
			equal(l, []api.Driver{exact(0, 2, 9, 10), bob()}) && equal(l[2:9], make([]api.Driver, 7)) &&
			slices.Equal(hauls[:9], append([]api.Haul{haul(5, 2, 1), haul(5, 1, 0), haul(4, 9, 0)}, make([]api.Haul, 6)...)) &&
			slices.Equal(readings[:9], []int{100, 200, 0, 0, 0, 0, 0, 0, 0})
	}
	first, second, again := all(), all(), all()
	if !stay() {
		t.Error("an argument, or the memory behind one, was changed:", l, hauls, readings)
	}
	for i, x := range first {
		v := reflect.ValueOf(x)
		if v.Len() == 0 {
			t.Errorf("the result %d is meant to have something", i)
		}
		for k := range v.Len() {
			v.Index(k).SetZero()
		}
	}
	if !reflect.DeepEqual(second, again) || !reflect.DeepEqual(all(), second) || !stay() {
		t.Error("results share memory, or depend on what was called before")
	}
}

// R4: turns of drivers that are read share no memory, also behind their ends.
func TestDriversThatAreReadAreApart(t *testing.T) {
	l, _, e := crew.Read("driver a 0\nturn 1 1 2 2\nturn 3 3 4 4\nturn 5 5 6 6\ndriver b 0\nturn 7 7 8 8\nend 4\n")
	if e != api.OK {
		t.Fatal(e)
	}
	turns := l[0].Turns
	clear(turns[:cap(turns)])
	if !slices.Equal(l[1].Turns, []api.Turn{turn(7, 8)}) {
		t.Error(l)
	}
}

// R4: a nil slice and an empty one are equal.
func TestEmptyIsNil(t *testing.T) {
	for _, none := range [][]api.Turn{nil, {}} {
		d := api.Driver{Name: "a", Turns: none}
		v, rule, minute, e1 := crew.Legal(rules(), d)
		left, e2 := crew.Left(rules(), d, 0)
		next, e3 := crew.Next(rules(), d, 9, 4)
		text, e4 := crew.Write([]api.Driver{d})
		if e1 != api.OK || e2 != api.OK || e3 != api.OK || e4 != api.OK || v != api.Sure || rule+minute != 0 || left != 4 || next != 9 || text != "driver a 0\nend 0\n" {
			t.Error(v, rule, minute, e1, left, e2, next, e3, text, e4)
		}
	}
	for _, none := range [][]api.Driver{nil, {}} {
		for _, hauls := range [][]api.Haul{nil, {}} {
			if who, n, e := crew.Assign(rules(), none, hauls); e != api.OK || len(who)+n > 0 {
				t.Error(who, n, e)
			}
		}
		if text, e := crew.Write(none); e != api.OK || text != "end 0\n" {
			t.Error(text, e)
		}
	}
	for _, none := range [][]int{nil, {}} {
		if v, total, e := crew.Pass(off(), none, api.Allow{}); e != api.OK || v != api.Sure || total != one(0) {
			t.Error(v, total, e)
		}
	}
}
