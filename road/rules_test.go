package road_test

import (
	"fmt"
	"math"
	"math/rand"
	"reflect"
	"slices"
	"strings"
	"testing"

	"sastrugi/api"
	"sastrugi/road"
)

// wild returns a number of any kind: near the bounds, far out, or usual.
func wild(r *rand.Rand) int {
	edges := [...]int{math.MinInt, math.MinInt + 1, -1, 0, 1, 2, 3, 4, 5, 20, 21, 100, 1000, 1001, 3000, 3001, 100000, 100001, 1000000, 1000001, math.MaxInt - 1, math.MaxInt}
	return edges[r.Intn(len(edges))]
}

// wildly changes some numbers, texts and slices of a value to anything.
func wildly(r *rand.Rand, v reflect.Value, rare int) {
	switch v.Kind() {
	case reflect.Int:
		if r.Intn(rare) == 0 {
			v.SetInt(int64(wild(r)))
		}
	case reflect.String:
		if r.Intn(rare) == 0 {
			v.SetString([]string{"", "Ann", "ann", "abcdefghi", "é", "\xff", " ", "rack\n"}[r.Intn(8)])
		}
	case reflect.Struct:
		for i := range v.NumField() {
			wildly(r, v.Field(i), rare)
		}
	case reflect.Array:
		for i := range v.Len() {
			wildly(r, v.Index(i), rare)
		}
	case reflect.Slice:
		switch r.Intn(4 * rare) {
		case 0:
			v.SetZero()
		case 1:
			v.Set(reflect.MakeSlice(v.Type(), r.Intn(25), 25))
		case 2:
			v.Set(reflect.AppendSlice(v, v))
		}
		for i := range v.Len() {
			wildly(r, v.Index(i), rare)
		}
	}
}

// wildSheet is a sheet of lines of which most are usual, with some bytes changed.
func wildSheet(r *rand.Rand, lines []string) string {
	text := []byte(sheet(lines...))
	for range r.Intn(8) {
		if len(text) == 0 {
			break
		}
		i := r.Intn(len(text))
		switch r.Intn(4) {
		case 0:
			text = slices.Delete(text, i, i+1)
		case 1:
			text = slices.Insert(text, i, "0123456789 \n-\xffxé"[r.Intn(17)])
		case 2:
			text[i] = " \n09x\x00"[r.Intn(6)]
		case 3:
			text = slices.Insert(text, i, []byte("\ngo up ann 1000\nwait 7\n")...)
		}
	}
	return string(text)
}

// P1, R3 and R5: arguments of any value give an error, or results; none panics, and with an error there are no results.
func TestAnyArguments(t *testing.T) {
	r := rand.New(rand.NewSource(147))
	seen := map[api.Errno]int{}
	for i := range 2500 {
		lines, models := someDay(r, 12, someLine)
		g := models[0].r
		if i%2 == 0 {
			wildly(r, reflect.ValueOf(&g).Elem(), 20+r.Intn(200))
		}
		text, weight := wildSheet(r, lines), r.Intn(3000)
		if r.Intn(4) == 0 {
			weight = wild(r)
		}
		e := road.Check(g)
		seen[e]++
		out, a := road.Run(g, text)
		d, b := road.Keep(g, text)
		report, c := road.Report(g, text, weight)
		if a != b || e != api.OK && a != e || a != api.OK && c != a {
			t.Fatalf("%v\n%q: %v, %v, %v, %v", g, text, e, a, b, c)
		}
		if a != api.OK && (out != "" || shown(d) != shown(api.Desk{})) || c != api.OK && report != "" {
			t.Fatalf("%v\n%q: %q, %v, %q beside an error", g, text, out, d, report)
		}
		if a == api.OK && strings.Count(out, "\n") != strings.Count(text, "\n") {
			t.Fatalf("%v\n%q: the replies are %q", g, text, out)
		}
		seen[a]++
		seen[c]++
	}
	for _, e := range []api.Errno{api.OK, api.ErrRange, api.ErrForm, api.ErrShort, api.ErrMissing, api.ErrFull, api.ErrExists, api.ErrOrder, api.ErrClash} {
		if seen[e] < 5 {
			t.Error("too few of each error:", seen)
			break
		}
	}
}

// P10.1: sheets with some bytes changed are replied to word by word.
func TestAnySheet(t *testing.T) {
	r := rand.New(rand.NewSource(148))
	changed := 0
	for range 300 {
		lines, models := someDay(r, 20, someLine)
		text := wildSheet(r, lines)
		if text == "" || !strings.HasSuffix(text, "\n") {
			continue
		}
		now, want := models[0], ""
		for _, line := range strings.Split(text[:len(text)-1], "\n") {
			var reply string
			reply, now = now.line(line)
			want += reply + "\n"
		}
		if got, e := road.Run(now.r, text); got != want || e != api.OK {
			t.Fatalf("%v\n%q: the replies are %q, %v, want %q", now.r, text, got, e, want)
		}
		if text != sheet(lines...) {
			changed++
		}
	}
	if changed < 100 {
		t.Error("too few sheets are changed:", changed)
	}
}

// large is a region that has as much of all as there may be, with a road on which a truck drives for 1,000 minutes.
func large() api.Region {
	g := exact(func(r *api.Region) {
		r.Survey = api.Survey{Reaches: slices.Repeat([]api.Reach{{Long: 50, Slope: 3000, Thin: 1, Grow: 1000, Every: 10000}}, 20), Sight: [3]int{50, 50, 50}}
		r.Pace, r.Gap, r.Fails = one(100), 200, 20
		r.Rescue = api.Rescue{Spots: 40, Chills: []api.Chill{{Warm: -400, Minutes: span(5000, 5000)}}}
		r.Drivers = []api.Driver{{Name: "aaaaaaaa", Skills: 255}, {Name: "bbbbbbbb"}, {Name: "cccccccc"}, {Name: "dddddddd"}}
	})
	for i := range 40 {
		g.Rescue.Water = append(g.Rescue.Water, span(-400, 400))
		for k := range 3 {
			g.Rescue.Paths = append(g.Rescue.Paths, api.Path{A: i, B: (i + k + 1) % 40, Time: span(0, 5000), Open: api.Sure})
		}
	}
	for i := range 12 {
		g.Rescue.Posts = append(g.Rescue.Posts, api.Post{Spot: i, Ready: span(0, 5000)})
	}
	g.Book = api.Book{}
	for i := range 8 {
		g.Book.Accounts = append(g.Book.Accounts, api.Account{Name: strings.Repeat(string(rune('a'+i)), 8), Kind: 1 + i%2, Open: span(0, 1000000000), Close: span(0, 1000000000)})
	}
	for i := range 29 {
		g.Book.Moves = append(g.Book.Moves, api.Move{From: i % 8, To: (i + 1 + i/8) % 8, Litres: span(0, 1000000000)})
	}
	return g
}

// P1: as much of all as there may be. Ten looks see all of the road.
func TestGreatest(t *testing.T) {
	var looks []string
	for i := range 10 {
		looks = append(looks, fmt.Sprint("core ", 50+100*i, " 3000 3000"))
	}
	looks[9] = "core 949 3000 3000"
	looks = append(looks, "radar 999 3000 3000", "radar 0 3000 3000")
	g := large()
	g.Survey.Reaches = slices.Clone(g.Survey.Reaches)
	for i := range g.Survey.Reaches {
		g.Survey.Reaches[i].Slope = 1
	}
	lines := append(looks, "shut 100000", "go up aaaaaaaa 20000", "wait 2", "go up bbbbbbbb 20000", "wait 2", "go up cccccccc 20000", "wait 2", "go up dddddddd 20000")
	for len(lines) < 90 {
		lines = append(lines, "go down dddddddd 20000", "lasts 999 20000", "breakup 0 30000", "storm 2000", "fuel", "reach 39", "move 0 1 0 999999999", "next dddddddd 1994")
	}
	lines = append(lines[:92], "wait 1000", "go down dddddddd 20000", "wait 1000", "go up aaaaaaaa 20000", "go up bbbbbbbb 20000", "wait 994", "wait 1", "fuel")
	got := replies(t, g, lines...)
	for i, want := range map[int]string{12: "open", 13: "go 1", 15: "go 2", 17: "go 3", 19: "go 4", 20: "error 12", 21: "lasts 2292", 22: "open", 23: "caught sure sure sure sure", 25: "open", 26: "ok", 27: "next 1006", 34: "error 8", 93: "go 1", 95: "error 2", 97: "ok", 98: "error 2", 99: "lost 0 8000000000 aaaaaaaa open bbbbbbbb never cccccccc open dddddddd never eeeeeeee open ffffffff never gggggggg open hhhhhhhh never"} {
		if got[i] != want {
			t.Errorf("%d: the reply to %s is %q, want %q", i, lines[i], got[i], want)
		}
	}
	if text, e := road.Report(g, sheet(lines...), 100000); e != api.OK || strings.Count(text, "\n") < 8 {
		t.Error(text, e)
	}
}

// P1: the longest replies: each second place is shut for another reason.
func TestLongestReplies(t *testing.T) {
	g := large()
	g.Survey.Sight = [3]int{}
	var lines []string
	for i := range 49 {
		lines = append(lines, fmt.Sprint("core ", 2*i, " 3000 3000"))
	}
	for range 51 {
		lines = append(lines, "shut 0")
	}
	out, e := road.Run(g, sheet(lines...))
	if e != api.OK || strings.Count(out, "shut 1 1 stale 3 3 stale 5 5 stale") != 51 || strings.Count(out, "stale") != 51*49 {
		t.Error(out, e)
	}
	// No look and no mark are too many.
	for _, line := range []string{"core 0 0 3000", "mend 0 999", "crack 0 999 100"} {
		if out, e := road.Run(g, strings.Repeat(line+"\n", 100)); e != api.OK || out != strings.Repeat("ok\n", 100) {
			t.Error(out, e)
		}
	}
}

// R4: arguments are neither changed nor kept, and results share no memory with them or with each other.
func TestArgumentsStay(t *testing.T) {
	spare := func() api.Region {
		r := region()
		r.Survey.Reaches = append(make([]api.Reach, 0, 9), r.Survey.Reaches...)
		r.Plate.Shares, r.Plate.Creep = append(make([]api.Share, 0, 9), r.Plate.Shares...), append(make([]api.Share, 0, 9), r.Plate.Creep...)
		r.Book.Accounts, r.Book.Moves = append(make([]api.Account, 0, 9), r.Book.Accounts...), append(make([]api.Move, 0, 9), api.Move{To: 1, Litres: span(0, 3)})
		r.Drivers = append(make([]api.Driver, 0, 9), r.Drivers...)
		for i := range r.Drivers {
			r.Drivers[i].Turns = make([]api.Turn, 0, 9)
		}
		return r
	}
	// all is a region with the memory behind the ends of its slices.
	all := func(r api.Region) string {
		turns := ""
		for _, x := range r.Drivers {
			turns += fmt.Sprint(x.Turns[:9])
		}
		return fmt.Sprint(r, r.Survey.Reaches[:9], r.Plate.Shares[:9], r.Plate.Creep[:9], r.Book.Accounts[:9], r.Book.Moves[:9], r.Drivers[:9], turns)
	}
	text := sheet("radar 1 400 420", "seep 0 0 0", "mend 0 0", "go up ann 1000", "wait 2", "go up bob 1000", "move 0 1 5 6", "fuel", "storm 5", "next ann 5", "wait 1")
	r, other := spare(), spare()
	first, e1 := road.Keep(r, text)
	second, e2 := road.Keep(r, text)
	want := shown(second)
	if e1 != api.OK || e2 != api.OK || shown(first) != want || all(r) != all(other) {
		t.Fatal("an argument, or the memory behind one, was changed:", all(r))
	}
	for _, turns := range [][]api.Turn{first.Drivers[0].Turns, first.Drivers[1].Turns} {
		clear(turns[:cap(turns)])
	}
	clear(first.Looks[:cap(first.Looks)])
	clear(first.Marks[:cap(first.Marks)])
	clear(first.Trucks[:cap(first.Trucks)])
	clear(first.Drivers[:cap(first.Drivers)])
	clear(first.Book.Accounts[:cap(first.Book.Accounts)])
	clear(first.Book.Moves[:cap(first.Book.Moves)])
	if shown(second) != want || all(r) != all(other) {
		t.Error("results share memory:", second, all(r))
	}
	// A desk without moves of its own does not share the book of the region either.
	plain, e := road.Keep(r, "")
	if e != api.OK || len(plain.Book.Moves) != 1 || len(plain.Drivers) != 2 {
		t.Fatal(plain, e)
	}
	clear(plain.Book.Moves[:cap(plain.Book.Moves)])
	clear(plain.Book.Accounts[:cap(plain.Book.Accounts)])
	clear(plain.Drivers[:cap(plain.Drivers)])
	if all(r) != all(other) {
		t.Error("a result shares memory with an argument:", all(r))
	}
}

// R4: turns of the drivers of a desk share no memory, also behind their ends.
func TestTurnsAreApart(t *testing.T) {
	d := desk(t, exact(func(r *api.Region) {}), "radar 1 400 420", "go up ann 1", "wait 3", "go up bob 1", "wait 3", "go up ann 1", "wait 3", "go up bob 1", "wait 3", "go up ann 1")
	turns := d.Drivers[0].Turns
	if len(turns) != 3 || len(d.Drivers[1].Turns) != 2 {
		t.Fatal(d)
	}
	clear(turns[:cap(turns)])
	if !slices.Equal(d.Drivers[1].Turns, []api.Turn{{From: one(3), To: one(6)}, {From: one(9), To: one(12)}}) {
		t.Error(d.Drivers)
	}
}

// R4: a nil slice and an empty one are equal.
func TestEmptyIsNil(t *testing.T) {
	empty := changed(func(r *api.Region) {
		r.Book.Moves, r.Rescue.Paths = []api.Move{}, []api.Path{}
		for i := range r.Drivers {
			r.Drivers[i].Turns = []api.Turn{}
		}
		r.Rescue.Posts[0].Air = []api.Span{}
	})
	for _, text := range []string{"", sheet("radar 1 400 420", "go up ann 1000", "fuel", "reach 0")} {
		a, e1 := road.Run(empty, text)
		b, e2 := road.Run(region(), text)
		if a != b || e1 != api.OK || e2 != api.OK {
			t.Error(a, e1, b, e2)
		}
		c, e3 := road.Keep(empty, text)
		d, e4 := road.Keep(region(), text)
		if shown(c) != shown(d) || e3 != api.OK || e4 != api.OK {
			t.Error(c, e3, d, e4)
		}
	}
}
