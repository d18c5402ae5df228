package fuel_test

import (
	"math"
	"math/rand"
	"reflect"
	"slices"
	"testing"

	"sastrugi/api"
	"sastrugi/fuel"
)

// wild returns a number of any kind: near the bounds, far out, or usual.
func wild(r *rand.Rand) int {
	edges := [...]int{math.MinInt, math.MinInt + 1, -1001, -1000, -1, 0, 1, 2, 3, 8, 9, 40, 41, 150, 200, 201, 1000, 1001, 100000, 100001, 1000000000, 1000000001, math.MaxInt - 1, math.MaxInt}
	return edges[r.Intn(len(edges))]
}

func wildSpan(r *rand.Rand) api.Span {
	if r.Intn(2) == 0 {
		return one(wild(r))
	}
	return span(wild(r), wild(r))
}

func wilds(r *rand.Rand, most int) []int {
	list := make([]int, r.Intn(most+1))
	for i := range list {
		list[i] = wild(r)
	}
	return list
}

// wildBook is a book of which some parts may have any value.
func wildBook(r *rand.Rand) api.Book {
	b, _ := large(r, 50, 5)
	if r.Intn(20) == 0 {
		b.Accounts = slices.Repeat(b.Accounts, r.Intn(4))
	}
	if r.Intn(20) == 0 {
		b.Moves = slices.Repeat(b.Moves, 9)
	}
	for i := range b.Accounts {
		a := &b.Accounts[i]
		switch r.Intn(50) {
		case 0:
			a.Name = []string{"", "a", "A", "é", "\xff", "verylongname"}[r.Intn(6)]
		case 1:
			a.Kind = wild(r)
		case 2:
			a.Open = wildSpan(r)
		case 3:
			a.Close = wildSpan(r)
		}
	}
	for i := range b.Moves {
		m := &b.Moves[i]
		switch r.Intn(150) {
		case 0:
			m.From = wild(r)
		case 1:
			m.To = wild(r)
		case 2:
			m.Litres = wildSpan(r)
		case 3:
			m.To = m.From
		}
	}
	return b
}

// bare checks that there is nothing beside an error.
func bare(t *testing.T, name string, e api.Errno, zero bool) {
	t.Helper()
	if e != api.OK && !zero {
		t.Fatalf("%s returns %v and something else", name, e)
	}
}

// P1, R3 and R5: books of any value give an error, or results; none panics, and with an error there are no results.
func TestAnyBook(t *testing.T) {
	r := rand.New(rand.NewSource(82))
	seen := map[api.Errno]int{}
	for range 5000 {
		b := wildBook(r)
		seen[fuel.Check(b)]++
		l, total, e := fuel.Losses(b)
		bare(t, "Losses", e, len(l) == 0 && total == one(0))
		list, e := fuel.Missing(b)
		bare(t, "Missing", e, len(list) == 0)
		fine, e := fuel.Refine(b)
		bare(t, "Refine", e, equal(fine, api.Book{}))
		more, e := fuel.Post(b, move(r.Intn(3)*wild(r), r.Intn(3), wildSpan(r)))
		bare(t, "Post", e, equal(more, api.Book{}))
		list, e = fuel.Balance(b, api.Truth{Open: wilds(r, 2), Close: wilds(r, 2), Moved: wilds(r, 2)})
		bare(t, "Balance", e, len(list) == 0)
		text, e := fuel.Write(b)
		bare(t, "Write", e, text == "")
	}
	for _, e := range []api.Errno{api.OK, api.ErrRange, api.ErrForm, api.ErrKind, api.ErrShort, api.ErrMissing, api.ErrFull, api.ErrExists, api.ErrOrder, api.ErrClash} {
		if seen[e] < 20 {
			t.Error("too few of each error:", seen)
		}
	}
}

// P1, R3 and R5: tanks, temperatures and camps of any value.
func TestAnyNumbers(t *testing.T) {
	r := rand.New(rand.NewSource(83))
	fine := map[string]int{}
	for range 20000 {
		x := someTank(r)
		if r.Intn(3) == 0 {
			x.Heights = append(x.Heights, wilds(r, 2)...)
			x.Litres = append(x.Litres, wilds(r, 2)...)
		}
		s, e := fuel.Volume(x, some(r, -2, 20, 9))
		if r.Intn(3) == 0 {
			s, e = fuel.Volume(x, wildSpan(r))
		}
		bare(t, "Volume", e, s == one(0))
		if e == api.OK {
			fine["Volume"]++
		}
		s, e = fuel.Standard(wildSpan(r), wildSpan(r), wildSpan(r))
		bare(t, "Standard", e, s == one(0))
		if e == api.OK {
			fine["Standard"]++
		}
		list, days := someBurn(r, true), []api.Span{wildSpan(r), wildSpan(r)}[:r.Intn(3)]
		if r.Intn(3) == 0 {
			list[0].Cold, list[len(list)-1].Litres = wild(r), wildSpan(r)
		}
		s, e = fuel.Lasts(wildSpan(r), list, days)
		bare(t, "Lasts", e, s == one(0))
		if e == api.OK {
			fine["Lasts"]++
		}
	}
	for _, name := range []string{"Volume", "Standard", "Lasts"} {
		if fine[name] < 50 {
			t.Error("too few are valid:", fine)
		}
	}
}

// P1: any text is read, or not.
func TestAnyText(t *testing.T) {
	r := rand.New(rand.NewSource(84))
	words := []string{"account", "move", "tank", "ground", "a", "b", " ", " ", " ", " ", "\n", "\n", "0", "1", "0 0 0 0", "account a tank 1 1 0 1\n", "account b ground 0 0 0 1\n", "\x00", "\xff", "é", "-", "99999999999999999999"}
	good := 0
	for range 20000 {
		text := ""
		for range r.Intn(12) {
			text += words[r.Intn(len(words))]
		}
		b, row, e := fuel.Read(text)
		if e != api.OK && !equal(b, api.Book{}) || row > 0 && e != api.ErrForm {
			t.Fatalf("Read(%q) = %v, %d, %v", text, b, row, e)
		}
		if e == api.OK {
			good++
		}
	}
	if good < 20 {
		t.Error("too few are read:", good)
	}
}

// P1 and R7: as much of all as there may be.
func TestGreatestBooks(t *testing.T) {
	var b api.Book
	for i := range 8 {
		b.Accounts = append(b.Accounts, account(string(rune('a'+i)), one(1000000000), one(0)))
	}
	for i := range 30 {
		b.Moves = append(b.Moves, move(i%7, 7, one(1000000000)))
	}
	// The last one gets 30 milliards, but others have not got so much.
	if e := fuel.Check(b); e != api.ErrClash {
		t.Error(e)
	}
	for i := range b.Moves {
		b.Moves[i].Litres.Lo = 0
	}
	greatest := span(0, 1000000000)
	l, total, e := fuel.Losses(b)
	want := append(slices.Repeat([]api.Span{greatest}, 7), span(1000000000, 8000000000))
	if e != api.OK || total != one(8000000000) || !slices.Equal(l, want) {
		t.Error(l, total, e)
	}
	if fine, e := fuel.Refine(b); e != api.OK || !equal(fine, b) {
		t.Error(fine, e)
	}
	text, e := fuel.Write(b)
	if e != api.OK || len(text) > api.MaxFuelText/10 {
		t.Error(len(text), e)
	}
	if x, e := fuel.Lasts(one(1000000000), []api.Burn{{Litres: one(1000000000)}}, make([]api.Span, 400)); x != one(1) || e != api.OK {
		t.Error(x, e)
	}
}

// R4: arguments are neither changed nor kept, and results share no memory with them or with each other.
func TestArgumentsStay(t *testing.T) {
	b, x, heat, days, level := book(), truth(), burn(), cold(), tank()
	b.Accounts[2].Close = span(0, 9)
	b.Moves = append(make([]api.Move, 0, 9), b.Moves...)
	was := copied(b)
	calls := func() []any {
		a, _ := fuel.Volume(level, span(3, 1999))
		c, _ := fuel.Balance(b, x)
		d, f, _ := fuel.Losses(b)
		g, _ := fuel.Missing(b)
		h, _ := fuel.Refine(b)
		i, _ := fuel.Post(b, move(0, 1, one(0)))
		j, _ := fuel.Lasts(one(300), heat, days)
		k, _ := fuel.Write(b)
		l, _, _ := fuel.Read(text)
		return []any{a, c, d, f, g, h.Accounts, h.Moves, i.Accounts, i.Moves, j, k, l.Accounts, l.Moves}
	}
	first, second, again := calls(), calls(), calls()
	if !equal(b, was) || !reflect.DeepEqual(x, truth()) || !slices.Equal(heat, burn()) || !slices.Equal(days, cold()) || !reflect.DeepEqual(level, tank()) {
		t.Error("an argument was changed:", b, x, heat, days, level)
	}
	if b.Moves[:9][1] != (api.Move{}) {
		t.Error("the memory behind an argument was changed:", b.Moves[:9])
	}
	for i, x := range first {
		if v := reflect.ValueOf(x); v.Kind() == reflect.Slice {
			if v.Len() == 0 {
				t.Errorf("the result %d is meant to have something", i)
			}
			v.Index(0).SetZero()
		}
	}
	if !reflect.DeepEqual(second, again) || !reflect.DeepEqual(calls(), second) || !equal(b, was) {
		t.Error("results share memory, or depend on what was called before")
	}
}

// R4: a nil slice and an empty one are equal.
func TestEmptyIsNil(t *testing.T) {
	for _, none := range [][]api.Move{nil, {}} {
		b := api.Book{Accounts: []api.Account{account("a", one(5), one(3))}, Moves: none}
		l, total, e1 := fuel.Losses(b)
		fine, e2 := fuel.Refine(b)
		text, e3 := fuel.Write(b)
		if !slices.Equal(l, []api.Span{one(2)}) || total != one(2) || !equal(fine, b) || text != "account a tank 5 5 3 3\n" || e1 != api.OK || e2 != api.OK || e3 != api.OK {
			t.Error(l, total, fine, text, e1, e2, e3)
		}
		for _, moved := range [][]int{nil, {}} {
			n, e := fuel.Balance(b, api.Truth{Open: []int{5}, Close: []int{3}, Moved: moved})
			if !slices.Equal(n, []int{2}) || e != api.OK {
				t.Error(n, e)
			}
		}
	}
	for _, none := range [][]api.Account{nil, {}} {
		if e := fuel.Check(api.Book{Accounts: none}); e != api.ErrShort {
			t.Error(e)
		}
	}
	for _, none := range [][]api.Span{nil, {}} {
		if x, e := fuel.Lasts(span(1, 9), burn(), none); x != one(0) || e != api.OK {
			t.Error(x, e)
		}
	}
	for _, none := range [][]int{nil, {}} {
		if x, e := fuel.Volume(api.Tank{Heights: none, Litres: none}, one(0)); x != one(0) || e != api.ErrShort {
			t.Error(x, e)
		}
	}
}
