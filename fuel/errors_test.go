package fuel_test

import (
	"math"
	"slices"
	"strings"
	"testing"

	"sastrugi/api"
	"sastrugi/fuel"
)

// heights are those from 0 on, so many.
func heights(n int) api.Tank {
	var x api.Tank
	for i := range n {
		x.Heights, x.Litres = append(x.Heights, i), append(x.Litres, i)
	}
	return x
}

// P6.1: the errors of a tank, and those of a dip, in their order.
func TestVolumeErrors(t *testing.T) {
	level := func(heights, litres []int) api.Tank { return api.Tank{Heights: heights, Litres: litres} }
	for _, c := range []struct {
		name string
		t    api.Tank
		dip  api.Span
		want api.Errno
	}{
		{"T", tank(), one(0), api.OK},
		{"nothing, before the dip", api.Tank{}, span(-1, -2), api.ErrShort},
		{"no heights, before the litres", level(nil, []int{1, 2}), one(0), api.ErrShort},
		{"one height, before its number", level([]int{-1}, []int{0}), one(0), api.ErrShort},
		{"one height, before the litres", level([]int{0}, nil), one(0), api.ErrShort},
		{"two heights", heights(2), one(0), api.OK},
		{"most heights", heights(40), one(39), api.OK},
		{"too many heights", heights(41), one(0), api.ErrFull},
		{"too many heights, before the litres", level(make([]int, 41), nil), one(0), api.ErrFull},
		{"fewer litres, before the heights", level([]int{-1, 0}, []int{0}), one(0), api.ErrForm},
		{"more litres", level([]int{0, 1}, []int{0, 1, 2}), one(0), api.ErrForm},
		{"no litres", level([]int{0, 1}, nil), one(0), api.ErrForm},
		{"greatest numbers", level([]int{0, 100000}, []int{0, 1000000000}), span(0, 100000), api.OK},
		{"height below", level([]int{-1, 1}, []int{0, 1}), one(0), api.ErrRange},
		{"height above", level([]int{0, 100001}, []int{0, 1}), one(0), api.ErrRange},
		{"height beyond, before the litres' order", level([]int{0, math.MaxInt}, []int{2, 1}), one(0), api.ErrRange},
		{"litres below, before the heights' order", level([]int{1, 1}, []int{0, -1}), one(1), api.ErrRange},
		{"litres above", level([]int{0, 1}, []int{0, 1000000001}), one(0), api.ErrRange},
		{"litres of the first height", level([]int{0, 1}, []int{-1, 1}), one(0), api.ErrRange},
		{"a height twice", level([]int{1, 1}, []int{0, 1}), one(1), api.ErrOrder},
		{"a height below the one before", level([]int{2, 1}, []int{0, 1}), one(1), api.ErrOrder},
		{"the same litres", level([]int{1, 2}, []int{5, 5}), one(1), api.OK},
		{"fewer litres than before", level([]int{1, 2}, []int{5, 4}), one(1), api.ErrOrder},
		{"the order of the second one, before the third one", level([]int{1, 1, -1}, []int{0, 0, -1}), one(1), api.ErrOrder},
		{"the third one against the second one", level([]int{1, 3, 2}, []int{0, 0, 0}), one(1), api.ErrOrder},
		{"the tank, before the dip", level([]int{2, 1}, []int{0, 1}), span(9, 8), api.ErrOrder},
		{"the dip below", level([]int{2, 5}, []int{0, 1}), span(1, 5), api.ErrRange},
		{"the dip at both ends", level([]int{2, 5}, []int{0, 1}), span(2, 5), api.OK},
		{"the dip above", level([]int{2, 5}, []int{0, 1}), span(2, 6), api.ErrRange},
		{"the dip above, before its order", level([]int{2, 5}, []int{0, 1}), span(6, 2), api.ErrRange},
		{"the dip below, before its order", level([]int{2, 5}, []int{0, 1}), span(5, 1), api.ErrRange},
		{"the dip's order", level([]int{2, 5}, []int{0, 1}), span(5, 2), api.ErrOrder},
		{"the dip beyond a type", tank(), span(math.MinInt, math.MaxInt), api.ErrRange},
	} {
		x, e := fuel.Volume(c.t, c.dip)
		if e != c.want || e != api.OK && x != one(0) {
			t.Errorf("%s: Volume = %v, %v, want %v", c.name, x, e, c.want)
		}
	}
}

// P6.1: the errors of Standard, span by span.
func TestStandardErrors(t *testing.T) {
	for i, c := range []struct {
		litres, beta, temp api.Span
		want               api.Errno
	}{
		{span(0, 1000000000), span(0, 200), span(-1000, 1000), api.OK},
		{span(-1, 0), span(2, 1), span(2, 1), api.ErrRange},
		{span(0, 1000000001), span(2, 1), span(2, 1), api.ErrRange},
		{span(0, -1), one(0), one(0), api.ErrRange},
		{span(1, 0), span(0, 201), span(0, 1001), api.ErrOrder},
		{one(0), span(-1, 0), span(2, 1), api.ErrRange},
		{one(0), span(0, 201), span(2, 1), api.ErrRange},
		{one(0), span(1, 0), span(0, 1001), api.ErrOrder},
		{one(0), one(0), span(-1001, 0), api.ErrRange},
		{one(0), one(0), span(0, 1001), api.ErrRange},
		{one(0), one(0), span(0, -1), api.ErrOrder},
		{one(math.MaxInt), one(math.MaxInt), one(math.MinInt), api.ErrRange},
	} {
		x, e := fuel.Standard(c.litres, c.beta, c.temp)
		if e != c.want || e != api.OK && x != one(0) {
			t.Errorf("%d: Standard = %v, %v, want %v", i, x, e, c.want)
		}
	}
}

// bookErrors are books with the error of each.
var bookErrors = []struct {
	name   string
	change func(b *api.Book)
	want   api.Errno
}{
	{"as it is", func(b *api.Book) {}, api.OK},
	{"nothing", func(b *api.Book) { *b = api.Book{} }, api.ErrShort},
	{"no accounts, before moves", func(b *api.Book) { b.Accounts, b.Moves = nil, make([]api.Move, 31) }, api.ErrShort},
	{"one account", func(b *api.Book) { *b = accounts(account("a", one(5), one(5))) }, api.OK},
	{"most accounts", func(b *api.Book) {
		for i := range 5 {
			b.Accounts = append(b.Accounts, account(string(rune('a'+i)), one(0), one(0)))
		}
	}, api.OK},
	{"too many accounts, before their own errors", func(b *api.Book) { b.Accounts = make([]api.Account, 9) }, api.ErrFull},
	{"too many accounts, before moves", func(b *api.Book) { b.Accounts, b.Moves = make([]api.Account, 9), []api.Move{{From: -1}} }, api.ErrFull},
	{"no name, before the kind", func(b *api.Book) { b.Accounts[1] = api.Account{} }, api.ErrForm},
	{"shortest name", func(b *api.Book) { b.Accounts[1].Name = "a" }, api.OK},
	{"longest name", func(b *api.Book) { b.Accounts[1].Name = "abcxyzzz" }, api.OK},
	{"name too long", func(b *api.Book) { b.Accounts[1].Name = "abcdefghi" }, api.ErrForm},
	{"a great letter", func(b *api.Book) { b.Accounts[1].Name = "Camp" }, api.ErrForm},
	{"a great letter in the end", func(b *api.Book) { b.Accounts[1].Name = "camP" }, api.ErrForm},
	{"a digit", func(b *api.Book) { b.Accounts[1].Name = "camp1" }, api.ErrForm},
	{"a blank", func(b *api.Book) { b.Accounts[1].Name = "ca mp" }, api.ErrForm},
	{"before a", func(b *api.Book) { b.Accounts[1].Name = "`" }, api.ErrForm},
	{"behind z", func(b *api.Book) { b.Accounts[1].Name = "{" }, api.ErrForm},
	{"a letter of another alphabet", func(b *api.Book) { b.Accounts[1].Name = "é" }, api.ErrForm},
	{"a letter whose last byte is one from a to z", func(b *api.Book) { b.Accounts[1].Name = "š" }, api.ErrForm},
	{"no letter at all", func(b *api.Book) { b.Accounts[1].Name = "\xff" }, api.ErrForm},
	{"the name of the one before, before its kind", func(b *api.Book) { b.Accounts[1] = api.Account{Name: "rack"} }, api.ErrExists},
	{"the name of the first one", func(b *api.Book) { b.Accounts[2].Name = "rack" }, api.ErrExists},
	{"the kind before the name of the next one", func(b *api.Book) { b.Accounts[1].Kind, b.Accounts[2].Name = 0, "rack" }, api.ErrKind},
	{"kind 0, before Open", func(b *api.Book) { b.Accounts[1].Kind, b.Accounts[1].Open = 0, one(-1) }, api.ErrKind},
	{"kind 3", func(b *api.Book) { b.Accounts[1].Kind = 3 }, api.ErrKind},
	{"kind below", func(b *api.Book) { b.Accounts[1].Kind = -1 }, api.ErrKind},
	{"greatest Open", func(b *api.Book) { b.Accounts[1].Open.Hi = 1000000000 }, api.OK},
	{"Open above, before its order", func(b *api.Book) { b.Accounts[1].Open = span(1000000001, 0) }, api.ErrRange},
	{"Open below", func(b *api.Book) { b.Accounts[2].Open = span(-1, 0) }, api.ErrRange},
	{"Open turned, before Close", func(b *api.Book) { b.Accounts[1].Open, b.Accounts[1].Close = span(2, 1), one(-1) }, api.ErrOrder},
	{"greatest Close", func(b *api.Book) { b.Accounts[1].Close.Hi = 1000000000 }, api.OK},
	{"Close above", func(b *api.Book) { b.Accounts[1].Close.Hi = 1000000001 }, api.ErrRange},
	{"Close below, before its order", func(b *api.Book) { b.Accounts[1].Close = span(0, -1) }, api.ErrRange},
	{"Close turned, before moves", func(b *api.Book) { b.Accounts[2].Close, b.Moves = span(5, 4), make([]api.Move, 31) }, api.ErrOrder},
	{"most moves", func(b *api.Book) {
		b.Moves = append(b.Moves, slices.Repeat([]api.Move{move(0, 1, one(0))}, 29)...)
	}, api.OK},
	{"too many moves, before their own errors", func(b *api.Book) { b.Moves = make([]api.Move, 31) }, api.ErrFull},
	{"from nowhere, before itself", func(b *api.Book) { b.Moves[0].From, b.Moves[0].To = 3, 3 }, api.ErrMissing},
	{"from below", func(b *api.Book) { b.Moves[0].From = -1 }, api.ErrMissing},
	{"from the last one", func(b *api.Book) { b.Moves[0] = move(2, 1, one(0)) }, api.ErrClash},
	{"to nowhere", func(b *api.Book) { b.Moves[0].To = 3 }, api.ErrMissing},
	{"to below, before litres", func(b *api.Book) { b.Moves[0] = move(0, -1, one(-1)) }, api.ErrMissing},
	{"beyond a type", func(b *api.Book) { b.Moves[0].From, b.Moves[0].To = math.MaxInt, math.MinInt }, api.ErrMissing},
	{"to itself, before litres", func(b *api.Book) { b.Moves[0] = move(1, 1, one(-1)) }, api.ErrForm},
	{"greatest litres", func(b *api.Book) { b.Moves[0].Litres.Hi = 1000000000 }, api.OK},
	{"litres above", func(b *api.Book) { b.Moves[0].Litres.Hi = 1000000001 }, api.ErrRange},
	{"litres below, before their order", func(b *api.Book) { b.Moves[0].Litres = span(0, -1) }, api.ErrRange},
	{"litres turned", func(b *api.Book) { b.Moves[0].Litres = span(2, 1) }, api.ErrOrder},
	{"the second move", func(b *api.Book) { b.Moves = append(b.Moves, move(1, 0, span(2, 1))) }, api.ErrOrder},
	{"the first move, before the second one", func(b *api.Book) { b.Moves = append(b.Moves, move(1, 3, one(1))); b.Moves[0].To = 0 }, api.ErrForm},
	{"a move, before the truth", func(b *api.Book) { b.Accounts[2].Open, b.Moves[0].To = one(9), 0 }, api.ErrForm},
	{"as much as there may be in the end", func(b *api.Book) { b.Accounts[1].Close = span(510, 520) }, api.OK},
	{"a litre too much in the end", func(b *api.Book) { b.Accounts[1].Close = span(511, 520) }, api.ErrClash},
	{"a rack that had too little", func(b *api.Book) { b.Accounts[0].Open = one(989) }, api.ErrClash},
	{"a rack that had just enough", func(b *api.Book) { b.Accounts[0].Open = one(990) }, api.OK},
	{"ground that loses", func(b *api.Book) { b.Accounts[2].Open = span(6, 9) }, api.ErrClash},
	{"ground that perhaps loses", func(b *api.Book) { b.Accounts[2].Open = span(5, 9) }, api.OK},
	{"ground that wins", func(b *api.Book) { b.Accounts[2].Close = span(1, 5) }, api.ErrClash},
	{"each account for itself, but not together", func(b *api.Book) {
		*b = accounts(account("a", one(10), one(5)), account("b", one(0), one(6)), account("c", one(0), one(0)))
		b.Moves = []api.Move{move(0, 2, span(0, 9)), move(2, 1, span(0, 9))}
	}, api.ErrClash},
	{"just enough for both", func(b *api.Book) {
		*b = accounts(account("a", one(11), one(5)), account("b", one(0), one(6)), account("c", one(0), one(0)))
		b.Moves = []api.Move{move(0, 2, span(0, 9)), move(2, 1, span(0, 9))}
	}, api.OK},
}

// P6.2, and R1: the error of the book comes before all others; and R3: nothing is returned beside it.
func TestBookErrors(t *testing.T) {
	for _, c := range bookErrors {
		b := book()
		c.change(&b)
		if e := fuel.Check(b); e != c.want {
			t.Errorf("%s: Check = %v, want %v", c.name, e, c.want)
		}
		for i, e := range answers(t, b) {
			if e != c.want && (i < 4 || c.want != api.OK) {
				t.Errorf("%s: function %d returns %v, want %v", c.name, i, e, c.want)
			}
		}
	}
}

// answers are the errors of all functions that a book is given to; the last two with arguments that are otherwise wrong.
func answers(t *testing.T, b api.Book) []api.Errno {
	t.Helper()
	bare := func(name string, e api.Errno, zero bool) {
		if (e != api.OK) != zero {
			t.Errorf("%s of %v returns %v, and nothing else: %v", name, b, e, zero)
		}
	}
	losses, total, e1 := fuel.Losses(b)
	bare("Losses", e1, len(losses) == 0 && total == one(0))
	verdicts, e2 := fuel.Missing(b)
	bare("Missing", e2, len(verdicts) == 0)
	fine, e3 := fuel.Refine(b)
	bare("Refine", e3, equal(fine, api.Book{}))
	text, e4 := fuel.Write(b)
	bare("Write", e4, text == "")
	l, e5 := fuel.Balance(b, api.Truth{Open: []int{-1}})
	bare("Balance", e5, len(l) == 0)
	more, e6 := fuel.Post(b, move(-1, -1, span(2, -1)))
	bare("Post", e6, equal(more, api.Book{}))
	return []api.Errno{e1, e2, e3, e4, e5, e6}
}

// P6.2: the errors of a truth, in their order.
func TestBalanceErrors(t *testing.T) {
	for _, c := range []struct {
		name   string
		change func(x *api.Truth)
		want   api.Errno
	}{
		{"as it is", func(x *api.Truth) {}, api.OK},
		{"nothing", func(x *api.Truth) { *x = api.Truth{} }, api.ErrForm},
		{"fewer of Open, before their numbers", func(x *api.Truth) { x.Open = []int{-1, 100} }, api.ErrForm},
		{"more of Open", func(x *api.Truth) { x.Open = append(x.Open, 0) }, api.ErrForm},
		{"fewer of Close", func(x *api.Truth) { x.Open[0], x.Close = -1, x.Close[:2] }, api.ErrForm},
		{"more of Close", func(x *api.Truth) { x.Close = append(x.Close, 0) }, api.ErrForm},
		{"fewer of Moved", func(x *api.Truth) { x.Open[0], x.Moved = -1, nil }, api.ErrForm},
		{"more of Moved", func(x *api.Truth) { x.Moved = append(x.Moved, 0) }, api.ErrForm},
		{"the first Open below", func(x *api.Truth) { x.Open[0] = 999 }, api.ErrRange},
		{"the first Open above", func(x *api.Truth) { x.Open[0] = 1001 }, api.ErrRange},
		{"the second Open below", func(x *api.Truth) { x.Open[1] = 99 }, api.ErrRange},
		{"the second Open at its end", func(x *api.Truth) { x.Open[1] = 110 }, api.OK},
		{"the second Open above", func(x *api.Truth) { x.Open[1] = 111 }, api.ErrRange},
		{"a Close below", func(x *api.Truth) { x.Close[0] = 599 }, api.ErrRange},
		{"a Close at its end", func(x *api.Truth) { x.Close[0] = 600 }, api.OK},
		{"a Close above, before a clash", func(x *api.Truth) { x.Close[0], x.Close[2] = 611, 5 }, api.ErrRange},
		{"the ground's Close above", func(x *api.Truth) { x.Close[2] = 6 }, api.ErrRange},
		{"a move below", func(x *api.Truth) { x.Moved[0] = 389 }, api.ErrRange},
		{"a move at its end", func(x *api.Truth) { x.Moved[0] = 390 }, api.OK},
		{"a move above, before a clash", func(x *api.Truth) { x.Moved[0] = 401 }, api.ErrRange},
		{"beyond a type", func(x *api.Truth) { x.Moved[0] = math.MinInt }, api.ErrRange},
		{"the rack loses nothing", func(x *api.Truth) { x.Moved[0] = 395 }, api.OK},
		{"the rack loses less than nothing", func(x *api.Truth) { x.Moved[0] = 396 }, api.ErrClash},
		{"the camp loses less than nothing", func(x *api.Truth) { x.Close[0], x.Close[1], x.Moved[0] = 610, 490, 389 }, api.ErrRange},
		{"the camp loses nothing", func(x *api.Truth) { x.Close[1], x.Moved[0] = 490, 390 }, api.OK},
		{"the ground has a litre more", func(x *api.Truth) { x.Close[2] = 1 }, api.ErrClash},
	} {
		x := truth()
		c.change(&x)
		l, e := fuel.Balance(book(), x)
		if e != c.want || (len(l) == 0) != (e != api.OK) {
			t.Errorf("%s: Balance = %v, %v, want %v", c.name, l, e, c.want)
		}
	}
	b := book()
	b.Accounts[2].Open = span(0, 5)
	x := truth()
	x.Open[2] = 1
	if l, e := fuel.Balance(b, x); e != api.ErrClash || len(l) > 0 {
		t.Error("ground that loses a litre:", l, e)
	}
}

// P6.4: the errors of the move that is posted.
func TestPostErrors(t *testing.T) {
	full := book()
	full.Moves = append(full.Moves, slices.Repeat([]api.Move{move(0, 1, one(0))}, 28)...)
	for _, c := range []struct {
		name string
		b    api.Book
		m    api.Move
		want api.Errno
	}{
		{"the last one there may be", full, move(0, 1, one(0)), api.OK},
		{"from nowhere", book(), move(3, 3, one(-1)), api.ErrMissing},
		{"to nowhere", book(), move(0, -1, one(-1)), api.ErrMissing},
		{"to itself, before its litres", book(), move(2, 2, one(-1)), api.ErrForm},
		{"litres below", book(), move(0, 1, span(0, -1)), api.ErrRange},
		{"litres above", book(), move(0, 1, span(0, 1000000001)), api.ErrRange},
		{"litres turned", book(), move(0, 1, span(1, 0)), api.ErrOrder},
		{"as much as the ground has in the end", book(), move(0, 2, one(5)), api.OK},
		{"more than the ground has in the end", book(), move(0, 2, one(6)), api.ErrClash},
		{"from the ground, which has nothing", book(), move(2, 0, one(1)), api.ErrClash},
		{"nothing from the ground", book(), move(2, 0, span(0, 1)), api.OK},
	} {
		b, e := fuel.Post(c.b, c.m)
		if e != c.want || (len(b.Accounts) == 0 && len(b.Moves) == 0) != (e != api.OK) {
			t.Errorf("%s: Post = %v, %v, want %v", c.name, b, e, c.want)
		}
	}
	full.Moves = append(full.Moves, move(0, 1, one(0)))
	if b, e := fuel.Post(full, move(9, 9, one(-1))); e != api.ErrFull || len(b.Accounts) > 0 {
		t.Error("a move too many:", b, e)
	}
}

// P6.5: the errors of Lasts, in their order.
func TestLastsErrors(t *testing.T) {
	wrong, many := []api.Burn{{Cold: 1001}}, make([]api.Span, 401)
	many[0] = span(2, 1)
	steps := func(n int) (list []api.Burn) {
		for i := range n {
			list = append(list, api.Burn{Cold: i, Litres: one(1)})
		}
		return list
	}
	for _, c := range []struct {
		name   string
		litres api.Span
		burn   []api.Burn
		cold   []api.Span
		want   api.Errno
	}{
		{"as it is", one(1), burn(), cold(), api.OK},
		{"greatest litres", span(0, 1000000000), burn(), cold(), api.OK},
		{"litres below, before their order", span(0, -1), wrong, many, api.ErrRange},
		{"litres above, before the burn", span(1000000001, 5), wrong, many, api.ErrRange},
		{"litres turned, before the burn", span(1, 0), wrong, many, api.ErrOrder},
		{"no burn, before the days", one(1), nil, many, api.ErrShort},
		{"most of a burn", one(1), steps(12), cold(), api.OK},
		{"too much of a burn, before its own errors", one(1), make([]api.Burn, 13), many, api.ErrFull},
		{"greatest burn", one(1), []api.Burn{{Cold: -1000, Litres: one(1000000000)}, {Cold: 1000}}, cold(), api.OK},
		{"cold below, before litres", one(1), []api.Burn{{Cold: -1001, Litres: span(2, 1)}}, many, api.ErrRange},
		{"cold above, before the days", one(1), wrong, many, api.ErrRange},
		{"cold above, before its order", one(1), []api.Burn{{Cold: 1000}, {Cold: 1001}}, cold(), api.ErrRange},
		{"cold twice, before litres", one(1), []api.Burn{{Cold: 5}, {Cold: 5, Litres: one(-1)}}, many, api.ErrOrder},
		{"less cold than before", one(1), []api.Burn{{Cold: 5}, {Cold: 7}, {Cold: 6}}, cold(), api.ErrOrder},
		{"burnt below, before its order", one(1), []api.Burn{{Litres: span(0, -1)}}, many, api.ErrRange},
		{"burnt above", one(1), []api.Burn{{Litres: span(0, 1000000001)}}, cold(), api.ErrRange},
		{"burnt turned, before the next one", one(1), []api.Burn{{Litres: span(1, 0)}, {Cold: 1001}}, many, api.ErrOrder},
		{"most days", one(1), burn(), make([]api.Span, 400), api.OK},
		{"too many days, before their own errors", one(1), burn(), many, api.ErrFull},
		{"coldest and warmest day", one(1), burn(), []api.Span{span(-1000, 1000)}, api.OK},
		{"a day below, before its order", one(1), burn(), []api.Span{span(-1000, -1001)}, api.ErrRange},
		{"a day above", one(1), burn(), []api.Span{one(1), span(0, 1001)}, api.ErrRange},
		{"a day turned, before the next one", one(1), burn(), []api.Span{span(1, 0), one(1001)}, api.ErrOrder},
		{"a day behind those that the litres last", one(0), burn(), []api.Span{one(1), span(1, 0)}, api.ErrOrder},
		{"beyond a type", one(math.MinInt), burn(), cold(), api.ErrRange},
	} {
		x, e := fuel.Lasts(c.litres, c.burn, c.cold)
		if e != c.want || e != api.OK && x != one(0) {
			t.Errorf("%s: Lasts = %v, %v, want %v", c.name, x, e, c.want)
		}
	}
}

// P6.6: texts that are not books, with their rows.
func TestReadErrors(t *testing.T) {
	const a = "account a tank 5 5 5 5\n"
	const b = "account b ground 0 0 0 0\n"
	const m = "move 0 1 0 0\n"
	for _, c := range []struct {
		text string
		row  int
		want api.Errno
	}{
		{a + b + m, 0, api.OK},
		{a, 0, api.OK},
		{"", 0, api.ErrShort},
		{m, 0, api.ErrShort},
		{strings.Repeat(m, 31), 0, api.ErrShort},
		{a + b + strings.Repeat(m, 30), 0, api.OK},
		{a + b + strings.Repeat(m, 31), 0, api.ErrFull},
		{strings.Repeat(a, 9), 0, api.ErrFull},
		{"\n", 1, api.ErrForm},
		{a + "\n", 2, api.ErrForm},
		{a + b + "\n" + m, 3, api.ErrForm},
		{a + " ", 2, api.ErrForm},
		{"x", 1, api.ErrForm},
		{a + b + m[:len(m)-1], 3, api.ErrForm},
		{strings.ReplaceAll(a+b, "\n", "\r\n"), 1, api.ErrForm},
		{m + a, 2, api.ErrForm},
		{a + b + m + "account c tank 0 0 0 0\n" + m, 4, api.ErrForm},
		{a + "account\n", 2, api.ErrForm},
		{"account a\n", 1, api.ErrForm},
		{"account a tank\n", 1, api.ErrForm},
		{"account a tank 5 5 5\n", 1, api.ErrForm},
		{"account a tank 5 5 5 5 5\n", 1, api.ErrForm},
		{"account tank 5 5 5 5\n", 1, api.ErrForm},
		{"account  tank 5 5 5 5\n", 1, api.ErrForm},
		{"account a  tank 5 5 5 5\n", 1, api.ErrForm},
		{" account a tank 5 5 5 5\n", 1, api.ErrForm},
		{"account a tank 5 5 5 5 \n", 1, api.ErrForm},
		{"Account a tank 5 5 5 5\n", 1, api.ErrForm},
		{"account a Tank 5 5 5 5\n", 1, api.ErrForm},
		{"account a truck 5 5 5 5\n", 1, api.ErrForm},
		{"account a 1 5 5 5 5\n", 1, api.ErrForm},
		{"account a tank 05 5 5 5\n", 1, api.ErrForm},
		{"account a tank 5 +5 5 5\n", 1, api.ErrForm},
		{"account a tank 5 5 -5 5\n", 1, api.ErrForm},
		{"account a tank 5 5 5 5x\n", 1, api.ErrForm},
		{"account a tank 5 5 5 00\n", 1, api.ErrForm},
		{"account a tank 10000000000 5 5 5\n", 1, api.ErrForm},
		{"account a tank 9999999999 5 5 5\n", 0, api.ErrRange},
		{"account a tank 6 5 5 5\n", 0, api.ErrOrder},
		{"account a tank 5 5 6 6\n", 0, api.ErrClash},
		{"account A tank 5 5 5 5\n", 0, api.ErrForm},
		{"account é tank 5 5 5 5\n", 0, api.ErrForm},
		{"account \xff tank 5 5 5 5\n", 0, api.ErrForm},
		{"account 17 tank 5 5 5 5\n", 0, api.ErrForm},
		{"account account tank 5 5 5 5\n", 0, api.OK},
		{"account abcdefghi tank 5 5 5 5\n", 0, api.ErrForm},
		{a + a, 0, api.ErrExists},
		{a + b + "move 0 1\n", 3, api.ErrForm},
		{a + b + "move 0 1 0\n", 3, api.ErrForm},
		{a + b + "move 0 1 0 0 0\n", 3, api.ErrForm},
		{a + b + "move a b 0 0\n", 3, api.ErrForm},
		{a + b + "move -1 1 0 0\n", 3, api.ErrForm},
		{a + b + "moves 0 1 0 0\n", 3, api.ErrForm},
		{a + b + "move 0 01 0 0\n", 3, api.ErrForm},
		{a + b + "move 0 2 0 0\n", 0, api.ErrMissing},
		{a + b + "move 0 9999999999 0 0\n", 0, api.ErrMissing},
		{a + b + "move 0 10000000000 0 0\n", 3, api.ErrForm},
		{a + b + "move 1 1 0 0\n", 0, api.ErrForm},
		{a + b + "move 0 1 0 1000000001\n", 0, api.ErrRange},
		{a + b + "move 0 1 1 1\n", 0, api.ErrClash},
		{a[:len(a)-1], 1, api.ErrForm},
		{"account " + strings.Repeat("a", 19978) + " tank 5 5 5 5\n", 0, api.ErrForm},
		{"account " + strings.Repeat("a", 19979) + " tank 5 5 5 5\n", 0, api.ErrLong},
		{strings.Repeat("\n", 20000), 1, api.ErrForm},
		{strings.Repeat("\n", 20001), 0, api.ErrLong},
	} {
		b, row, e := fuel.Read(c.text)
		if row != c.row || e != c.want || (len(b.Accounts) == 0) != (e != api.OK) || e != api.OK && len(b.Moves) > 0 {
			t.Errorf("Read(%.60q) = %v, %d, %v, want %d, %v", c.text, b, row, e, c.row, c.want)
		}
	}
}
