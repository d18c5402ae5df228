package fuel_test

import (
	"slices"
	"testing"

	"sastrugi/api"
	"sastrugi/fuel"
)

// P6.1: what is in a tank, on each of its lines, at their ends and beside them.
func TestVolumes(t *testing.T) {
	flat := api.Tank{Heights: []int{5, 8, 10}, Litres: []int{3, 13, 13}}
	thirds := api.Tank{Heights: []int{0, 3}, Litres: []int{0, 10}}
	jump := api.Tank{Heights: []int{10, 11, 12, 13}, Litres: []int{7, 7, 1000000000, 1000000000}}
	long := api.Tank{Heights: []int{1, 100000}, Litres: []int{0, 1000000000}}
	for i, c := range []struct {
		t         api.Tank
		dip, want api.Span
	}{
		{tank(), span(500, 1500), span(2500, 8500)},
		{tank(), one(1), one(5)},
		{tank(), span(0, 2000), span(0, 12000)},
		{tank(), one(0), one(0)},
		{tank(), one(999), one(4995)},
		{tank(), one(1000), one(5000)},
		{tank(), one(1001), one(5007)},
		{tank(), one(2000), one(12000)},
		{thirds, one(1), span(3, 4)},
		{thirds, one(2), span(6, 7)},
		{thirds, span(1, 2), span(3, 7)},
		{thirds, one(3), one(10)},
		{flat, one(5), one(3)},
		{flat, one(6), span(6, 7)},
		{flat, one(7), span(9, 10)},
		{flat, one(8), one(13)},
		{flat, span(6, 9), span(6, 13)},
		{flat, one(10), one(13)},
		{jump, one(11), one(7)},
		{jump, one(12), one(1000000000)},
		{jump, span(10, 13), span(7, 1000000000)},
		{heights(40), span(7, 38), span(7, 38)},
		// 49,999 of 99,999 parts of a milliard.
		{long, one(50000), span(499994999, 499995000)},
	} {
		if x, e := fuel.Volume(c.t, c.dip); x != c.want || e != api.OK {
			t.Errorf("%d: Volume = %v, %v, want %v", i, x, e, c.want)
		}
	}
}

// P6.1: standard litres, colder and warmer than Norm, at the ends of all bounds.
func TestStandardLitres(t *testing.T) {
	for i, c := range []struct{ litres, beta, temp, want api.Span }{
		{one(10000), span(80, 84), one(250), span(9916, 9920)},
		{one(10000), span(80, 84), one(-100), span(10200, 10210)},
		// At Norm, and without any expansion, a litre is a standard litre.
		{span(100, 200), span(0, 200), one(150), span(100, 200)},
		{span(100, 200), one(0), span(-1000, 1000), span(100, 200)},
		// Colder and warmer: the greater expansion counts on both sides.
		{one(1000000), span(80, 84), span(140, 170), span(998320, 1000840)},
		// Colder alone, and warmer alone: the least counts on one side.
		{one(1000000), span(80, 84), span(130, 140), span(1000800, 1001680)},
		{one(1000000), span(80, 84), span(160, 170), span(998320, 999200)},
		{one(1), one(83), one(160), span(0, 1)},
		{one(1), one(83), one(140), span(1, 2)},
		{one(0), span(0, 200), span(-1000, 1000), one(0)},
		{span(0, 1), one(1), one(149), span(0, 2)},
		{one(1000000000), one(200), one(-1000), one(1230000000)},
		{one(1000000000), one(200), one(1000), one(830000000)},
		{span(0, 1000000000), span(0, 200), span(-1000, 1000), span(0, 1230000000)},
		// Rounded outwards from 999,999.999999.
		{one(1000001), span(1, 1), one(151), span(999999, 1000000)},
	} {
		if x, e := fuel.Standard(c.litres, c.beta, c.temp); x != c.want || e != api.OK {
			t.Errorf("%d: Standard = %v, %v, want %v", i, x, e, c.want)
		}
	}
}

// P6.2: what accounts lose in truths of B.
func TestBalances(t *testing.T) {
	for i, c := range []struct {
		open, end, moved []int
		want             []int
	}{
		{[]int{1000, 100, 0}, []int{605, 485, 0}, []int{392}, []int{3, 7, 0}},
		{[]int{1000, 110, 0}, []int{600, 480, 0}, []int{400}, []int{0, 30, 0}},
		{[]int{1000, 100, 0}, []int{610, 490, 0}, []int{390}, []int{0, 0, 0}},
		{[]int{1000, 100, 0}, []int{600, 480, 0}, []int{390}, []int{10, 10, 0}},
	} {
		l, e := fuel.Balance(book(), api.Truth{Open: c.open, Close: c.end, Moved: c.moved})
		if e != api.OK || !slices.Equal(l, c.want) {
			t.Errorf("%d: Balance = %v, %v, want %v", i, l, e, c.want)
		}
	}
	// Spilled, and recovered: two moves between the same accounts, in both directions.
	b := accounts(account("truck", one(50), one(20)), ground("ground", one(0), one(4)))
	b.Moves = []api.Move{move(0, 1, span(0, 20)), move(1, 0, span(0, 20)), move(0, 1, span(0, 20))}
	l, e := fuel.Balance(b, api.Truth{Open: []int{50, 0}, Close: []int{20, 4}, Moved: []int{9, 8, 3}})
	if e != api.OK || !slices.Equal(l, []int{26, 0}) {
		t.Error(l, e)
	}
}

// ledger is a book whose losses and truths are worked out by hand.
type ledger struct {
	name     string
	b        api.Book
	losses   []api.Span
	total    api.Span
	verdicts []int
	refined  []api.Span // each Open, each Close, each of Litres
}

// spilled is a truck that has spilled into the ground, from which some has come into a drum.
func spilled() api.Book {
	b := accounts(account("truck", one(200), span(50, 60)), ground("ground", one(0), span(0, 40)), account("drum", one(0), span(20, 25)))
	b.Moves = []api.Move{move(0, 1, span(30, 80)), move(1, 2, span(0, 30))}
	return b
}

// across is a drum that got all that it has from a truck, over the ground.
func across() api.Book {
	b := accounts(account("truck", span(0, 70), span(0, 500)), ground("ground", span(0, 9), span(4, 500)), account("drum", one(0), span(60, 500)))
	b.Moves = []api.Move{move(0, 1, span(0, 500)), move(1, 2, span(0, 500))}
	return b
}

func ledgers() []ledger {
	less := book()
	less.Accounts[0].Close = span(590, 599)
	even := book()
	even.Accounts[0].Close, even.Moves[0].Litres = one(600), one(400)
	pair := accounts(account("a", span(5, 9), span(0, 20)), account("b", span(0, 2), span(10, 20)))
	pair.Moves = []api.Move{move(0, 1, span(0, 99))}
	round := accounts(account("a", one(5), one(4)), account("b", one(5), one(4)))
	round.Moves = []api.Move{move(0, 1, span(0, 7)), move(1, 0, span(0, 9))}
	greatest := accounts(account("a", one(1000000000), one(0)), account("b", one(0), span(0, 1000000000)))
	greatest.Moves = slices.Repeat([]api.Move{move(0, 1, span(0, 1000000000))}, 30)
	rest := slices.Repeat([]api.Span{span(0, 1000000000)}, 30)
	return []ledger{
		{"B", book(), []api.Span{span(0, 10), span(0, 30), one(0)}, span(0, 30), []int{api.Open, api.Open, api.Never}, []api.Span{one(1000), span(100, 110), one(0), span(600, 610), span(480, 490), one(0), span(390, 400)}},
		// Rack: 1000 less 590 to 599, less 390 to 400, and at least 1 is gone.
		{"B with less in the rack", less, []api.Span{span(1, 20), span(0, 30), one(0)}, span(11, 40), []int{api.Sure, api.Open, api.Never}, []api.Span{one(1000), span(100, 110), one(0), span(590, 599), span(480, 490), one(0), span(390, 400)}},
		{"B with an even rack", even, []api.Span{one(0), span(10, 30), one(0)}, span(10, 30), []int{api.Never, api.Sure, api.Never}, []api.Span{one(1000), span(100, 110), one(0), one(600), span(480, 490), one(0), one(400)}},
		// The truck gives 30 to 70: the ground keeps 40 at most, and gives 30 at most. The drum has got 20 to 30.
		{"a spill", spilled(), []api.Span{span(70, 120), one(0), span(0, 10)}, span(75, 130), []int{api.Sure, api.Never, api.Open}, []api.Span{one(200), one(0), one(0), span(50, 60), span(0, 40), span(20, 25), span(30, 70), span(20, 30)}},
		// The drum has 60 or more, the ground 4 or more, and both together the truck's 70 and the ground's 9 at most.
		{"over the ground", across(), []api.Span{span(0, 15), one(0), span(0, 15)}, span(0, 15), []int{api.Open, api.Never, api.Open}, []api.Span{span(55, 70), span(0, 9), one(0), span(0, 15), span(4, 19), span(60, 75), span(55, 70), span(60, 75)}},
		// The second one needs 8 from the first one, at least.
		{"a pair", pair, []api.Span{span(0, 1), span(0, 1)}, span(0, 1), []int{api.Open, api.Open}, []api.Span{span(8, 9), span(1, 2), span(0, 1), span(10, 11), span(8, 9)}},
		// What goes round is not lost.
		{"round and round", round, []api.Span{span(0, 2), span(0, 2)}, one(2), []int{api.Open, api.Open}, []api.Span{one(5), one(5), one(4), one(4), span(0, 7), span(0, 8)}},
		{"one account", accounts(account("a", span(5, 9), span(7, 20))), []api.Span{span(0, 2)}, span(0, 2), []int{api.Open}, []api.Span{span(7, 9), span(7, 9)}},
		{"one account that surely loses", accounts(account("a", span(5, 9), span(2, 4))), []api.Span{span(1, 7)}, span(1, 7), []int{api.Sure}, []api.Span{span(5, 9), span(2, 4)}},
		{"ground alone", accounts(ground("a", span(5, 9), span(7, 20))), []api.Span{one(0)}, one(0), []int{api.Never}, []api.Span{span(7, 9), span(7, 9)}},
		{"the greatest", greatest, []api.Span{span(0, 1000000000), span(0, 1000000000)}, span(0, 1000000000), []int{api.Open, api.Open}, append([]api.Span{one(1000000000), one(0), one(0), span(0, 1000000000)}, rest...)},
	}
}

// P6.3: losses, of each account and together, and the verdicts on them.
func TestLosses(t *testing.T) {
	for _, c := range ledgers() {
		l, total, e := fuel.Losses(c.b)
		if e != api.OK || total != c.total || !slices.Equal(l, c.losses) {
			t.Errorf("%s: Losses = %v, %v, %v, want %v, %v", c.name, l, total, e, c.losses, c.total)
		}
		v, e := fuel.Missing(c.b)
		if e != api.OK || !slices.Equal(v, c.verdicts) {
			t.Errorf("%s: Missing = %v, %v, want %v", c.name, v, e, c.verdicts)
		}
	}
}

// P6.4: what dips and meters must truly have been; all else stays.
func TestRefine(t *testing.T) {
	for _, c := range ledgers() {
		want := copied(c.b)
		for i, s := range spans(want) {
			*s = c.refined[i]
		}
		if b, e := fuel.Refine(c.b); e != api.OK || !equal(b, want) {
			t.Errorf("%s: Refine = %v, %v, want %v", c.name, b, e, want)
		}
	}
}

// P6.4: a move more, behind the others.
func TestPost(t *testing.T) {
	for _, m := range []api.Move{move(1, 2, one(3)), move(0, 1, one(0)), move(2, 0, span(0, 1000000000)), move(0, 1, span(10, 20))} {
		want := book()
		want.Moves = append(want.Moves, m)
		b, e := fuel.Post(book(), m)
		if e != api.OK || !equal(b, want) {
			t.Errorf("Post of %v = %v, %v", m, b, e)
		}
	}
	if b, e := fuel.Post(accounts(ground("a", one(1), one(0)), ground("b", one(0), one(1))), move(0, 1, one(1))); e != api.ErrClash || len(b.Accounts) > 0 {
		t.Error("a book is made good by a move:", b, e)
	}
}

// P6.5: on how many days a camp is heated, worked out by hand.
func TestLasts(t *testing.T) {
	odd := []api.Burn{{Cold: 0, Litres: span(5, 6)}, {Cold: 10, Litres: span(1, 9)}, {Cold: 20, Litres: span(7, 8)}}
	steady := []api.Burn{{Cold: 1000, Litres: one(10)}}
	for i, c := range []struct {
		litres api.Span
		burn   []api.Burn
		cold   []api.Span
		want   api.Span
	}{
		{span(300, 400), burn(), cold(), span(2, 3)},
		// 110 and 160 at most, and 160; 100 and 100 at least, and 150.
		{one(430), burn(), cold(), one(3)},
		{one(429), burn(), cold(), span(2, 3)},
		{one(350), burn(), cold(), span(2, 3)},
		{one(349), burn(), cold(), one(2)},
		{span(269, 270), burn(), cold(), span(1, 2)},
		{one(270), burn(), cold(), one(2)},
		{span(109, 200), burn(), cold(), span(0, 2)},
		{one(199), burn(), cold(), one(1)},
		{span(0, 99), burn(), cold(), one(0)},
		{span(0, 100), burn(), cold(), span(0, 1)},
		{span(0, 1000000000), burn(), nil, one(0)},
		// Warmer than the first one, just below the second one, and at it.
		{one(100), burn(), []api.Span{one(-1000)}, span(0, 1)},
		{one(110), burn(), []api.Span{one(-1)}, one(1)},
		{one(110), burn(), []api.Span{one(199)}, one(1)},
		{one(149), burn(), []api.Span{one(200)}, one(0)},
		{one(159), burn(), []api.Span{one(200)}, span(0, 1)},
		{one(160), burn(), []api.Span{one(1000)}, one(1)},
		{one(110), burn(), []api.Span{span(-1000, 199)}, one(1)},
		{one(159), burn(), []api.Span{span(-1000, 200)}, span(0, 1)},
		{one(149), burn(), []api.Span{span(199, 1000)}, span(0, 1)},
		{one(149), burn(), []api.Span{span(200, 1000)}, one(0)},
		// A colder day may burn less: all that it may be counts.
		{span(8, 9), odd, []api.Span{span(5, 25), one(12)}, span(0, 2)},
		{one(9), odd, []api.Span{span(5, 25)}, one(1)},
		{one(8), odd, []api.Span{span(0, 9), span(20, 30)}, one(1)},
		{one(14), odd, []api.Span{span(0, 9), span(20, 30)}, one(2)},
		{one(6), odd, []api.Span{span(-9, 9)}, one(1)},
		{one(1), odd, []api.Span{span(9, 10)}, span(0, 1)},
		{one(4), odd, []api.Span{one(9)}, one(0)},
		{one(6), odd, []api.Span{span(20, 21)}, one(0)},
		// A day on which it cannot be heated is not left out.
		{one(109), burn(), []api.Span{one(200), one(0), one(0)}, one(0)},
		// Nothing is burnt: all days, also without litres.
		{one(0), []api.Burn{{}}, cold(), one(3)},
		{one(4000), steady, make([]api.Span, 400), one(400)},
		{one(3999), steady, make([]api.Span, 400), one(399)},
		{one(0), []api.Burn{{Litres: span(0, 1)}}, cold(), span(0, 3)},
		{one(1000000000), []api.Burn{{Litres: one(1000000000)}}, cold(), one(1)},
	} {
		if x, e := fuel.Lasts(c.litres, c.burn, c.cold); x != c.want || e != api.OK {
			t.Errorf("%d: Lasts = %v, %v, want %v", i, x, e, c.want)
		}
	}
}

// P6.6: the text of a book, byte for byte.
func TestTexts(t *testing.T) {
	if s, e := fuel.Write(book()); s != text || e != api.OK {
		t.Errorf("Write = %q, %v", s, e)
	}
	if b, row, e := fuel.Read(text); e != api.OK || row != 0 || !equal(b, book()) {
		t.Error(b, row, e)
	}
	greatest := "account tank ground 0 1000000000 0 1000000000\naccount zyxwvuts tank 1000000000 1000000000 0 0\nmove 1 0 0 1000000000\nmove 0 1 0 0\n"
	b := accounts(ground("tank", span(0, 1000000000), span(0, 1000000000)), account("zyxwvuts", one(1000000000), one(0)))
	b.Moves = []api.Move{move(1, 0, span(0, 1000000000)), move(0, 1, one(0))}
	if s, e := fuel.Write(b); s != greatest || e != api.OK {
		t.Errorf("Write = %q, %v", s, e)
	}
	if x, row, e := fuel.Read(greatest); e != api.OK || row != 0 || !equal(x, b) {
		t.Error(x, row, e)
	}
}
