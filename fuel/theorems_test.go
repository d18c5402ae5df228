package fuel_test

import (
	"math/rand"
	"slices"
	"testing"

	"sastrugi/api"
	"sastrugi/fuel"
)

// within tells whether a number lies in a span.
func within(n int, s api.Span) bool { return s.Lo <= n && n <= s.Hi }

// narrower tells whether a span lies in another one.
func narrower(a, b api.Span) bool { return b.Lo <= a.Lo && a.Hi <= b.Hi }

// found is what is found out about a book.
type found struct {
	losses   []api.Span
	total    api.Span
	verdicts []int
	refined  api.Book
}

func find(t *testing.T, b api.Book) (x found) {
	t.Helper()
	var e1, e2, e3 api.Errno
	x.losses, x.total, e1 = fuel.Losses(b)
	x.verdicts, e2 = fuel.Missing(b)
	x.refined, e3 = fuel.Refine(b)
	if e1 != api.OK || e2 != api.OK || e3 != api.OK {
		t.Fatalf("what is missing in %v: %v, %v, %v", b, e1, e2, e3)
	}
	return x
}

// verdict returns what a span says about whether a litre or more is lost.
func verdict(s api.Span) int {
	switch {
	case s.Lo >= 1:
		return api.Sure
	case s.Hi == 0:
		return api.Never
	}
	return api.Open
}

// widest are the spans of numbers that are added to them.
type widest struct {
	list []api.Span
	any  bool
}

func (w *widest) add(numbers []int) {
	if !w.any {
		w.any = true
		for _, n := range numbers {
			w.list = append(w.list, one(n))
		}
	}
	for i, n := range numbers {
		w.list[i] = span(min(w.list[i].Lo, n), max(w.list[i].Hi, n))
	}
}

// P6.2, P6.3, P6.4, P6.7, P6.8 and P6.9: small books against all their truths.
func TestBooksAreExact(t *testing.T) {
	r := rand.New(rand.NewSource(71))
	seen := map[string]int{}
	for range 3000 {
		b := small(r)
		var numbers, losses widest
		for x := range truths(b) {
			numbers.add(x)
			losses.add(lossesOf(t, b, truthOf(b, x)))
		}
		if !numbers.any {
			seen["none"]++
			if e := fuel.Check(b); e != api.ErrClash {
				t.Fatalf("Check(%v) = %v", b, e)
			}
			continue
		}
		x, want := find(t, b), copied(b)
		for i, s := range spans(want) {
			*s = numbers.list[i]
		}
		last := len(b.Accounts)
		if !slices.Equal(x.losses, losses.list[:last]) || x.total != losses.list[last] || !equal(x.refined, want) {
			t.Fatalf("of %v is known %v, want %v and %v", b, x, losses.list, want)
		}
		for i, s := range x.losses {
			if x.verdicts[i] != verdict(s) {
				t.Fatalf("Missing(%v) = %v", b, x.verdicts)
			}
		}
		if equal(want, b) {
			seen["as it was"]++
		} else {
			seen["refined"]++
		}
		if losses.list[last].Lo > 0 {
			seen["surely lost"]++
		}
	}
	for _, kind := range []string{"none", "as it was", "refined", "surely lost"} {
		if seen[kind] < 100 {
			t.Error("too few of each kind:", seen)
		}
	}
}

// lossesOf returns what accounts lose in a truth, and together.
func lossesOf(t *testing.T, b api.Book, x api.Truth) []int {
	t.Helper()
	l, e := fuel.Balance(b, x)
	if e != api.OK || len(l) != len(b.Accounts) {
		t.Fatalf("Balance(%v, %v) = %v, %v", b, x, l, e)
	}
	all, before, behind := 0, 0, 0
	for i := range l {
		if l[i] != loses(b, x, i) {
			t.Fatalf("Balance(%v, %v) = %v", b, x, l)
		}
		all += l[i]
		before += x.Open[i]
		behind += x.Close[i]
	}
	// P6.9: to the litre.
	if before != behind+all {
		t.Fatalf("%v of %v: %d in the beginning, %d in the end, %d lost", x, b, before, behind, all)
	}
	return append(l, all)
}

// P6.2: what is not a truth clashes.
func TestBalanceTellsTruths(t *testing.T) {
	r := rand.New(rand.NewSource(72))
	good, bad := 0, 0
	for range 3000 {
		b := small(r)
		if fuel.Check(b) != api.OK {
			continue
		}
		var numbers []int
		for _, s := range spans(b) {
			numbers = append(numbers, s.Lo+r.Intn(s.Hi-s.Lo+1))
		}
		x := truthOf(b, numbers)
		if isTruth(b, x) {
			lossesOf(t, b, x)
			good++
		} else if l, e := fuel.Balance(b, x); e != api.ErrClash || len(l) > 0 {
			t.Fatalf("Balance(%v, %v) = %v, %v", b, x, l, e)
		} else {
			bad++
		}
	}
	if good < 100 || bad < 100 {
		t.Error("too few of each kind:", good, bad)
	}
}

// pipe is a part of a truth that may be raised or lowered: litres from one account to another one.
type pipe struct {
	from, to, now int
	bounds        api.Span
}

// pipes are all parts of a truth: the accounts' Open and Close, the moves, and what each account loses. All losses go through one place, from which the last pipe goes outside.
func pipes(b api.Book, x api.Truth) (list []pipe) {
	gone, outside := len(b.Accounts), len(b.Accounts)+1
	all := 0
	for i, a := range b.Accounts {
		list = append(list, pipe{outside, i, x.Open[i], a.Open})
		all += loses(b, x, i)
	}
	for i, a := range b.Accounts {
		list = append(list, pipe{i, outside, x.Close[i], a.Close})
	}
	for i, m := range b.Moves {
		list = append(list, pipe{m.From, m.To, x.Moved[i], m.Litres})
	}
	for i, a := range b.Accounts {
		most := 1 << 40
		if a.Kind == api.AccountGround {
			most = 0
		}
		list = append(list, pipe{i, gone, loses(b, x, i), span(0, most)})
	}
	return append(list, pipe{gone, outside, all, span(0, 1<<40)})
}

// push raises (or lowers) a pipe of a truth as far as can be, by litres that go round through others, and returns what it has then.
func push(list []pipe, i int, raise bool) int {
	list = slices.Clone(list)
	for {
		start, goal, room := list[i].to, list[i].from, list[i].bounds.Hi-list[i].now
		if !raise {
			start, goal, room = goal, start, list[i].now-list[i].bounds.Lo
		}
		steps := way(list, i, start, goal)
		if room == 0 || steps == nil {
			return list[i].now
		}
		for _, s := range steps {
			room = min(room, s.room)
		}
		for _, s := range steps {
			list[s.pipe].now += s.sign * room
		}
		if raise {
			list[i].now += room
		} else {
			list[i].now -= room
		}
	}
}

// step is a pipe on a way, which is raised or lowered, and by how much it may be.
type step struct{ pipe, sign, room int }

// way returns the shortest way from one account to another one over pipes that may be raised, or lowered the other way round, without one of them; nil if there is none.
func way(list []pipe, without, from, to int) []step {
	ways := map[int][]step{from: nil}
	for queue := []int{from}; len(queue) > 0; queue = queue[1:] {
		here := queue[0]
		for k, p := range list {
			s, there := step{k, 1, p.bounds.Hi - p.now}, p.to
			if p.from != here {
				s, there = step{k, -1, p.now - p.bounds.Lo}, p.from
			}
			if _, been := ways[there]; k == without || p.from != here && p.to != here || s.room == 0 || been {
				continue
			}
			ways[there] = append(slices.Clone(ways[here]), s)
			queue = append(queue, there)
		}
	}
	return ways[to]
}

// P6.3, P6.4, P6.7 and P6.8: books as large as any, against raising and lowering each part of a truth as far as can be.
func TestLargeBooksAreExact(t *testing.T) {
	r := rand.New(rand.NewSource(73))
	sizes, refined := map[int]int{}, 0
	for i := range 400 {
		b, x := large(r, []int{20, 1000, 1000000, 30000000}[i%4], []int{3, 30, 500}[i%3])
		lossesOf(t, b, x)
		known := find(t, b)
		var got []api.Span
		for _, s := range spans(known.refined) {
			got = append(got, *s)
		}
		got = append(append(got, known.losses...), known.total)
		list := pipes(b, x)
		for k, p := range list {
			want := span(push(list, k, false), push(list, k, true))
			if got[k] != want || !within(p.now, want) {
				t.Fatalf("of the part %d of %v is known %v, want %v", k, b, got[k], want)
			}
		}
		sizes[len(b.Accounts)]++
		if !equal(known.refined, b) {
			refined++
		}
	}
	if len(sizes) != 8 || refined < 100 {
		t.Error("too few of each size:", sizes, refined)
	}
}

// P6.8: at each end of what is known there is a truth, and beyond it there is none.
func TestEndsAreTrue(t *testing.T) {
	r := rand.New(rand.NewSource(74))
	beyond := 0
	for range 100 {
		b, _ := large(r, 1000, 30)
		refined := find(t, b).refined
		ends, most := spans(refined), spans(b)
		for i := range most {
			for _, c := range []struct {
				n    int
				want api.Errno
			}{{ends[i].Lo, api.OK}, {ends[i].Hi, api.OK}, {ends[i].Lo - 1, api.ErrClash}, {ends[i].Hi + 1, api.ErrClash}} {
				if !within(c.n, *most[i]) {
					continue
				}
				k := copied(b)
				*spans(k)[i] = one(c.n)
				if e := fuel.Check(k); e != c.want {
					t.Fatalf("%v with the span %d at %d: %v, want %v", b, i, c.n, e, c.want)
				}
				if c.want != api.OK {
					beyond++
				}
			}
		}
	}
	if beyond < 50 {
		t.Error("too few are refined:", beyond)
	}
}

// P6.10: narrower spans, and a move of nothing.
func TestNarrowerBooksHaveNarrowerLosses(t *testing.T) {
	r := rand.New(rand.NewSource(75))
	seen := map[string]int{}
	for range 1000 {
		b, x := large(r, 100, 8)
		wide, fewer := find(t, b), copied(b)
		for i, s := range spans(fewer) {
			n := slices.Concat(x.Open, x.Close, x.Moved)[i]
			*s = span(s.Lo+r.Intn(n-s.Lo+1), s.Hi-r.Intn(s.Hi-n+1))
		}
		fine := find(t, fewer)
		if !narrower(fine.total, wide.total) {
			t.Fatalf("%v loses %v, and better known, %v", b, wide.total, fine.total)
		}
		for i := range fine.losses {
			if !narrower(fine.losses[i], wide.losses[i]) || wide.verdicts[i] != api.Open && fine.verdicts[i] != wide.verdicts[i] {
				t.Fatalf("%v loses %v, and better known, %v", b, wide, fine)
			}
			if fine.verdicts[i] != wide.verdicts[i] {
				seen["decided"]++
			}
		}
		if len(b.Accounts) > 1 && len(b.Moves) < api.MaxMoves {
			nothing(t, r, b, wide)
			seen["posted"]++
		}
	}
	if seen["decided"] < 50 || seen["posted"] < 500 {
		t.Error("too few of each kind:", seen)
	}
}

// nothing posts a move of 0..0 litres, and checks that nothing changes.
func nothing(t *testing.T, r *rand.Rand, b api.Book, was found) {
	t.Helper()
	from := r.Intn(len(b.Accounts))
	m := move(from, (from+1)%len(b.Accounts), one(0))
	more, e := fuel.Post(b, m)
	if e != api.OK {
		t.Fatalf("Post(%v, %v) = %v", b, m, e)
	}
	is := find(t, more)
	was.refined.Moves = append(was.refined.Moves, m)
	if is.total != was.total || !slices.Equal(is.losses, was.losses) || !slices.Equal(is.verdicts, was.verdicts) || !equal(is.refined, was.refined) {
		t.Fatalf("%v with nothing more: %v, was %v", b, is, was)
	}
}

// P6.11: a refined book.
func TestRefinedBooksStay(t *testing.T) {
	r := rand.New(rand.NewSource(76))
	for range 1000 {
		b, _ := large(r, 100, 20)
		was := find(t, b)
		is := find(t, was.refined)
		if is.total != was.total || !slices.Equal(is.losses, was.losses) || !slices.Equal(is.verdicts, was.verdicts) || !equal(is.refined, was.refined) {
			t.Fatalf("%v: refined %v, refined again %v", b, was, is)
		}
	}
}

// someTank is a tank with few litres, and with steps on which it gets none.
func someTank(r *rand.Rand) api.Tank {
	x := api.Tank{Heights: []int{r.Intn(4)}, Litres: []int{r.Intn(4)}}
	for i := range 1 + r.Intn(5) {
		x.Heights = append(x.Heights, x.Heights[i]+1+r.Intn(5))
		x.Litres = append(x.Litres, x.Litres[i]+r.Intn(3)*r.Intn(12))
	}
	return x
}

// P6.1 and P6.12: what is in a tank is between the litres that are returned, and no bounds are narrower.
func TestVolumesAreExact(t *testing.T) {
	r := rand.New(rand.NewSource(77))
	for range 3000 {
		x := someTank(r)
		last := len(x.Heights) - 1
		before := one(0)
		for h := x.Heights[0]; h <= x.Heights[last]; h++ {
			got, e := fuel.Volume(x, one(h))
			if e != api.OK || !volumeIs(x, h, got) {
				t.Fatalf("Volume(%v, %d) = %v, %v", x, h, got, e)
			}
			if got.Lo < before.Lo || got.Hi < before.Hi {
				t.Fatalf("Volume(%v, %d) = %v, and lower %v", x, h, got, before)
			}
			before = got
		}
		dip := inside(r, span(x.Heights[0], x.Heights[last]))
		wide, e1 := fuel.Volume(x, dip)
		low, e2 := fuel.Volume(x, one(dip.Lo))
		high, e3 := fuel.Volume(x, one(dip.Hi))
		fine, e4 := fuel.Volume(x, inside(r, dip))
		if e1 != api.OK || e2 != api.OK || e3 != api.OK || e4 != api.OK || wide != span(low.Lo, high.Hi) || !narrower(fine, wide) {
			t.Fatalf("Volume(%v, %v) = %v, at its ends %v and %v, within it %v", x, dip, wide, low, high, fine)
		}
	}
}

// volumeIs tells whether a span is the least one of whole numbers that has what is in a tank at a height: on a line, the part of its height is that of its litres.
func volumeIs(x api.Tank, h int, s api.Span) bool {
	for i := range len(x.Heights) - 1 {
		if h < x.Heights[i] || h > x.Heights[i+1] {
			continue
		}
		high, part := x.Heights[i+1]-x.Heights[i], (h-x.Heights[i])*(x.Litres[i+1]-x.Litres[i])
		low, up := (s.Lo-x.Litres[i])*high, (s.Hi-x.Litres[i])*high
		if low > part || low+high <= part || up < part || up-high >= part {
			return false
		}
	}
	return true
}

// P6.1 and P6.12: standard litres against all numbers of small spans.
func TestStandardIsExact(t *testing.T) {
	r := rand.New(rand.NewSource(78))
	for range 2000 {
		v, b, temp := some(r, 0, []int{3, 100000, 999999990}[r.Intn(3)], 4), some(r, 0, 200, 5), some(r, -1000, 1000, 20)
		if r.Intn(2) == 0 {
			temp = some(r, 130, 170, 30)
		}
		got, e := fuel.Standard(v, b, temp)
		if e != api.OK || !isStandard(v, b, temp, got) {
			t.Fatalf("Standard(%v, %v, %v) = %v, %v", v, b, temp, got, e)
		}
		fine, e := fuel.Standard(inside(r, v), inside(r, b), inside(r, temp))
		if e != api.OK || !narrower(fine, got) {
			t.Fatalf("Standard(%v, %v, %v) = %v, and within them %v", v, b, temp, got, fine)
		}
	}
}

// isStandard tells whether a span has all standard litres of three spans, and none less than a litre farther out.
func isStandard(v, b, t, s api.Span) bool {
	least, most := 1<<62, 0
	for x := v.Lo; x <= v.Hi; x++ {
		for y := b.Lo; y <= b.Hi; y++ {
			for z := t.Lo; z <= t.Hi; z++ {
				n := x * (1000000 - y*(z-150))
				least, most = min(least, n), max(most, n)
			}
		}
	}
	low, high := s.Lo*1000000, s.Hi*1000000
	return low <= least && least < low+1000000 && most <= high && high-1000000 < most
}

// someBurn is a burn that may fall with cold, or not.
func someBurn(r *rand.Rand, falls bool) (list []api.Burn) {
	at, litres := -10+r.Intn(10), one(0)
	for range 1 + r.Intn(5) {
		if more := some(r, 0, 6, 3); falls {
			litres = more
		} else {
			litres = span(litres.Lo+more.Lo, max(litres.Hi, litres.Lo+more.Lo)+r.Intn(3))
		}
		list = append(list, api.Burn{Cold: at, Litres: litres})
		at += 1 + r.Intn(8)
	}
	return list
}

// burns returns between which litres a camp burns at a true cold, word by word.
func burns(list []api.Burn, cold int) api.Span {
	s := list[0].Litres
	for _, x := range list {
		if x.Cold <= cold {
			s = x.Litres
		}
	}
	return s
}

// lasting returns how many days litres last if each day burns so much.
func lasting(litres int, burnt []int) int {
	n := 0
	for n < len(burnt) && burnt[n] <= litres {
		litres -= burnt[n]
		n++
	}
	return n
}

// P6.5 and P6.13: heating, against all that a day may burn.
func TestLastsIsExact(t *testing.T) {
	r := rand.New(rand.NewSource(79))
	seen := map[string]int{}
	for range 5000 {
		burn, litres := someBurn(r, true), some(r, 0, 25, 10)
		var days []api.Span
		var least, most []int
		for range r.Intn(14) {
			day := some(r, -15, 30, 12)
			days = append(days, day)
			a, b := 1<<40, 0
			for c := day.Lo; c <= day.Hi; c++ {
				a, b = min(a, burns(burn, c).Lo), max(b, burns(burn, c).Hi)
			}
			least, most = append(least, a), append(most, b)
		}
		got, e := fuel.Lasts(litres, burn, days)
		if want := span(lasting(litres.Lo, most), lasting(litres.Hi, least)); e != api.OK || got != want {
			t.Fatalf("Lasts(%v, %v, %v) = %v, %v, want %v", litres, burn, days, got, e, want)
		}
		truly := trulyLasts(r, litres, burn, days)
		if !within(truly, got) {
			t.Fatalf("Lasts(%v, %v, %v) = %v, and truly %d", litres, burn, days, got, truly)
		}
		switch {
		case got.Hi == len(days):
			seen["all"]++
		case got.Lo == got.Hi:
			seen["known"]++
		default:
			seen["open"]++
		}
	}
	for _, kind := range []string{"all", "known", "open"} {
		if seen[kind] < 200 {
			t.Error("too few of each kind:", seen)
		}
	}
}

// trulyLasts returns for how many days litres last in one truth.
func trulyLasts(r *rand.Rand, litres api.Span, burn []api.Burn, days []api.Span) int {
	var burnt []int
	for _, d := range days {
		s := burns(burn, d.Lo+r.Intn(d.Hi-d.Lo+1))
		burnt = append(burnt, s.Lo+r.Intn(s.Hi-s.Lo+1))
	}
	return lasting(litres.Lo+r.Intn(litres.Hi-litres.Lo+1), burnt)
}

// P6.13: more litres, or less cold days, last no fewer days; and what is better known lies within what was known.
func TestMoreLitresLastLonger(t *testing.T) {
	r := rand.New(rand.NewSource(80))
	longer := 0
	for range 3000 {
		burn, litres := someBurn(r, false), some(r, 0, 60, 20)
		var days, mild, known []api.Span
		for range r.Intn(10) {
			d := some(r, -15, 30, 12)
			days = append(days, d)
			low := d.Lo - r.Intn(6)
			mild = append(mild, span(low, low+r.Intn(d.Hi-low+1)))
			known = append(known, inside(r, d))
		}
		lasts := func(litres api.Span, days []api.Span) api.Span {
			x, e := fuel.Lasts(litres, burn, days)
			if e != api.OK {
				t.Fatal(e)
			}
			return x
		}
		was := lasts(litres, days)
		low := litres.Lo + r.Intn(5)
		more := lasts(span(low, max(low, litres.Hi)+r.Intn(9)), days)
		less := lasts(litres, mild)
		if more.Lo < was.Lo || more.Hi < was.Hi || less.Lo < was.Lo || less.Hi < was.Hi {
			t.Fatalf("%v litres of %v last %v on %v, more %v, and on %v %v", litres, burn, was, days, more, mild, less)
		}
		if fine := lasts(inside(r, litres), known); !narrower(fine, was) {
			t.Fatalf("%v litres of %v last %v on %v, and better known %v", litres, burn, was, days, fine)
		}
		if more != was || less != was {
			longer++
		}
	}
	if longer < 300 {
		t.Error("too few last longer:", longer)
	}
}

// P6.6 and P6.14: a book is read from its text, and its text is written again.
func TestFilesAreTheirBooks(t *testing.T) {
	r := rand.New(rand.NewSource(81))
	for i := range 500 {
		b, _ := large(r, []int{5, 30000000}[i%2], 9)
		text, e := fuel.Write(b)
		if e != api.OK {
			t.Fatal(e)
		}
		x, row, e := fuel.Read(text)
		if e != api.OK || row != 0 || !equal(x, b) {
			t.Fatalf("Read(%q) = %v, %d, %v, want %v", text, x, row, e, b)
		}
		if again, e := fuel.Write(x); again != text || e != api.OK {
			t.Fatalf("%q is written as %q, %v", text, again, e)
		}
		damaged(t, r, text)
	}
}

// damaged changes a byte of a text: it is not read any more, or as a book that is written as it stands there.
func damaged(t *testing.T, r *rand.Rand, text string) {
	t.Helper()
	bytes := []byte(text)
	bytes[r.Intn(len(bytes))] = "0123456789 az\nx-"[r.Intn(16)]
	b, row, e := fuel.Read(string(bytes))
	if again, f := fuel.Write(b); e == api.OK && (f != api.OK || again != string(bytes) || row != 0) {
		t.Fatalf("%q is read, and written as %q, %v", bytes, again, f)
	}
	if e != api.OK && !equal(b, api.Book{}) || row > 0 && e != api.ErrForm {
		t.Fatalf("Read(%q) = %v, %d, %v", bytes, b, row, e)
	}
}
