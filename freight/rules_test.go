package freight_test

import (
	"math"
	"math/rand"
	"reflect"
	"slices"
	"testing"

	"sastrugi/api"
	"sastrugi/freight"
)

// wild returns a number of any kind: near the bounds, far out, or usual.
func wild(r *rand.Rand) int {
	edges := [...]int{math.MinInt, math.MinInt + 1, -1, 0, 1, 2, 3, 5, 6, 7, 40, 199, 200, 201, 1000000, 1000001, 1000000000000, 1000000000001, math.MaxInt - 1, math.MaxInt}
	return edges[r.Intn(len(edges))]
}

func wildSpan(r *rand.Rand) api.Span {
	if r.Intn(2) == 0 {
		return one(wild(r))
	}
	return span(wild(r), wild(r))
}

// wilds are numbers of which few are wild.
func wilds(r *rand.Rand, n, good int) []int {
	list := make([]int, n)
	for i := range list {
		list[i] = r.Intn(good)
		if r.Intn(40) == 0 {
			list[i] = wild(r)
		}
	}
	return list
}

// wildFreight is a freight of which some parts may have any value.
func wildFreight(r *rand.Rand) api.Freight {
	f := someFreight(r, size{8, 4, 5, 9, 9, 3})
	switch r.Intn(40) {
	case 0:
		f.Caps = slices.Repeat(f.Caps, 60*r.Intn(2))
	case 1:
		f.Orders = slices.Repeat(f.Orders, 3*r.Intn(3))
	case 2:
		f.First = wildSpan(r)
	case 3:
		f.Last = wildSpan(r)
	}
	for i := range f.Caps {
		if r.Intn(100) == 0 {
			f.Caps[i] = wildSpan(r)
		}
	}
	for i := range f.Orders {
		o := &f.Orders[i]
		switch r.Intn(50) {
		case 0:
			o.Units = wild(r)
		case 1:
			o.Due = wild(r)
		case 2:
			o.Late = wild(r)
		case 3:
			o.Lost = wild(r)
		}
	}
	return f
}

// wildWinter is a winter of which some parts may have any value.
func wildWinter(r *rand.Rand, f api.Freight) api.Winter {
	w := api.Winter{First: f.First.Hi, Last: f.Last.Lo}
	for _, c := range f.Caps {
		w.Caps = append(w.Caps, c.Lo)
	}
	switch r.Intn(20) {
	case 0:
		w.First = wild(r)
	case 1:
		w.Last = wild(r)
	case 2:
		w.Caps = wilds(r, len(w.Caps)+r.Intn(2), 5)
	}
	return w
}

// wildWay is a list of lists of numbers that may be a way of delivering.
func wildWay(r *rand.Rand, f api.Freight) [][]int {
	var way [][]int
	for range len(f.Orders) + r.Intn(10)/9 {
		way = append(way, wilds(r, len(f.Caps)+r.Intn(20)/19, 2))
	}
	return way
}

// bare checks that there is nothing beside an error.
func bare(t *testing.T, name string, e api.Errno, results int) {
	t.Helper()
	if e != api.OK && results != 0 {
		t.Fatalf("%s returns %v and something else", name, e)
	}
}

// P1, R3 and R5: freights of any value give an error, or results; none panics, and with an error there are no results.
func TestAnyFreight(t *testing.T) {
	r := rand.New(rand.NewSource(113))
	seen, told := map[api.Errno]int{}, map[api.Errno]int{}
	for range 10000 {
		f := wildFreight(r)
		w, plan, way := wildWinter(r, f), r.Perm(min(len(f.Orders), 9)), wildWay(r, f)
		if r.Intn(10) == 0 {
			plan = wilds(r, r.Intn(8), 4)
		}
		seen[freight.Check(f)]++
		l, e := freight.Spread(f, w, plan)
		bare(t, "Spread", e, len(l))
		list, n, e := freight.Tell(f, w, way)
		bare(t, "Tell", e, len(list)+n)
		told[e]++
		s, e := freight.Range(f, plan)
		bare(t, "Range", e, s.Lo|s.Hi)
		verdicts, e := freight.Promise(f, plan)
		bare(t, "Promise", e, len(verdicts))
		best, n, e := freight.Best(f)
		bare(t, "Best", e, len(best)+n)
		n, e = freight.Bound(f)
		bare(t, "Bound", e, n)
		bills, e := freight.Bills(f, w, way, wild(r), wild(r))
		bare(t, "Bills", e, len(bills))
		shares, e := freight.Share(wild(r), wilds(r, r.Intn(42), 9))
		bare(t, "Share", e, len(shares))
		text, e := freight.Write(f)
		bare(t, "Write", e, len(text))
	}
	for _, e := range []api.Errno{api.OK, api.ErrRange, api.ErrShort, api.ErrFull, api.ErrOrder} {
		if seen[e] < 20 {
			t.Error("too few of each error:", seen)
		}
	}
	for _, e := range []api.Errno{api.OK, api.ErrForm, api.ErrRange, api.ErrClash, api.ErrOver} {
		if told[e] < 20 {
			t.Error("too few of each error of ways:", told)
		}
	}
}

// P1 and R5: any text is read, or not.
func TestAnyText(t *testing.T) {
	r := rand.New(rand.NewSource(114))
	words := []string{"season", "cap", "order", " ", "\n", "0", "12", "-", "\x00", "é", "\xff", "999999999", "9999999999999999999999"}
	for range 20000 {
		text := ""
		for range r.Intn(12) {
			text += words[r.Intn(len(words))]
		}
		f, row, e := freight.Read(text)
		if e == api.OK && row != 0 || e != api.OK && !equal(f, api.Freight{}) || row != wrongRow(text) {
			t.Fatalf("Read(%q) = %v, %d, %v", text, f, row, e)
		}
	}
}

// P1, P8.5 and R7: as much of all as there may be.
func TestGreatestFreight(t *testing.T) {
	f, plan := greatestFreight(), []int{5, 4, 3, 2, 1, 0}
	if s, e := freight.Range(f, plan); e != api.OK || s != span(0, 6000000000000) {
		t.Error(s, e)
	}
	if l, e := freight.Promise(f, plan); e != api.OK || !slices.Equal(l, slices.Repeat([]int{api.Open}, 6)) {
		t.Error(l, e)
	}
	if l, n, e := freight.Best(f); e != api.OK || n != 6000000000000 || !slices.Equal(l, []int{0, 1, 2, 3, 4, 5}) {
		t.Error(l, n, e)
	}
	if n, e := freight.Bound(f); e != api.OK || n != 6000000000000 {
		t.Error(n, e)
	}
	f.First, f.Last, f.Caps = one(0), one(199), days(200, 29999, 29999)
	for i := range f.Orders {
		f.Orders[i].Late, f.Orders[i].Due = 999999-i, 0
	}
	// On the day 0 29999 units of the order 0 are in time, all other units are late, but 200 are lost: by the best plan those of the order 1. A way could lose some of the order 0 instead.
	late := 0
	for _, o := range f.Orders {
		late += 1000000 * o.Late
	}
	if l, n, e := freight.Best(f); e != api.OK || !slices.Equal(l, []int{0, 2, 3, 4, 5, 1}) || n != late-29999*999999+200*2 {
		t.Error(l, n, e)
	}
	if n, e := freight.Bound(f); e != api.OK || n != late-29999*999999+200*1 {
		t.Error(n, e)
	}
	text, e := freight.Write(greatestFreight())
	if e != api.OK || len(text) > 5000 {
		t.Error("no season file is too long:", len(text), e)
	}
}

// P1, P8.3 and P8.6: ways with numbers as great as may be.
func TestGreatestWay(t *testing.T) {
	f := greatestFreight()
	w, way := api.Winter{Last: 199, Caps: slices.Repeat([]int{1000000}, 200)}, make([][]int, 6)
	for i := range way {
		way[i] = make([]int, 200)
		way[i][i] = 1000000
	}
	if l, n, e := freight.Tell(f, w, way); e != api.OK || n != 0 || l[5] != (api.Delivery{OnTime: 1000000, Day: 5}) {
		t.Error(l, n, e)
	}
	if l, e := freight.Bills(f, w, way, 1000000, 1000000000000); e != api.OK || l[0] != 1166666666667 || l[5] != 1166666666666 {
		t.Error(l, e)
	}
	for i := range way {
		way[i] = slices.Repeat([]int{1000000}, 200)
	}
	if _, _, e := freight.Tell(f, w, way); e != api.ErrClash {
		t.Error(e)
	}
	for i := range way[1:] {
		way[i+1] = make([]int, 200)
	}
	if _, _, e := freight.Tell(f, w, way); e != api.ErrOver {
		t.Error(e)
	}
}

// R4: arguments are neither changed nor kept, and results share no memory with them or with each other.
func TestArgumentsStay(t *testing.T) {
	f, w := three(), winterOf(three())
	plan, weights := append(make([]int, 0, 9), 0, 2, 1), append(make([]int, 0, 9), 0, 0, 0)
	way := [][]int{{0, 0, 1}, {0, 2, 0}, {1, 0, 1}}
	f.Caps, f.Orders = append(make([]api.Span, 0, 9), f.Caps...), append(make([]api.Order, 0, 9), f.Orders...)
	w.Caps = append(make([]int, 0, 9), w.Caps...)
	all := func() []any {
		a, _ := freight.Spread(f, w, plan)
		b, _, _ := freight.Tell(f, w, way)
		c, _ := freight.Promise(f, plan)
		d, _, _ := freight.Best(f)
		g, _ := freight.Share(7, weights)
		h, _ := freight.Bills(f, w, way, 1, 7)
		text, _ := freight.Write(f)
		i, _, _ := freight.Read(text)
		return []any{a, a[0], a[1], a[2], b, c, d, g, h, i.Caps, i.Orders}
	}
	stay := func() bool {
		return equal(f, three()) && reflect.DeepEqual(w, winterOf(three())) && same(way, [][]int{{0, 0, 1}, {0, 2, 0}, {1, 0, 1}}) &&
			slices.Equal(plan[:9], []int{0, 2, 1, 0, 0, 0, 0, 0, 0}) && slices.Equal(weights[:9], make([]int, 9)) &&
			slices.Equal(w.Caps[3:9], make([]int, 6)) && slices.Equal(f.Caps[3:9], make([]api.Span, 6)) && slices.Equal(f.Orders[3:9], make([]api.Order, 6))
	}
	first, second, again := all(), all(), all()
	if !stay() {
		t.Error("an argument, or the memory behind one, was changed:", f, w, plan, way, weights)
	}
	for i, x := range first {
		v := reflect.ValueOf(x)
		if v.Len() == 0 {
			t.Errorf("the result %d is meant to have something", i)
		}
		for k := range v.Len() {
			v.Index(k).SetZero()
		}
	}
	if !reflect.DeepEqual(second, again) || !reflect.DeepEqual(all(), second) || !stay() {
		t.Error("results share memory, or depend on what was called before")
	}
}

// R4: the rows of a way share no memory, also behind their ends.
func TestRowsOfAWayAreApart(t *testing.T) {
	way, e := freight.Spread(season(), mild(), []int{0, 1})
	if e != api.OK {
		t.Fatal(e)
	}
	want := slices.Clone(way[1])
	clear(way[0][:cap(way[0])])
	if !slices.Equal(way[1], want) {
		t.Error(way)
	}
}

// R4: a nil slice and an empty one are equal.
func TestEmptyIsNil(t *testing.T) {
	for _, none := range [][]int{nil, {}} {
		_, e1 := freight.Spread(season(), api.Winter{First: 1, Last: 4, Caps: none}, none)
		_, e2 := freight.Range(season(), none)
		_, e3 := freight.Share(1, none)
		_, _, e4 := freight.Tell(season(), hard(), [][]int{none, none})
		if e1 != api.ErrForm || e2 != api.ErrForm || e3 != api.ErrShort || e4 != api.ErrForm {
			t.Error(e1, e2, e3, e4)
		}
	}
	for _, f := range []api.Freight{{}, {Caps: []api.Span{}, Orders: []api.Order{}}} {
		if e := freight.Check(f); e != api.ErrShort {
			t.Error(e)
		}
		f.Caps = days(1, 0, 0)
		if e := freight.Check(f); e != api.ErrShort {
			t.Error(e)
		}
	}
	if _, _, e := freight.Tell(season(), hard(), [][]int{}); e != api.ErrForm {
		t.Error(e)
	}
}
