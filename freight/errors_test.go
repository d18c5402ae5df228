package freight_test

import (
	"math"
	"slices"
	"strings"
	"testing"

	"sastrugi/api"
	"sastrugi/freight"
)

// greatestFreight has as much of all as there may be.
func greatestFreight() api.Freight {
	return api.Freight{First: span(0, 199), Last: span(0, 199), Caps: days(200, 0, 1000000), Orders: slices.Repeat([]api.Order{order(1000000, 200, 1000000, 1000000)}, 6)}
}

// freightErrors are freights with the error of each.
var freightErrors = []struct {
	name   string
	change func(f *api.Freight)
	want   api.Errno
}{
	{"as it is", func(f *api.Freight) {}, api.OK},
	{"as much as there may be", func(f *api.Freight) { *f = greatestFreight() }, api.OK},
	{"nothing", func(f *api.Freight) { *f = api.Freight{} }, api.ErrShort},
	{"no days, before First", func(f *api.Freight) { f.Caps, f.First = nil, one(-1) }, api.ErrShort},
	{"one day", func(f *api.Freight) { f.Caps, f.First, f.Last = f.Caps[:1], one(0), one(0) }, api.OK},
	{"most days", func(f *api.Freight) { f.Caps = make([]api.Span, 200) }, api.OK},
	{"too many days, before their own errors", func(f *api.Freight) { f.Caps = days(201, -1, -1) }, api.ErrFull},
	{"a number below", func(f *api.Freight) { f.Caps[0].Lo = -1 }, api.ErrRange},
	{"a number below, before its order", func(f *api.Freight) { f.Caps[0].Hi = -1 }, api.ErrRange},
	{"greatest numbers", func(f *api.Freight) { f.Caps[6] = one(1000000) }, api.OK},
	{"a number above", func(f *api.Freight) { f.Caps[6].Hi = 1000001 }, api.ErrRange},
	{"a number above, before its order", func(f *api.Freight) { f.Caps[6].Lo = 1000001 }, api.ErrRange},
	{"numbers turned, before the next day", func(f *api.Freight) { f.Caps[5], f.Caps[6] = span(3, 2), one(-1) }, api.ErrOrder},
	{"numbers turned, before First", func(f *api.Freight) { f.Caps[6], f.First = span(1, 0), one(-1) }, api.ErrOrder},
	{"numbers far out", func(f *api.Freight) { f.Caps[0] = span(math.MinInt, math.MaxInt) }, api.ErrRange},
	{"First below", func(f *api.Freight) { f.First.Lo = -1 }, api.ErrRange},
	{"First below, before its order", func(f *api.Freight) { f.First.Hi = -1 }, api.ErrRange},
	{"the last day as First", func(f *api.Freight) { f.First = one(6) }, api.OK},
	{"First above", func(f *api.Freight) { f.First.Hi = 7 }, api.ErrRange},
	{"First above, before its order", func(f *api.Freight) { f.First.Lo = 7 }, api.ErrRange},
	{"First turned, before Last", func(f *api.Freight) { f.First, f.Last = span(2, 1), one(-1) }, api.ErrOrder},
	{"First far out", func(f *api.Freight) { f.First = span(math.MinInt, math.MaxInt) }, api.ErrRange},
	{"Last below", func(f *api.Freight) { f.Last.Lo = -1 }, api.ErrRange},
	{"Last below, before its order", func(f *api.Freight) { f.Last.Hi = -1 }, api.ErrRange},
	{"the first day as Last", func(f *api.Freight) { f.Last = one(0) }, api.OK},
	{"the last day as Last", func(f *api.Freight) { f.Last = span(0, 6) }, api.OK},
	{"Last above", func(f *api.Freight) { f.Last.Hi = 7 }, api.ErrRange},
	{"Last above, before its order", func(f *api.Freight) { f.Last.Lo = 7 }, api.ErrRange},
	{"Last turned, before orders", func(f *api.Freight) { f.Last, f.Orders = span(5, 4), nil }, api.ErrOrder},
	{"no orders", func(f *api.Freight) { f.Orders = nil }, api.ErrShort},
	{"one order", func(f *api.Freight) { f.Orders = f.Orders[:1] }, api.OK},
	{"most orders", func(f *api.Freight) { f.Orders = slices.Repeat(f.Orders, 3) }, api.OK},
	{"too many orders, before their own errors", func(f *api.Freight) { f.Orders = make([]api.Order, 7) }, api.ErrFull},
	{"no units", func(f *api.Freight) { f.Orders[0].Units = 0 }, api.ErrRange},
	{"no units, before the next order", func(f *api.Freight) { f.Orders[0].Units, f.Orders[1].Late = 0, 11 }, api.ErrRange},
	{"one unit", func(f *api.Freight) { f.Orders[0].Units = 1 }, api.OK},
	{"most units", func(f *api.Freight) { f.Orders[1].Units = 1000000 }, api.OK},
	{"too many units", func(f *api.Freight) { f.Orders[1].Units = 1000001 }, api.ErrRange},
	{"Due below", func(f *api.Freight) { f.Orders[0].Due = -1 }, api.ErrRange},
	{"the first day as Due", func(f *api.Freight) { f.Orders[0].Due = 0 }, api.OK},
	{"greatest Due", func(f *api.Freight) { f.Orders[0].Due = 200 }, api.OK},
	{"Due above", func(f *api.Freight) { f.Orders[1].Due = 201 }, api.ErrRange},
	{"Due above, before Late above Lost", func(f *api.Freight) { f.Orders[1].Due, f.Orders[1].Late = 201, 11 }, api.ErrRange},
	{"Late below", func(f *api.Freight) { f.Orders[0].Late = -1 }, api.ErrRange},
	{"nothing late", func(f *api.Freight) { f.Orders[0].Late = 0 }, api.OK},
	{"Late above", func(f *api.Freight) { f.Orders[0].Late = 1000001 }, api.ErrRange},
	{"Lost below, below Late", func(f *api.Freight) { f.Orders[0].Lost = -1 }, api.ErrRange},
	{"nothing lost", func(f *api.Freight) { f.Orders[0].Late, f.Orders[0].Lost = 0, 0 }, api.OK},
	{"greatest Lost", func(f *api.Freight) { f.Orders[0].Lost = 1000000 }, api.OK},
	{"Lost above", func(f *api.Freight) { f.Orders[0].Lost = 1000001 }, api.ErrRange},
	{"Late is Lost", func(f *api.Freight) { f.Orders[0].Late = 20 }, api.OK},
	{"Late above Lost, before the next order", func(f *api.Freight) { f.Orders[0].Late, f.Orders[1].Units = 21, 0 }, api.ErrOrder},
	{"an order far out", func(f *api.Freight) { f.Orders[1] = order(math.MaxInt, math.MinInt, math.MaxInt, math.MinInt) }, api.ErrRange},
}

// P8.1: the first error of a freight, which all functions return before any other one.
func TestFreightErrors(t *testing.T) {
	for _, c := range freightErrors {
		f := season()
		c.change(&f)
		bad := api.Winter{First: -1} // without numbers
		a, e1 := freight.Spread(f, bad, nil)
		b, n, e2 := freight.Tell(f, bad, nil)
		s, e3 := freight.Range(f, nil)
		d, e4 := freight.Promise(f, nil)
		g, e5 := freight.Bills(f, bad, nil, -1, -1)
		plan, penalty, e6 := freight.Best(f)
		bound, e7 := freight.Bound(f)
		text, e8 := freight.Write(f)
		if e := freight.Check(f); e != c.want || e6 != e || e7 != e || e8 != e {
			t.Errorf("%s: %v %v %v %v, want %v", c.name, e, e6, e7, e8, c.want)
		}
		if c.want != api.OK && len(plan)+penalty+bound+len(text) > 0 {
			t.Errorf("%s: something beside an error: %v %d %d %q", c.name, plan, penalty, bound, text)
		}
		want := c.want
		if want == api.OK {
			want = api.ErrForm // the winter and the plan are wrong
		}
		if e1 != want || e2 != want || e3 != want || e4 != want || e5 != want {
			t.Errorf("%s: %v %v %v %v %v, want %v", c.name, e1, e2, e3, e4, e5, want)
		}
		if len(a)+len(b)+n+len(d)+len(g) > 0 || s != one(0) {
			t.Errorf("%s: something beside an error: %v %v %d %v %v %v", c.name, a, b, n, s, d, g)
		}
	}
}

// P8.2, P8.3 and P8.6: the first error of a winter, before that of a plan or of a way.
func TestWinterErrors(t *testing.T) {
	for _, c := range []struct {
		name   string
		change func(w *api.Winter)
		want   api.Errno
	}{
		{"as it is", func(w *api.Winter) {}, api.OK},
		{"no numbers, before the days", func(w *api.Winter) { w.Caps, w.First = nil, 0 }, api.ErrForm},
		{"a number less", func(w *api.Winter) { w.Caps = w.Caps[:6] }, api.ErrForm},
		{"a number more", func(w *api.Winter) { w.Caps = append(w.Caps, 2) }, api.ErrForm},
		{"too early", func(w *api.Winter) { w.First = 0 }, api.ErrRange},
		{"the earliest first day", func(w *api.Winter) { w.First = 1 }, api.OK},
		{"too late", func(w *api.Winter) { w.First = 3 }, api.ErrRange},
		{"ends too early", func(w *api.Winter) { w.Last = 3 }, api.ErrRange},
		{"the latest last day", func(w *api.Winter) { w.Last = 5 }, api.OK},
		{"ends too late", func(w *api.Winter) { w.Last = 6 }, api.ErrRange},
		{"too little on the first day", func(w *api.Winter) { w.Caps[0] = 1 }, api.ErrRange},
		{"most on a day", func(w *api.Winter) { w.Caps[3] = 3 }, api.OK},
		{"too much on the last day", func(w *api.Winter) { w.Caps[6] = 4 }, api.ErrRange},
		{"far out", func(w *api.Winter) { w.First, w.Last, w.Caps[0] = math.MinInt, math.MaxInt, math.MinInt }, api.ErrRange},
	} {
		w := hard()
		c.change(&w)
		want := c.want
		if want == api.OK {
			want = api.ErrForm // the plan and the way are none
		}
		a, e1 := freight.Spread(season(), w, nil)
		b, n, e2 := freight.Tell(season(), w, [][]int{{-1}, {-1}, {-1}})
		d, e3 := freight.Bills(season(), w, nil, -1, -1)
		if e1 != want || e2 != want || e3 != want || len(a)+len(b)+n+len(d) > 0 {
			t.Errorf("%s: %v %v %v, want %v", c.name, e1, e2, e3, want)
		}
		if way, e := freight.Spread(season(), w, []int{0, 1}); e != c.want || (len(way) == 0) != (e != api.OK) {
			t.Errorf("%s: Spread = %v, %v, want %v", c.name, way, e, c.want)
		}
	}
}

// P8.2 and P8.4: lists that are plans, and lists that are not.
func TestPlanErrors(t *testing.T) {
	f := three()
	for _, c := range []struct {
		plan []int
		want api.Errno
	}{
		{[]int{0, 1, 2}, api.OK},
		{[]int{2, 0, 1}, api.OK},
		{nil, api.ErrForm},
		{[]int{0, 1}, api.ErrForm},
		{[]int{0, 1, 2, 0}, api.ErrForm},
		{[]int{0, 1, 1}, api.ErrForm},
		{[]int{0, 0, 2}, api.ErrForm},
		{[]int{1, 2, 1}, api.ErrForm},
		{[]int{0, 1, 3}, api.ErrForm},
		{[]int{-1, 0, 1}, api.ErrForm},
		{[]int{math.MinInt, math.MaxInt, 0}, api.ErrForm},
		{make([]int, 100), api.ErrForm},
	} {
		way, e1 := freight.Spread(f, winterOf(f), c.plan)
		s, e2 := freight.Range(f, c.plan)
		l, e3 := freight.Promise(f, c.plan)
		if e1 != c.want || e2 != c.want || e3 != c.want {
			t.Errorf("%v: %v %v %v, want %v", c.plan, e1, e2, e3, c.want)
		}
		if c.want != api.OK && (len(way)+len(l) > 0 || s != one(0)) {
			t.Errorf("%v: something beside an error: %v %v %v", c.plan, way, s, l)
		}
	}
}

// P8.3 and P8.6: what is wrong with a way of delivering, and with a rate and a road.
func TestWayErrors(t *testing.T) {
	none := make([]int, 7)
	on := func(day, n int) []int {
		l := slices.Clone(none)
		l[day] = n
		return l
	}
	for _, c := range []struct {
		name string
		way  [][]int
		want api.Errno
	}{
		{"nothing goes", [][]int{none, none}, api.OK},
		{"nothing", nil, api.ErrForm},
		{"an order less", [][]int{none}, api.ErrForm},
		{"an order more", [][]int{none, none, none}, api.ErrForm},
		{"a day less, before a number below", [][]int{on(0, -1), none[:6]}, api.ErrForm},
		{"a day more", [][]int{append(slices.Clone(none), 0), none}, api.ErrForm},
		{"days without numbers", [][]int{nil, none}, api.ErrForm},
		{"a number below", [][]int{none, on(6, -1)}, api.ErrRange},
		{"a number below, before a day on which too many go", [][]int{on(2, 9), on(6, -1)}, api.ErrRange},
		{"a number above", [][]int{on(0, 1000001), none}, api.ErrRange},
		{"a number above, the other below", [][]int{on(3, math.MaxInt), on(3, math.MinInt)}, api.ErrRange},
		{"a great number", [][]int{on(3, 1000000), none}, api.ErrClash},
		{"before the first day", [][]int{on(1, 1), none}, api.ErrClash},
		{"on the first day", [][]int{on(2, 2), none}, api.OK},
		{"on the last day", [][]int{none, on(4, 2)}, api.OK},
		{"behind the last day", [][]int{none, on(5, 1)}, api.ErrClash},
		{"too many of one order", [][]int{on(3, 3), none}, api.ErrClash},
		{"too many together", [][]int{on(3, 1), on(3, 2)}, api.ErrClash},
		{"as many as may", [][]int{on(3, 1), on(3, 1)}, api.OK},
		{"more than an order has", [][]int{{0, 0, 2, 2, 1, 0, 0}, none}, api.ErrOver},
		{"all of the other one", [][]int{none, {0, 0, 2, 2, 1, 0, 0}}, api.OK},
		{"more than the other one has", [][]int{none, {0, 0, 2, 2, 2, 0, 0}}, api.ErrOver},
		{"more than an order has, after a day on which too many go", [][]int{{0, 0, 2, 2, 1, 1, 0}, none}, api.ErrClash},
	} {
		l, n, e := freight.Tell(season(), hard(), c.way)
		if e != c.want || e != api.OK && len(l)+n > 0 {
			t.Errorf("%s: Tell = %v, %d, %v, want %v", c.name, l, n, e, c.want)
		}
		if l, e := freight.Bills(season(), hard(), c.way, 0, 0); e != c.want || e != api.OK && len(l) > 0 {
			t.Errorf("%s: Bills = %v, %v, want %v", c.name, l, e, c.want)
		}
		want := c.want
		if want == api.OK {
			want = api.ErrRange
		}
		for _, x := range [][2]int{{-1, 0}, {1000001, 0}, {0, -1}, {0, 1000000000001}, {math.MinInt, math.MaxInt}} {
			if l, e := freight.Bills(season(), hard(), c.way, x[0], x[1]); e != want || len(l) > 0 {
				t.Errorf("%s: Bills with %v = %v, %v, want %v", c.name, x, l, e, want)
			}
		}
	}
}

// P8.6: what cannot be shared.
func TestShareErrors(t *testing.T) {
	for _, c := range []struct {
		name    string
		amount  int
		weights []int
		want    api.Errno
	}{
		{"most", 1000000000000, slices.Repeat([]int{1000000}, 40), api.OK},
		{"too much, before no weights", 1000000000001, nil, api.ErrRange},
		{"below, before too many weights", -1, make([]int, 41), api.ErrRange},
		{"far out", math.MinInt, []int{1}, api.ErrRange},
		{"no weights", 0, nil, api.ErrShort},
		{"too many weights, before their own errors", 1, slices.Repeat([]int{-1}, 41), api.ErrFull},
		{"a weight below", 1, []int{1, -1}, api.ErrRange},
		{"a weight above", 1, []int{1000001, 1}, api.ErrRange},
		{"weights far out", 1, []int{math.MinInt, math.MaxInt}, api.ErrRange},
	} {
		if l, e := freight.Share(c.amount, c.weights); e != c.want || (len(l) == 0) != (e != api.OK) {
			t.Errorf("%s: Share = %v, %v, want %v", c.name, l, e, c.want)
		}
	}
}

// P8.7: texts that are no season files.
func TestTextErrors(t *testing.T) {
	const head = "season 0 0 0 0\ncap 1 1\n"
	full := head + strings.Repeat("order 1 0 0 0\n", 6)
	for _, c := range []struct {
		text string
		row  int
		want api.Errno
	}{
		{head + "order 1 0 0 0\n", 0, api.OK},
		{full, 0, api.OK},
		{full + "order 1 0 0 0\n", 0, api.ErrFull},
		{"", 1, api.ErrForm},
		{"\n", 1, api.ErrForm},
		{"season 0 0 0 0", 1, api.ErrForm},
		{"season 0 0 0 0\n", 0, api.ErrShort},
		{head, 0, api.ErrShort},
		{"season 0 0 0 0\norder 1 0 0 0\n", 0, api.ErrShort},
		{"season 0 0 0\n", 1, api.ErrForm},
		{"season 0 0 0 0 0\n", 1, api.ErrForm},
		{"seasons 0 0 0 0\n", 1, api.ErrForm},
		{"cap 1 1\n" + head, 1, api.ErrForm},
		{"order 1 0 0 0\n", 1, api.ErrForm},
		{head + "season 0 0 0 0\n", 3, api.ErrForm},
		{head + "cap 1\n", 3, api.ErrForm},
		{head + "cap 1 1 1\n", 3, api.ErrForm},
		{head + "cap 1 1\norder 1 0 0 0\n", 0, api.OK},
		{head + "order 1 0 0 0\ncap 1 1\n", 4, api.ErrForm},
		{head + "order 1 0 0 0\ncap 1 1\nx\n", 4, api.ErrForm},
		{head + "order 1 0 0\n", 3, api.ErrForm},
		{head + "order 1 0 0 0 0\n", 3, api.ErrForm},
		{head + "Order 1 0 0 0\n", 3, api.ErrForm},
		{head + "order 1 0 0 00\n", 3, api.ErrForm},
		{head + "order 01 0 0 0\n", 3, api.ErrForm},
		{head + "order 1 0 0 -0\n", 3, api.ErrForm},
		{head + "order 1 0 0 -1\n", 3, api.ErrForm},
		{head + "order 1 0 0 +1\n", 3, api.ErrForm},
		{head + "order 1 0 0 a\n", 3, api.ErrForm},
		{head + "order 1 0 0 0", 3, api.ErrForm},
		{head + "order 1 0 0 0\n ", 4, api.ErrForm},
		{head + "order 1 0 0 0\n\n", 4, api.ErrForm},
		{head + "order 1 0 0 0 \n", 3, api.ErrForm},
		{head + " order 1 0 0 0\n", 3, api.ErrForm},
		{head + "order  1 0 0 0\n", 3, api.ErrForm},
		{head + "order\t1 0 0 0\n", 3, api.ErrForm},
		{head + "order 1 0 0 0\r\n", 3, api.ErrForm},
		{head + "\n", 3, api.ErrForm},
		{head + "order 1 0 0 1234567890\n", 3, api.ErrForm},
		{head + "order 1 0 0 123456789\n", 0, api.ErrRange},
		{head + "order 1 0 2 1\n", 0, api.ErrOrder},
		{"season 999999999 0 0 0\ncap 1 1\norder 1 0 0 0\n", 0, api.ErrRange},
		{"season 0 1 0 0\ncap 1 1\norder 1 0 0 0\n", 0, api.ErrRange},
		{"season 0 0 0 0\ncap 2 1\norder 1 0 0 0\n", 0, api.ErrOrder},
		{"season 0 0 0 0\n" + strings.Repeat("cap 1 1\n", 200) + "order 1 0 0 0\n", 0, api.OK},
		{"season 0 0 0 0\n" + strings.Repeat("cap 1 1\n", 201) + "order 1 0 0 0\n", 0, api.ErrFull},
		{strings.Repeat("x", 20000), 1, api.ErrForm},
		{strings.Repeat("x", 20001), 0, api.ErrLong},
		{"season 0 0 0 0\n" + strings.Repeat("cap 1 1\n", 2498) + "\n", 2500, api.ErrForm},
		{"season 0 0 0 0\n" + strings.Repeat("cap 1 1\n", 2498) + "\n\n", 0, api.ErrLong},
	} {
		f, row, e := freight.Read(c.text)
		if row != c.row || e != c.want || e != api.OK && !equal(f, api.Freight{}) {
			t.Errorf("Read(%.60q) = %v, %d, %v, want %d, %v", c.text, f, row, e, c.row, c.want)
		}
	}
}
