package freight_test

import (
	"slices"
	"strings"
	"testing"

	"sastrugi/api"
	"sastrugi/freight"
)

// three is a freight of three days on which two units each may go, with three orders: 3 units that are in time on the day 0, 2 on the day 1, and 4 on all days.
func three() api.Freight {
	return exact([]int{2, 2, 2}, order(3, 0, 4, 9), order(2, 1, 0, 5), order(4, 9, 1, 1))
}

// P8.2: ways of delivering of plans.
func TestSpread(t *testing.T) {
	uneven := mild()
	uneven.Caps = []int{3, 2, 3, 2, 3, 2, 3}
	short := changed(func(f *api.Freight) { f.First, f.Last = one(3), one(3) })
	shut := changed(func(f *api.Freight) { f.First, f.Last = one(4), one(3) })
	for i, c := range []struct {
		f    api.Freight
		w    api.Winter
		plan []int
		want [][]int
	}{
		{season(), mild(), []int{0, 1}, [][]int{{0, 3, 1, 0, 0, 0, 0}, {0, 0, 2, 3, 0, 0, 0}}},
		{season(), mild(), []int{1, 0}, [][]int{{0, 0, 1, 3, 0, 0, 0}, {0, 3, 2, 0, 0, 0, 0}}},
		{season(), hard(), []int{0, 1}, [][]int{{0, 0, 2, 2, 0, 0, 0}, {0, 0, 0, 0, 2, 0, 0}}},
		{season(), hard(), []int{1, 0}, [][]int{{0, 0, 0, 0, 1, 0, 0}, {0, 0, 2, 2, 1, 0, 0}}},
		// The first day and the last one are open, those before and behind them are not.
		{season(), uneven, []int{0, 1}, [][]int{{0, 2, 2, 0, 0, 0, 0}, {0, 0, 1, 2, 2, 0, 0}}},
		{short, api.Winter{First: 3, Last: 3, Caps: mild().Caps}, []int{1, 0}, [][]int{{0, 0, 0, 0, 0, 0, 0}, {0, 0, 0, 3, 0, 0, 0}}},
		{shut, api.Winter{First: 4, Last: 3, Caps: mild().Caps}, []int{0, 1}, [][]int{make([]int, 7), make([]int, 7)}},
		{three(), winterOf(three()), []int{0, 1, 2}, [][]int{{2, 1, 0}, {0, 1, 1}, {0, 0, 1}}},
		{three(), winterOf(three()), []int{2, 0, 1}, [][]int{{0, 0, 2}, {0, 0, 0}, {2, 2, 0}}},
		{three(), winterOf(three()), []int{1, 2, 0}, [][]int{{0, 0, 0}, {2, 0, 0}, {0, 2, 2}}},
		{exact([]int{0, 9, 9}, order(4, 0, 0, 1)), api.Winter{Last: 2, Caps: []int{0, 9, 9}}, []int{0}, [][]int{{0, 4, 0}}},
	} {
		if way, e := freight.Spread(c.f, c.w, c.plan); e != api.OK || !same(way, c.want) {
			t.Errorf("%d: Spread = %v, %v, want %v", i, way, e, c.want)
		}
	}
}

// P8.3: what ways deliver, and the penalty.
func TestTell(t *testing.T) {
	none := make([]int, 7)
	for i, c := range []struct {
		f       api.Freight
		w       api.Winter
		way     [][]int
		want    []api.Delivery
		penalty int
	}{
		{season(), hard(), [][]int{{0, 0, 0, 0, 1, 0, 0}, {0, 0, 2, 2, 1, 0, 0}}, []api.Delivery{{Late: 1, Lost: 3, Day: -1}, {OnTime: 5, Day: 4}}, 65},
		{season(), hard(), [][]int{{0, 0, 2, 2, 0, 0, 0}, {0, 0, 0, 0, 2, 0, 0}}, []api.Delivery{{OnTime: 4, Day: 3}, {OnTime: 2, Lost: 3, Day: -1}}, 30},
		{season(), mild(), [][]int{{0, 0, 1, 1, 2, 0, 0}, {0, 0, 0, 0, 0, 3, 0}}, []api.Delivery{{OnTime: 2, Late: 2, Day: 4}, {OnTime: 3, Lost: 2, Day: -1}}, 30},
		{season(), mild(), [][]int{{0, 0, 0, 0, 1, 3, 0}, {0, 3, 2, 0, 0, 0, 0}}, []api.Delivery{{Late: 4, Day: 5}, {OnTime: 5, Day: 2}}, 20},
		{season(), hard(), [][]int{none, none}, []api.Delivery{{Lost: 4, Day: -1}, {Lost: 5, Day: -1}}, 130},
		// Units may go on days that are not the first possible ones, and days between may have none.
		{three(), winterOf(three()), [][]int{{0, 0, 1}, {0, 2, 0}, {1, 0, 1}}, []api.Delivery{{Late: 1, Lost: 2, Day: -1}, {OnTime: 2, Day: 1}, {OnTime: 2, Lost: 2, Day: -1}}, 24},
		{exact([]int{1, 1, 1}, order(2, 1, 3, 3)), api.Winter{Last: 2, Caps: []int{1, 1, 1}}, [][]int{{1, 0, 1}}, []api.Delivery{{OnTime: 1, Late: 1, Day: 2}}, 3},
		{exact([]int{1}, order(1, 0, 3, 3)), api.Winter{Caps: []int{1}}, [][]int{{1}}, []api.Delivery{{OnTime: 1}}, 0},
	} {
		l, n, e := freight.Tell(c.f, c.w, c.way)
		if e != api.OK || n != c.penalty || !slices.Equal(l, c.want) {
			t.Errorf("%d: Tell = %v, %d, %v, want %v, %d", i, l, n, e, c.want, c.penalty)
		}
	}
}

// P8.4: what plans cost, and what they promise.
func TestRangeAndPromise(t *testing.T) {
	due := func(order, day int) api.Freight {
		return changed(func(f *api.Freight) { f.Orders[order].Due = day })
	}
	for i, c := range []struct {
		f       api.Freight
		plan    []int
		want    api.Span
		promise []int
	}{
		{season(), []int{0, 1}, span(0, 30), []int{api.Sure, api.Open}},
		{season(), []int{1, 0}, span(0, 65), []int{api.Open, api.Sure}},
		// In the worst winter the order 1 is done on the day 4, in the best one on the day 2.
		{due(1, 4), []int{1, 0}, span(0, 65), []int{api.Open, api.Sure}},
		{due(1, 3), []int{1, 0}, span(0, 66), []int{api.Open, api.Open}},
		{due(1, 2), []int{1, 0}, span(0, 68), []int{api.Open, api.Open}},
		{due(1, 1), []int{1, 0}, span(2, 70), []int{api.Open, api.Never}},
		{due(1, 0), []int{1, 0}, span(5, 70), []int{api.Open, api.Never}},
		{due(1, 200), []int{0, 1}, span(0, 30), []int{api.Sure, api.Open}},
		{three(), []int{0, 1, 2}, one(7), []int{api.Never, api.Never, api.Never}},
		{three(), []int{1, 0, 2}, one(15), []int{api.Never, api.Sure, api.Never}},
		{three(), []int{2, 1, 0}, one(27), []int{api.Never, api.Never, api.Sure}},
		{changed(func(f *api.Freight) { f.First, f.Last = one(4), one(3) }), []int{0, 1}, one(130), []int{api.Never, api.Never}},
		// It may be that the road is not open at all.
		{changed(func(f *api.Freight) { f.First = span(1, 5) }), []int{0, 1}, span(0, 130), []int{api.Open, api.Open}},
	} {
		s, e1 := freight.Range(c.f, c.plan)
		l, e2 := freight.Promise(c.f, c.plan)
		if e1 != api.OK || s != c.want || e2 != api.OK || !slices.Equal(l, c.promise) {
			t.Errorf("%d: Range = %v, %v, Promise = %v, %v, want %v, %v", i, s, e1, l, e2, c.want, c.promise)
		}
	}
}

// P8.5: the best plans, and bounds.
func TestBestAndBound(t *testing.T) {
	for i, c := range []struct {
		f              api.Freight
		plan           []int
		penalty, bound int
	}{
		{season(), []int{0, 1}, 30, 30},
		{changed(func(f *api.Freight) { slices.Reverse(f.Orders) }), []int{1, 0}, 30, 30},
		// All plans cost the same: the first one is the best.
		{changed(func(f *api.Freight) { f.Orders[0] = f.Orders[1] }), []int{0, 1}, 40, 40},
		{changed(func(f *api.Freight) { f.Orders[0].Late, f.Orders[0].Lost = 0, 0 }), []int{1, 0}, 0, 0},
		{changed(func(f *api.Freight) { f.First, f.Last = one(4), one(3) }), []int{0, 1}, 130, 130},
		// Six units go: 5, 5 and 0 are saved for each unit of an order, 5*5 of 41; and 4 each for two units of the order 0 up to the day 0, 1 each for four units of the order 2: 12.
		{three(), []int{0, 1, 2}, 7, 4},
		// It costs nothing if the order 0 is late.
		{exact([]int{1, 1}, order(1, 0, 0, 9), order(1, 0, 5, 9)), []int{1, 0}, 0, 0},
		{exact([]int{1, 1}, order(1, 1, 5, 9), order(1, 0, 5, 9)), []int{1, 0}, 0, 0},
		// A Due behind the last day is the last day.
		{exact([]int{1, 1}, order(1, 200, 5, 9), order(1, 0, 4, 9)), []int{1, 0}, 0, 0},
		// Two units have to go on the day 0, one of them may: one costs 2 at least.
		{exact([]int{1, 9}, order(1, 0, 5, 9), order(1, 0, 2, 9)), []int{0, 1}, 2, 2},
		// Only one unit goes: to save Lost - Late it is one of the order 0, to save Late one of the order 1, but it cannot be both.
		{exact([]int{0, 1}, order(1, 0, 1, 9), order(1, 1, 6, 8)), []int{0, 1}, 9, 3},
		// It would cost 6 to lose a unit of the order 2 and to have all others in time, but a plan that has two of its units on the day 0 has the third one on the day 1.
		{exact([]int{2, 2}, order(1, 1, 0, 9), order(1, 1, 0, 9), order(3, 0, 5, 6)), []int{2, 0, 1}, 14, 6},
	} {
		plan, n, e := freight.Best(c.f)
		if e != api.OK || n != c.penalty || !slices.Equal(plan, c.plan) {
			t.Errorf("%d: Best = %v, %d, %v, want %v, %d", i, plan, n, e, c.plan, c.penalty)
		}
		if n, e := freight.Bound(c.f); e != api.OK || n != c.bound {
			t.Errorf("%d: Bound = %d, %v, want %d", i, n, e, c.bound)
		}
	}
}

// P8.6: shares.
func TestShare(t *testing.T) {
	for _, c := range []struct {
		amount        int
		weights, want []int
	}{
		{100, []int{1, 1, 1}, []int{34, 33, 33}},
		{10, []int{1, 2}, []int{3, 7}},
		{10, []int{2, 1}, []int{7, 3}},
		{5, []int{0, 0}, []int{3, 2}},
		{1, []int{0, 0, 0}, []int{1, 0, 0}},
		{0, []int{3}, []int{0}},
		{0, []int{0}, []int{0}},
		{7, []int{0}, []int{7}},
		{7, []int{5, 0, 2}, []int{5, 0, 2}},
		{1, []int{0, 3, 3}, []int{0, 1, 0}},
		// 24/7, 24/7 and 8/7: three are left of 3 3 1, of which the remainders are 3, 3 and 1.
		{8, []int{3, 3, 1}, []int{4, 3, 1}},
		{2, []int{3, 3, 1}, []int{1, 1, 0}},
		// 5/7, 10/7, 20/7 and 35/7: two are left; the remainders are 5, 3, 6 and 0.
		{5, []int{1, 2, 4, 0}, []int{1, 1, 3, 0}},
		{1000000000000, []int{1000000}, []int{1000000000000}},
		{1000000000000, []int{1000000, 1000000, 1000000}, []int{333333333334, 333333333333, 333333333333}},
		{1000000000000, []int{999999, 1}, []int{999999000000, 1000000}},
	} {
		if l, e := freight.Share(c.amount, c.weights); e != api.OK || !slices.Equal(l, c.want) {
			t.Errorf("Share(%d, %v) = %v, %v, want %v", c.amount, c.weights, l, e, c.want)
		}
	}
}

// P8.6: bills.
func TestBills(t *testing.T) {
	way := [][]int{{0, 0, 2, 2, 0, 0, 0}, {0, 0, 0, 0, 2, 0, 0}}
	none := [][]int{make([]int, 7), make([]int, 7)}
	for _, c := range []struct {
		way        [][]int
		rate, road int
		want       []int
	}{
		{way, 10, 100, []int{107, 53}},
		{way, 10, 0, []int{40, 20}},
		{way, 0, 6, []int{4, 2}},
		{way, 1000000, 1000000000000, []int{666670666667, 333335333333}},
		// Nothing goes: both pay for the road alike.
		{none, 10, 7, []int{4, 3}},
		{[][]int{make([]int, 7), {0, 0, 0, 1, 0, 0, 0}}, 1, 7, []int{0, 8}},
	} {
		if l, e := freight.Bills(season(), hard(), c.way, c.rate, c.road); e != api.OK || !slices.Equal(l, c.want) {
			t.Errorf("Bills(%v, %d, %d) = %v, %v, want %v", c.way, c.rate, c.road, l, e, c.want)
		}
	}
}

// P8.7: season files.
func TestTexts(t *testing.T) {
	text := "season 1 2 4 5\n" + strings.Repeat("cap 2 3\n", 7) + "order 4 3 5 20\norder 5 5 1 10\n"
	if s, e := freight.Write(season()); s != text || e != api.OK {
		t.Errorf("Write = %q, %v", s, e)
	}
	if f, row, e := freight.Read(text); e != api.OK || row != 0 || !equal(f, season()) {
		t.Errorf("Read = %v, %d, %v", f, row, e)
	}
	const other = "season 0 0 0 0\ncap 0 1000000\norder 1000000 200 0 1000000\n"
	f := api.Freight{Caps: days(1, 0, 1000000), Orders: []api.Order{order(1000000, 200, 0, 1000000)}}
	if s, e := freight.Write(f); s != other || e != api.OK {
		t.Errorf("Write = %q, %v", s, e)
	}
	if g, row, e := freight.Read(other); e != api.OK || row != 0 || !equal(f, g) {
		t.Errorf("Read = %v, %d, %v", g, row, e)
	}
}
