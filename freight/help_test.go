package freight_test

import (
	"iter"
	"math/rand"
	"slices"

	"sastrugi/api"
)

func span(low, high int) api.Span { return api.Span{Lo: low, Hi: high} }

func one(n int) api.Span { return span(n, n) }

func days(n, low, high int) []api.Span { return slices.Repeat([]api.Span{span(low, high)}, n) }

func order(units, due, late, lost int) api.Order {
	return api.Order{Units: units, Due: due, Late: late, Lost: lost}
}

// season is the freight O of the chapter's examples.
func season() api.Freight {
	return api.Freight{First: span(1, 2), Last: span(4, 5), Caps: days(7, 2, 3), Orders: []api.Order{order(4, 3, 5, 20), order(5, 5, 1, 10)}}
}

// mild is A, the best winter of O; hard is Z, its worst one.
func mild() api.Winter { return api.Winter{First: 1, Last: 5, Caps: slices.Repeat([]int{3}, 7)} }

func hard() api.Winter { return api.Winter{First: 2, Last: 4, Caps: slices.Repeat([]int{2}, 7)} }

// exact is a freight of which all is known: so many units may go on each day.
func exact(caps []int, orders ...api.Order) api.Freight {
	f := api.Freight{First: one(0), Last: one(len(caps) - 1), Orders: orders}
	for _, n := range caps {
		f.Caps = append(f.Caps, one(n))
	}
	return f
}

// winterOf is the winter of a freight of which all is known.
func winterOf(f api.Freight) api.Winter {
	w := api.Winter{First: f.First.Lo, Last: f.Last.Lo}
	for _, c := range f.Caps {
		w.Caps = append(w.Caps, c.Lo)
	}
	return w
}

// changed is O with a change.
func changed(change func(f *api.Freight)) api.Freight {
	f := season()
	change(&f)
	return f
}

// copied returns a freight that shares no memory with another one.
func copied(f api.Freight) api.Freight {
	f.Caps, f.Orders = slices.Clone(f.Caps), slices.Clone(f.Orders)
	return f
}

// same tells whether two ways of delivering are equal, and equal whether two freights are.
func same(a, b [][]int) bool { return slices.EqualFunc(a, b, slices.Equal[[]int]) }

func equal(a, b api.Freight) bool {
	return a.First == b.First && a.Last == b.Last && slices.Equal(a.Caps, b.Caps) && slices.Equal(a.Orders, b.Orders)
}

// What the document says, word by word.

// may is how many units may go on a day.
func may(w api.Winter, day int) int {
	if w.First <= day && day <= w.Last {
		return w.Caps[day]
	}
	return 0
}

// spread is a plan's way of delivering, unit by unit.
func spread(f api.Freight, w api.Winter, plan []int) [][]int {
	way := make([][]int, len(f.Orders))
	left := make([]int, len(f.Orders))
	for i, o := range f.Orders {
		way[i], left[i] = make([]int, len(f.Caps)), o.Units
	}
	for day := range f.Caps {
		for range may(w, day) {
			if k := slices.IndexFunc(plan, func(i int) bool { return left[i] > 0 }); k >= 0 {
				left[plan[k]]--
				way[plan[k]][day]++
			}
		}
	}
	return way
}

// tell is what becomes of each unit of a way, and the penalty.
func tell(f api.Freight, way [][]int) (list []api.Delivery, penalty int) {
	for i, o := range f.Orders {
		d := api.Delivery{Lost: o.Units}
		for day, n := range way[i] {
			for range n {
				d.Lost--
				d.Day = day
				if day <= o.Due {
					d.OnTime++
				} else {
					d.Late++
					penalty += o.Late
				}
			}
		}
		for range d.Lost {
			d.Day = -1
			penalty += o.Lost
		}
		list = append(list, d)
	}
	return list, penalty
}

// winters hands out all winters of a freight. (The numbers are always in the same slice.)
func winters(f api.Freight) iter.Seq[api.Winter] {
	return func(yield func(api.Winter) bool) {
		for first := f.First.Lo; first <= f.First.Hi; first++ {
			for last := f.Last.Lo; last <= f.Last.Hi; last++ {
				w := api.Winter{First: first, Last: last, Caps: make([]int, len(f.Caps))}
				if !numbers(f.Caps, w.Caps, 0, func() bool { return yield(w) }) {
					return
				}
			}
		}
	}
}

// numbers goes through all lists of numbers that lie in spans.
func numbers(spans []api.Span, list []int, i int, take func() bool) bool {
	if i == len(spans) {
		return take()
	}
	for n := spans[i].Lo; n <= spans[i].Hi; n++ {
		if list[i] = n; !numbers(spans, list, i+1, take) {
			return false
		}
	}
	return true
}

// count is how many winters there are.
func count(f api.Freight) int {
	n := (f.First.Hi - f.First.Lo + 1) * (f.Last.Hi - f.Last.Lo + 1)
	for _, c := range f.Caps {
		n *= c.Hi - c.Lo + 1
	}
	return n
}

// permutations are all plans for so many orders, in lexicographic order.
func permutations(n int) [][]int {
	if n == 0 {
		return [][]int{nil}
	}
	var list [][]int
	for first := range n {
		for _, p := range permutations(n - 1) {
			plan := []int{first}
			for _, i := range p {
				if i >= first {
					i++
				}
				plan = append(plan, i)
			}
			list = append(list, plan)
		}
	}
	return list
}

// cheapest is the least penalty of all ways of delivering in a winter. The orders have the units that are left of them.
func cheapest(f api.Freight, w api.Winter, left []api.Order, day int) int {
	if day == len(f.Caps) {
		penalty := 0
		for _, o := range left {
			penalty += o.Units * o.Lost
		}
		return penalty
	}
	least := -1
	var choose func(i, room, penalty int)
	choose = func(i, room, penalty int) {
		if i == len(left) {
			if n := penalty + cheapest(f, w, slices.Clone(left), day+1); least < 0 || n < least {
				least = n
			}
			return
		}
		o := left[i]
		for n := 0; n <= min(o.Units, room); n++ {
			late := 0
			if day > o.Due {
				late = n * o.Late
			}
			left[i].Units = o.Units - n
			choose(i+1, room-n, penalty+late)
		}
		left[i] = o
	}
	choose(0, may(w, day), 0)
	return least
}

// bound is what the document says of Bound, with all choices of units.
func bound(f api.Freight, w api.Winter) int {
	all, together := 0, 0
	for _, o := range f.Orders {
		all += o.Units * o.Lost
	}
	for day := range f.Caps {
		together += may(w, day)
	}
	goes, inTime := 0, 0
	var spans []api.Span
	for _, o := range f.Orders {
		spans = append(spans, span(0, o.Units))
	}
	list := make([]int, len(spans))
	numbers(spans, list, 0, func() bool {
		sum, late, gone := 0, 0, 0
		for i, n := range list {
			sum += n * (f.Orders[i].Lost - f.Orders[i].Late)
			late += n * f.Orders[i].Late
			gone += n
		}
		if gone <= together {
			goes = max(goes, sum)
		}
		if fits(f, w, list) {
			inTime = max(inTime, late)
		}
		return true
	})
	return all - goes - inTime
}

// fits tells whether, for each day, those units whose Due is that day or before are at most as many as may go up to that day.
func fits(f api.Freight, w api.Winter, list []int) bool {
	upTo := 0
	for day := range f.Caps {
		upTo += may(w, day)
		due := 0
		for i, o := range f.Orders {
			if min(o.Due, len(f.Caps)-1) <= day {
				due += list[i]
			}
		}
		if due > upTo {
			return false
		}
	}
	return true
}

// Freight of all sizes.

// some returns a span within bounds that has at most so many numbers more than one.
func some(r *rand.Rand, low, high, wide int) api.Span {
	a := low + r.Intn(high-low+1)
	return span(a, min(high, a+r.Intn(wide+1)))
}

// inside returns a span within another one.
func inside(r *rand.Rand, s api.Span) api.Span {
	low := s.Lo + r.Intn(s.Hi-s.Lo+1)
	return span(low, low+r.Intn(s.Hi-low+1))
}

// pick returns a number of a span: often an end.
func pick(r *rand.Rand, s api.Span) int {
	switch r.Intn(4) {
	case 0:
		return s.Lo
	case 1:
		return s.Hi
	}
	return s.Lo + r.Intn(s.Hi-s.Lo+1)
}

// size says how large a freight is: at most how many days and orders it has, how many units may go on a day, how many an order has, how much they cost, and how wide spans are.
type size struct{ days, orders, may, units, fine, wide int }

// someFreight is a valid freight.
func someFreight(r *rand.Rand, s size) api.Freight {
	var f api.Freight
	for range 1 + r.Intn(s.days) {
		f.Caps = append(f.Caps, some(r, 0, s.may, s.wide))
	}
	last := len(f.Caps) - 1
	f.First, f.Last = some(r, 0, last/3, s.wide), some(r, last/2, last, s.wide)
	if r.Intn(10) == 0 {
		f.First, f.Last = some(r, 0, last, s.wide), some(r, 0, last, s.wide)
	}
	for range 1 + r.Intn(s.orders) {
		late := r.Intn(s.fine + 1)
		f.Orders = append(f.Orders, order(1+r.Intn(s.units), r.Intn(len(f.Caps)+1), late, late+r.Intn(s.fine+1)))
	}
	return f
}

// small is a freight of which all winters can be looked at.
func small(r *rand.Rand) api.Freight {
	for {
		if f := someFreight(r, size{5, 4, 3, 4, 6, 2}); count(f) <= 600 {
			return f
		}
	}
}

// tiny is a freight of which all ways of delivering can be looked at.
func tiny(r *rand.Rand) api.Freight { return someFreight(r, size{4, 3, 2, 4, 9, 1}) }

// large is a freight that may be as large as any.
func large(r *rand.Rand) api.Freight { return someFreight(r, size{200, 6, 30, 900, 500000, 4}) }

// someWinter is one of the winters of a freight.
func someWinter(r *rand.Rand, f api.Freight) api.Winter {
	w := api.Winter{First: pick(r, f.First), Last: pick(r, f.Last)}
	for _, c := range f.Caps {
		w.Caps = append(w.Caps, pick(r, c))
	}
	return w
}

// ends are the best winter and the worst one.
func ends(f api.Freight) (best, worst api.Winter) {
	best, worst = api.Winter{First: f.First.Lo, Last: f.Last.Hi}, api.Winter{First: f.First.Hi, Last: f.Last.Lo}
	for _, c := range f.Caps {
		best.Caps, worst.Caps = append(best.Caps, c.Hi), append(worst.Caps, c.Lo)
	}
	return best, worst
}

// someWay is a way of delivering that need not be that of a plan.
func someWay(r *rand.Rand, f api.Freight, w api.Winter) [][]int {
	way := make([][]int, len(f.Orders))
	left := make([]int, len(f.Orders))
	for i, o := range f.Orders {
		way[i], left[i] = make([]int, len(f.Caps)), o.Units
	}
	for day := range f.Caps {
		room := may(w, day)
		for _, i := range r.Perm(len(f.Orders)) {
			n := pick(r, span(0, min(room, left[i])))
			way[i][day] = n
			left[i] -= n
			room -= n
		}
	}
	return way
}

// within tells whether a number lies in a span, and narrower whether a span lies in another one.
func within(n int, s api.Span) bool { return s.Lo <= n && n <= s.Hi }

func narrower(a, b api.Span) bool { return b.Lo <= a.Lo && a.Hi <= b.Hi }
