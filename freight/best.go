package freight

import (
	"iter"
	"slices"

	"sastrugi/api"
	"sastrugi/choose"
)

// plans hands out all plans, in lexicographic order. (It is always the same slice, with other numbers.)
func (w winter) plans() iter.Seq[[]int] {
	return choose.Lists(len(w.Orders), func(list []int) iter.Seq[int] {
		return func(yield func(order int) bool) {
			for order := range w.Orders {
				if !slices.Contains(list, order) && !yield(order) {
					return
				}
			}
		}
	})
}

// bestPlan returns the plan with the least penalty, of several ones the first, and its penalty.
func (w winter) bestPlan() (best []int, least int) {
	for plan := range w.plans() {
		if penalty := w.penalty(plan); best == nil || penalty < least {
			best, least = slices.Clone(plan), penalty
		}
	}
	return best, least
}

// bound returns a number below which no penalty can be: what all units cost if they are lost, less what those save that go at all, less what those save that are in time.
func (w winter) bound() int {
	last := len(w.Caps) - 1
	lost := 0
	for _, o := range w.Orders {
		lost += o.Units * o.Lost
	}
	goes := saving{
		worth: func(o api.Order) int { return o.Lost - o.Late },
		until: func(api.Order) int { return last },
	}
	inTime := saving{
		worth: func(o api.Order) int { return o.Late },
		until: func(o api.Order) int { return min(o.Due, last) },
	}
	return lost - w.most(goes) - w.most(inTime)
}

// saving says what each unit of an order saves if it goes until a day.
type saving struct {
	worth, until func(o api.Order) int
}

// most returns the greatest sum that units save. Those that save most are taken first, as many as may go: wherever another choice has a unit that saves less, one of them can take its place.
func (w winter) most(s saving) int {
	var room []int // how many units more may go up to each day
	all := 0
	for day := range w.Caps {
		all += w.may(day)
		room = append(room, all)
	}
	saved := 0
	for _, o := range sorted(w.Orders, s.worth) {
		since := room[s.until(o):]
		n := min(o.Units, slices.Min(since))
		for i := range since {
			since[i] -= n
		}
		saved += n * s.worth(o)
	}
	return saved
}

// sorted returns orders so that those whose units are worth most come first.
func sorted(orders []api.Order, worth func(o api.Order) int) []api.Order {
	orders = slices.Clone(orders)
	slices.SortStableFunc(orders, func(a, b api.Order) int { return worth(b) - worth(a) })
	return orders
}
