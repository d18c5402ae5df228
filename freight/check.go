package freight

import (
	"slices"

	"sastrugi/api"
	"sastrugi/check"
)

// Check returns the first error of a freight, otherwise OK.
func Check(f api.Freight) api.Errno {
	last := len(f.Caps) - 1
	return check.First(
		check.Some(len(f.Caps)),
		check.List(f.Caps, api.MaxDays, func(_ int, c api.Span) api.Errno { return check.Span(c, 0, api.MaxUnits) }),
		check.Span(f.First, 0, last),
		check.Span(f.Last, 0, last),
		check.Some(len(f.Orders)),
		check.List(f.Orders, api.MaxOrders, func(_ int, o api.Order) api.Errno { return checkOrder(o) }),
	)
}

// checkOrder returns the first error of an order.
func checkOrder(o api.Order) api.Errno {
	return check.First(
		check.Number(o.Units, 1, api.MaxUnits),
		check.Number(o.Due, 0, api.MaxDays),
		check.Number(o.Late, 0, api.MaxFine),
		check.Number(o.Lost, 0, api.MaxFine),
		check.Order(o.Late <= o.Lost),
	)
}

// checkWinter returns the first error of a freight, then of one of its winters.
func checkWinter(f api.Freight, w api.Winter) api.Errno {
	if e := check.First(Check(f), check.Form(len(w.Caps) == len(f.Caps))); e != api.OK {
		return e
	}
	return check.First(
		within(w.First, f.First),
		within(w.Last, f.Last),
		check.List(w.Caps, api.MaxDays, func(day, units int) api.Errno { return within(units, f.Caps[day]) }),
	)
}

// within returns ErrRange unless a number lies in a span.
func within(n int, s api.Span) api.Errno { return check.Number(n, s.Lo, s.Hi) }

// checkPlan returns ErrForm unless a plan has the numbers of all orders, each once.
func checkPlan(f api.Freight, plan []int) api.Errno {
	if len(plan) != len(f.Orders) {
		return api.ErrForm
	}
	return check.List(plan, api.MaxOrders, func(i, order int) api.Errno {
		return check.Form(0 <= order && order < len(f.Orders) && !slices.Contains(plan[:i], order))
	})
}

// checkWay returns the first error of a freight, of one of its winters, then of a way of delivering.
func checkWay(f api.Freight, w api.Winter, way [][]int) api.Errno {
	if e := check.First(checkWinter(f, w), checkUnits(f, way)); e != api.OK {
		return e
	}
	for day := range w.Caps {
		if e := check.Clash(goes(way, day) <= (winter{f, w}).may(day)); e != api.OK {
			return e
		}
	}
	for i, o := range f.Orders {
		if sum(way[i]...) > o.Units {
			return api.ErrOver
		}
	}
	return api.OK
}

// checkUnits returns ErrForm unless a way has for each order as many numbers as there are days, then ErrRange unless all of them are numbers of units.
func checkUnits(f api.Freight, way [][]int) api.Errno {
	short := func(days []int) bool { return len(days) != len(f.Caps) }
	if len(way) != len(f.Orders) || slices.ContainsFunc(way, short) {
		return api.ErrForm
	}
	return check.List(way, api.MaxOrders, func(_ int, days []int) api.Errno {
		return check.List(days, api.MaxDays, func(_, units int) api.Errno { return check.Number(units, 0, api.MaxUnits) })
	})
}

// checkAmount returns ErrRange unless a number is an amount that can be shared.
func checkAmount(n int) api.Errno { return check.Number(n, 0, api.MaxUnits*api.MaxFine) }
