package freight

import "sastrugi/api"

// winter is a freight in one of its winters.
type winter struct {
	api.Freight
	is api.Winter
}

// best returns the winter in which up to each day no fewer units may go than in any other one.
func best(f api.Freight) winter {
	w := winter{f, api.Winter{First: f.First.Lo, Last: f.Last.Hi}}
	for _, units := range f.Caps {
		w.is.Caps = append(w.is.Caps, units.Hi)
	}
	return w
}

// worst returns the winter in which up to each day no more units may go than in any other one.
func worst(f api.Freight) winter {
	w := winter{f, api.Winter{First: f.First.Hi, Last: f.Last.Lo}}
	for _, units := range f.Caps {
		w.is.Caps = append(w.is.Caps, units.Lo)
	}
	return w
}

// may returns how many units may go on a day.
func (w winter) may(day int) int {
	if day < w.is.First || day > w.is.Last {
		return 0
	}
	return w.is.Caps[day]
}

// units are as many units of each order.
type units [api.MaxOrders]int

// load returns which units go in the order of a plan, if so many may, and which ones the plan has left then.
func (u units) load(plan []int, may int) (gone, left units) {
	left = u
	for _, order := range plan {
		n := min(left[order], may)
		gone[order] = n
		left[order] -= n
		may -= n
	}
	return gone, left
}

// spread returns a plan's way of delivering.
func (w winter) spread(plan []int) [][]int {
	var left, gone units
	for i, o := range w.Orders {
		left[i] = o.Units
	}
	way := make([][]int, len(w.Orders))
	for day := range w.Caps {
		gone, left = left.load(plan, w.may(day))
		for i := range way {
			way[i] = append(way[i], gone[i])
		}
	}
	return way
}

// deliveries returns what becomes of the units of each order by a way of delivering.
func deliveries(orders []api.Order, way [][]int) []api.Delivery {
	var list []api.Delivery
	for i, o := range orders {
		list = append(list, delivery(o, way[i]))
	}
	return list
}

// delivery returns what becomes of the units of an order of which so many go on each day.
func delivery(o api.Order, days []int) api.Delivery {
	inTime, gone := sum(days[:min(o.Due+1, len(days))]...), sum(days...)
	d := api.Delivery{OnTime: inTime, Late: gone - inTime, Lost: o.Units - gone, Day: -1}
	if d.Lost > 0 {
		return d
	}
	for day, n := range days {
		if n > 0 {
			d.Day = day
		}
	}
	return d
}

// penaltyOf returns the penalty of what becomes of the units of each order.
func penaltyOf(orders []api.Order, list []api.Delivery) int {
	penalty := 0
	for i, o := range orders {
		penalty += o.Late*list[i].Late + o.Lost*list[i].Lost
	}
	return penalty
}

// penalty returns the penalty of a plan.
func (w winter) penalty(plan []int) int {
	return penaltyOf(w.Orders, deliveries(w.Orders, w.spread(plan)))
}

// inTime tells of each order whether all of its units are in time by a plan.
func (w winter) inTime(plan []int) []bool {
	var list []bool
	for i, d := range deliveries(w.Orders, w.spread(plan)) {
		list = append(list, d.OnTime == w.Orders[i].Units)
	}
	return list
}

// goes returns how many units go on a day, of all orders together.
func goes(way [][]int, day int) int {
	var on units
	for i, days := range way {
		on[i] = days[day]
	}
	return sum(on[:]...)
}

// sum returns the sum of some numbers.
func sum(numbers ...int) int {
	all := 0
	for _, n := range numbers {
		all += n
	}
	return all
}
