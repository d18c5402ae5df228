package build

import (
	"slices"

	"sastrugi/api"
)

// best returns the order with which the road opens earliest in the worst case, the first one of several, and when it does so.
func (s site) best() (order []int, open int) {
	found := false
	s.orders(func(list []int) {
		if now := s.inOrder(list).latest(); !found || now < open {
			found, order, open = true, slices.Clone(list), now
		}
	})
	return order, open
}

// orders gives all orders of the tasks to a function, in lexicographic order, in which each task stands behind those in its After. (It is always the same slice, with other tasks.)
func (s site) orders(take func(list []int)) {
	var list []int
	var extend func()
	extend = func() {
		if len(list) == len(s.Tasks) {
			take(list)
			return
		}
		for i, t := range s.Tasks {
			if slices.Contains(list, i) || !all(t.After, list) {
				continue
			}
			list = append(list, i)
			extend()
			list = list[:len(list)-1]
		}
	}
	extend()
}

// all tells whether all numbers are in a list.
func all(numbers, list []int) bool {
	return !slices.ContainsFunc(numbers, func(n int) bool { return !slices.Contains(list, n) })
}

// inOrder returns the site of which the tasks stand in an order.
func (s site) inOrder(order []int) site {
	var tasks []api.Task
	for _, i := range order {
		t := s.Tasks[i]
		after := t.After
		t.After = nil
		for _, before := range after {
			t.After = append(t.After, slices.Index(order, before))
		}
		tasks = append(tasks, t)
	}
	s.Tasks = tasks
	return s
}
