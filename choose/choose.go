// Package choose goes through lists of numbers, and finds the best one.
package choose

import (
	"iter"
	"slices"
)

// Lists hands out all lists of so many numbers, each of which is one of those that may follow the ones before it: in lexicographic order, if these come in order. (It is always the same slice, with other numbers.)
func Lists(long int, follow func(list []int) iter.Seq[int]) iter.Seq[[]int] {
	return func(yield func([]int) bool) {
		list := make([]int, 0, long)
		var extend func() bool
		extend = func() bool {
			if len(list) == long {
				return yield(list)
			}
			for n := range follow(list) {
				list = append(list, n)
				if !extend() {
					return false
				}
				list = list[:len(list)-1]
			}
			return true
		}
		extend()
	}
}

// Best returns the list that is worth most, of several ones the first, and what it is worth. Since none is worth more than full, those behind one that is worth so much are not looked at.
func Best(all iter.Seq[[]int], worth func(list []int) int, full int) (list []int, most int) {
	found := false
	for x := range all {
		if now := worth(x); !found || now > most {
			found, list, most = true, slices.Clone(x), now
		}
		if most >= full {
			break
		}
	}
	return list, most
}
