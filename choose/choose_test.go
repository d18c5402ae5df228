package choose

import (
	"iter"
	"slices"
	"testing"
)

// below hands out the numbers below some number that are not in a list.
func below(n int) func(list []int) iter.Seq[int] {
	return func(list []int) iter.Seq[int] {
		return func(yield func(int) bool) {
			for i := range n {
				if !slices.Contains(list, i) && !yield(i) {
					return
				}
			}
		}
	}
}

// text writes lists down.
func text(list []int) string {
	s := ""
	for _, n := range list {
		s += string(rune('0' + n))
	}
	return s + " "
}

func TestListsAreHandedOutInOrder(t *testing.T) {
	for _, c := range []struct {
		long, numbers int
		want          string
	}{
		{0, 3, " "},
		{1, 0, ""},
		{1, 3, "0 1 2 "},
		{2, 3, "01 02 10 12 20 21 "},
		{3, 3, "012 021 102 120 201 210 "},
		{4, 3, ""},
	} {
		got := ""
		for list := range Lists(c.long, below(c.numbers)) {
			got += text(list)
		}
		if got != c.want {
			t.Errorf("%d of %d numbers: %q, want %q", c.long, c.numbers, got, c.want)
		}
	}
}

func TestBestIsTheFirstOfThoseThatAreWorthMost(t *testing.T) {
	for _, c := range []struct {
		name       string
		worth      func(list []int) int
		full       int
		want       []int
		most, seen int
	}{
		{"all alike", func([]int) int { return 7 }, 9, []int{0, 1, 2}, 7, 6},
		{"the first one is full", func([]int) int { return 7 }, 7, []int{0, 1, 2}, 7, 1},
		{"more than full", func([]int) int { return 7 }, 6, []int{0, 1, 2}, 7, 1},
		{"two of them", func(list []int) int { return list[0] % 2 }, 2, []int{1, 0, 2}, 1, 6},
		{"one of two is full", func(list []int) int { return list[0] % 2 }, 1, []int{1, 0, 2}, 1, 3},
		{"below 0", func(list []int) int { return -1 - list[2] }, 0, []int{1, 2, 0}, -1, 6},
	} {
		seen := 0
		list, most := Best(Lists(3, below(3)), func(list []int) int {
			seen++
			return c.worth(list)
		}, c.full)
		if !slices.Equal(list, c.want) || most != c.most || seen != c.seen {
			t.Errorf("%s: %v, %d after %d lists, want %v, %d after %d", c.name, list, most, seen, c.want, c.most, c.seen)
		}
	}
	if list, most := Best(Lists(4, below(3)), func([]int) int { return 7 }, 9); len(list) > 0 || most != 0 {
		t.Error("the best of no lists:", list, most)
	}
}
