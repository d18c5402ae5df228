package check

import (
	"testing"

	"sastrugi/api"
)

func TestFirstIsTheLeftmostError(t *testing.T) {
	for _, c := range []struct {
		list []api.Errno
		want api.Errno
	}{
		{nil, api.OK},
		{[]api.Errno{api.OK, api.OK}, api.OK},
		{[]api.Errno{api.OK, api.ErrOrder, api.ErrRange}, api.ErrOrder},
	} {
		if e := First(c.list...); e != c.want {
			t.Errorf("First(%v) = %v, want %v", c.list, e, c.want)
		}
	}
}

func TestNumbersAndCounts(t *testing.T) {
	for _, c := range []struct {
		n    int
		want api.Errno
	}{{-1, api.ErrRange}, {0, api.OK}, {9, api.OK}, {10, api.ErrRange}} {
		if e := Number(c.n, 0, 9); e != c.want {
			t.Errorf("Number(%d) = %v, want %v", c.n, e, c.want)
		}
	}
	if Most(3, 3) != api.OK || Most(4, 3) != api.ErrFull {
		t.Error("Most has a wrong bound")
	}
	if Some(1) != api.OK || Some(0) != api.ErrShort {
		t.Error("Some has a wrong bound")
	}
	if Least(2, 2) != api.OK || Least(1, 2) != api.ErrShort || Least(-1, 0) != api.ErrShort {
		t.Error("Least has a wrong bound")
	}
	if Order(true) != api.OK || Order(false) != api.ErrOrder {
		t.Error("Order is wrong")
	}
	if Form(true) != api.OK || Form(false) != api.ErrForm {
		t.Error("Form is wrong")
	}
	if Clash(true) != api.OK || Clash(false) != api.ErrClash {
		t.Error("Clash is wrong")
	}
	if New(true) != api.OK || New(false) != api.ErrExists {
		t.Error("New is wrong")
	}
	if Late(true) != api.OK || Late(false) != api.ErrLate {
		t.Error("Late is wrong")
	}
}

func TestKindsAreFromOneOnAndIndicesFromZero(t *testing.T) {
	for _, c := range []struct {
		n           int
		kind, index api.Errno
	}{
		{-1, api.ErrKind, api.ErrMissing},
		{0, api.ErrKind, api.OK},
		{1, api.OK, api.OK},
		{3, api.OK, api.ErrMissing},
		{4, api.ErrKind, api.ErrMissing},
	} {
		if e := Kind(c.n, 3); e != c.kind {
			t.Errorf("Kind(%d) = %v, want %v", c.n, e, c.kind)
		}
		if e := Index(c.n, 3); e != c.index {
			t.Errorf("Index(%d) = %v, want %v", c.n, e, c.index)
		}
	}
	if Index(0, 0) != api.ErrMissing {
		t.Error("there is an index of nothing")
	}
}

func TestSpanChecksItsNumbersBeforeTheirOrder(t *testing.T) {
	for _, c := range []struct {
		s            api.Span
		span, range_ api.Errno
	}{
		{api.Span{Lo: 0, Hi: 9}, api.OK, api.OK},
		{api.Span{Lo: 5, Hi: 5}, api.OK, api.OK},
		{api.Span{Lo: 5, Hi: 4}, api.ErrOrder, api.OK},
		{api.Span{Lo: 5, Hi: -1}, api.ErrRange, api.ErrRange},
		{api.Span{Lo: 10, Hi: 9}, api.ErrRange, api.ErrRange},
		{api.Span{Lo: -1, Hi: 9}, api.ErrRange, api.ErrRange},
		{api.Span{Lo: 0, Hi: 10}, api.ErrRange, api.ErrRange},
	} {
		if e := Span(c.s, 0, 9); e != c.span {
			t.Errorf("Span(%v) = %v, want %v", c.s, e, c.span)
		}
		if e := Range(c.s, 0, 9); e != c.range_ {
			t.Errorf("Range(%v) = %v, want %v", c.s, e, c.range_)
		}
	}
}

func TestListHasTheFirstErrorOfItsThings(t *testing.T) {
	for _, c := range []struct {
		list []int
		want api.Errno
		seen int
	}{
		{nil, api.OK, 0},
		{[]int{}, api.OK, 0},
		{[]int{5, 6, 7}, api.OK, 3},
		{[]int{5, 6, 7, 0}, api.ErrFull, 0},
		{[]int{5, 0, -1}, api.ErrKind, 2},
		{[]int{5, -1, 0}, api.ErrRange, 2},
	} {
		seen := 0
		e := List(c.list, 3, func(i, x int) api.Errno {
			if i != seen || x != c.list[i] {
				t.Errorf("List(%v) hands out %d with the number %d", c.list, x, i)
			}
			seen++
			return First(Number(x, 0, 9), Kind(x, 9))
		})
		if e != c.want || seen != c.seen {
			t.Errorf("List(%v) = %v after %d of them, want %v after %d", c.list, e, seen, c.want, c.seen)
		}
	}
}
