package rescue_test

import (
	"math"
	"math/rand"
	"reflect"
	"slices"
	"testing"

	"sastrugi/api"
	"sastrugi/rescue"
)

// wild returns a number of any kind: near the bounds, far out, or usual.
func wild(r *rand.Rand) int {
	edges := [...]int{math.MinInt, math.MinInt + 1, -401, -400, -1, 0, 1, 2, 3, 4, 12, 39, 40, 41, 400, 401, 1439, 1440, 5000, 5001, 1000000, math.MaxInt - 1, math.MaxInt}
	return edges[r.Intn(len(edges))]
}

func wildSpan(r *rand.Rand) api.Span {
	if r.Intn(2) == 0 {
		return one(wild(r))
	}
	return span(wild(r), wild(r))
}

func wilds(r *rand.Rand, most, good int) []int {
	list := make([]int, r.Intn(most+1))
	for i := range list {
		list[i] = r.Intn(good)
		if r.Intn(20) == 0 {
			list[i] = wild(r)
		}
	}
	return list
}

// wildRescue is a rescue of which some parts may have any value.
func wildRescue(r *rand.Rand) api.Rescue {
	x := someRescue(r, size{8, 20, 6, 30, 5})
	switch r.Intn(60) {
	case 0:
		x.Spots = wild(r)
	case 1:
		x.Paths = slices.Repeat(x.Paths, 20)
	case 2:
		x.Posts = slices.Repeat(x.Posts, 5)
	case 3:
		x.Water = slices.Repeat(x.Water, r.Intn(3))
	case 4:
		x.Chills = slices.Repeat(x.Chills, 12*r.Intn(2))
	}
	for i := range x.Paths {
		p := &x.Paths[i]
		switch r.Intn(150) {
		case 0:
			p.A = wild(r)
		case 1:
			p.B = wild(r)
		case 2:
			p.B = p.A
		case 3:
			p.Time = wildSpan(r)
		case 4:
			p.Open = wild(r)
		}
	}
	for i := range x.Posts {
		wildPost(r, &x.Posts[i])
	}
	for i := range x.Water {
		if r.Intn(100) == 0 {
			x.Water[i] = wildSpan(r)
		}
	}
	for i := range x.Chills {
		c := &x.Chills[i]
		switch r.Intn(60) {
		case 0:
			c.Warm = wild(r)
		case 1:
			c.Minutes = wildSpan(r)
		}
	}
	return x
}

func wildPost(r *rand.Rand, p *api.Post) {
	switch r.Intn(60) {
	case 0:
		p.Spot = wild(r)
	case 1:
		p.Ready = wildSpan(r)
	case 2:
		p.From = wild(r)
	case 3:
		p.To = wild(r)
	case 4:
		p.Flies = wild(r)
	case 5:
		p.Air = append(p.Air, wildSpan(r))
	case 6:
		if len(p.Air) > 0 {
			p.Air[0] = wildSpan(r)
		}
	}
}

// bare checks that there is nothing beside an error.
func bare(t *testing.T, name string, e api.Errno, results int) {
	t.Helper()
	if e != api.OK && results > 0 {
		t.Fatalf("%s returns %v and something else", name, e)
	}
}

// P1, R3 and R5: rescues of any value give an error, or results; none panics, and with an error there are no results.
func TestAnyRescue(t *testing.T) {
	r := rand.New(rand.NewSource(91))
	seen := map[api.Errno]int{}
	for range 10000 {
		x, n := wildRescue(r), r.Intn(5)
		if r.Intn(10) == 0 {
			n = wild(r)
		}
		seen[rescue.Check(x)]++
		l, e := rescue.Go(x, n)
		bare(t, "Go", e, len(l))
		l, e = rescue.Lives(x)
		bare(t, "Lives", e, len(l))
		l, e = rescue.Reach(x, n)
		bare(t, "Reach", e, len(l))
		list, e := rescue.Cover(x, n)
		bare(t, "Cover", e, len(list))
		l, e = rescue.Gaps(x, n)
		bare(t, "Gaps", e, len(l))
		list, many, e := rescue.Send(x, n, wilds(r, 7, 4))
		bare(t, "Send", e, len(list)+many)
		ready := some(r, 0, 9, 9)
		if r.Intn(10) == 0 {
			ready = wildSpan(r)
		}
		list, e = rescue.Fewest(x, wilds(r, 11, 8), ready)
		bare(t, "Fewest", e, len(list))
		list, many, e = rescue.Most(x, wilds(r, 11, 8), ready, n)
		bare(t, "Most", e, len(list)+many)
	}
	for _, e := range []api.Errno{api.OK, api.ErrRange, api.ErrForm, api.ErrKind, api.ErrShort, api.ErrMissing, api.ErrFull, api.ErrOrder, api.ErrClash} {
		if seen[e] < 20 {
			t.Error("too few of each error:", seen)
		}
	}
}

// P1: as much of all as there may be.
func TestGreatestRescue(t *testing.T) {
	r := greatestRescue()
	r.Posts[0].Spot = 39
	for i := range r.Paths {
		r.Paths[i].Open = api.Sure
	}
	r.Paths = r.Paths[:39]
	l, e := rescue.Go(r, 0)
	if e != api.OK || l[0] != one(200000) || l[39] != one(5000) {
		t.Error("all spots in a row:", l, e)
	}
	if l, e := rescue.Go(r, 1); e != api.OK || !slices.Equal(l, slices.Repeat([]api.Span{one(10000)}, 40)) {
		t.Error("by air:", l, e)
	}
	if l, e := rescue.Lives(r); e != api.OK || !slices.Equal(l, slices.Repeat([]api.Span{span(0, 5000)}, 40)) {
		t.Error(l, e)
	}
}

// P1 and P7.3: as many choices as there may be, and calls of which not all can be saved.
func TestMostChoices(t *testing.T) {
	r := line(8, 3)
	for i := range 12 {
		r.Posts = append(r.Posts, api.Post{Spot: 1, Ready: one(i / 11)})
	}
	r.Posts[11].Spot = 6
	// The spots 0 to 3 are saved by all posts but the last one, which saves 4 to 7; 4 is saved by all but the last but one.
	r.Posts[10].Ready = one(1)
	for i, c := range []struct{ calls, want []int }{
		{[]int{0, 1, 2, 3, 0, 1}, []int{0, 1, 2, 3, 4, 5}},
		{[]int{0, 1, 2, 3, 4, 6}, []int{0, 1, 2, 3, 4, 11}},
		{[]int{7, 7, 5, 5, 6, 4}, []int{11, -1, -1, -1, -1, 0}},
		{[]int{0, 1, 2, 6, 6, 6}, []int{0, 1, 2, 11, -1, -1}},
		{[]int{6, 0, 1, 2, 3, 6}, []int{11, 0, 1, 2, 3, -1}},
		{[]int{0, 1, 2, 3, 6, 6}, []int{0, 1, 2, 3, 11, -1}},
		{[]int{4, 5, 6, 4, 5, 6}, []int{0, 11, -1, 1, -1, -1}},
	} {
		saved := 0
		for _, post := range c.want {
			if post >= 0 {
				saved++
			}
		}
		l, n, e := rescue.Send(r, 720, c.calls)
		if e != api.OK || n != saved || !slices.Equal(l, c.want) {
			t.Errorf("%d: Send = %v, %d, %v, want %v, %d", i, l, n, e, c.want, saved)
		}
	}
}

// R4: arguments are neither changed nor kept, and results share no memory with them or with each other.
func TestArgumentsStay(t *testing.T) {
	r, calls, sites := flying(api.Sure), append(make([]int, 0, 9), 2, 1), append(make([]int, 0, 9), 0, 1, 2, 3)
	all := func() []any {
		a, _ := rescue.Go(r, 1)
		b, _ := rescue.Lives(r)
		c, _ := rescue.Reach(r, 400)
		d, _ := rescue.Cover(r, 400)
		f, _ := rescue.Gaps(r, 2)
		g, _, _ := rescue.Send(r, 400, calls)
		h, _ := rescue.Fewest(r, sites, span(2, 3))
		i, _, _ := rescue.Most(r, sites, span(2, 3), 4)
		return []any{a, b, c, d, f, g, h, i}
	}
	first, second, again := all(), all(), all()
	if !reflect.DeepEqual(r, flying(api.Sure)) || !slices.Equal(calls[:9], []int{2, 1, 0, 0, 0, 0, 0, 0, 0}) || !slices.Equal(sites[:9], []int{0, 1, 2, 3, 0, 0, 0, 0, 0}) {
		t.Error("an argument, or the memory behind one, was changed:", r, calls, sites)
	}
	for i, x := range first {
		v := reflect.ValueOf(x)
		if v.Len() == 0 {
			t.Errorf("the result %d is meant to have something", i)
		}
		for k := range v.Len() {
			v.Index(k).SetZero()
		}
	}
	if !reflect.DeepEqual(second, again) || !reflect.DeepEqual(all(), second) || !reflect.DeepEqual(r, flying(api.Sure)) {
		t.Error("results share memory, or depend on what was called before")
	}
}

// R4: a nil slice and an empty one are equal.
func TestEmptyIsNil(t *testing.T) {
	for _, r := range []api.Rescue{
		{Spots: 1, Water: make([]api.Span, 1), Chills: chills(1)},
		{Spots: 1, Paths: []api.Path{}, Posts: []api.Post{}, Water: make([]api.Span, 1), Chills: chills(1)},
	} {
		for _, none := range [][]int{nil, {}} {
			a, e1 := rescue.Reach(r, 0)
			b, e2 := rescue.Gaps(r, 0)
			posts, saved, e3 := rescue.Send(r, 0, none)
			sites, e4 := rescue.Fewest(r, none, one(0))
			c, covered, e5 := rescue.Most(r, none, one(0), 0)
			if e1 != api.OK || e2 != api.OK || e3 != api.OK || e4 != api.ErrMissing || e5 != api.OK {
				t.Error(e1, e2, e3, e4, e5)
			}
			if !slices.Equal(a, []api.Span{far}) || !slices.Equal(b, []api.Span{span(0, 1439)}) || len(posts)+saved+len(sites)+len(c)+covered > 0 {
				t.Error(a, b, posts, saved, sites, c, covered)
			}
		}
	}
	for _, none := range [][]api.Span{nil, {}} {
		r := road()
		r.Posts[0].Air = none
		if l, e := rescue.Go(r, 0); e != api.OK || l[0] != span(2, 3) {
			t.Error(l, e)
		}
		r.Water = none
		if e := rescue.Check(r); e != api.ErrForm {
			t.Error(e)
		}
	}
	for _, none := range [][]api.Chill{nil, {}} {
		r := road()
		r.Chills = none
		if e := rescue.Check(r); e != api.ErrShort {
			t.Error(e)
		}
	}
}
