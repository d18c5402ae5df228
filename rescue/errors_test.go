package rescue_test

import (
	"math"
	"slices"
	"testing"

	"sastrugi/api"
	"sastrugi/rescue"
)

// chills are so many, each a tenth of a degree warmer than the one before.
func chills(n int) []api.Chill {
	var list []api.Chill
	for i := range n {
		list = append(list, api.Chill{Warm: i - 400})
	}
	return list
}

// greatestRescue has as much of all as there may be.
func greatestRescue() api.Rescue {
	r := line(40, 5000)
	for len(r.Paths) < 120 {
		r.Paths = append(r.Paths, path(len(r.Paths)%39, 39, one(5000), api.Open))
	}
	for i := range r.Paths {
		r.Paths[i].Time = one(5000)
	}
	for i := range 12 {
		p := api.Post{Spot: i, Ready: one(5000), From: 1439, To: 1439}
		if i%2 == 1 {
			p.Flies, p.Air = api.Sure, slices.Repeat([]api.Span{one(5000)}, 40)
		}
		r.Posts = append(r.Posts, p)
	}
	r.Water, r.Chills = slices.Repeat([]api.Span{span(-400, 400)}, 40), chills(20)
	r.Chills[19] = api.Chill{Warm: 400, Minutes: one(5000)}
	return r
}

// rescueErrors are rescues with the error of each.
var rescueErrors = []struct {
	name   string
	change func(r *api.Rescue)
	want   api.Errno
}{
	{"as it is", func(r *api.Rescue) {}, api.OK},
	{"as much as there may be", func(r *api.Rescue) { *r = greatestRescue() }, api.OK},
	{"nothing", func(r *api.Rescue) { *r = api.Rescue{} }, api.ErrRange},
	{"one spot", func(r *api.Rescue) { *r = line(1, 0) }, api.OK},
	{"no spots, before paths", func(r *api.Rescue) { r.Spots, r.Paths = 0, make([]api.Path, 121) }, api.ErrRange},
	{"spots below", func(r *api.Rescue) { r.Spots = -1 }, api.ErrRange},
	{"spots above", func(r *api.Rescue) { r.Spots, r.Water = 41, make([]api.Span, 41) }, api.ErrRange},
	{"spots far out", func(r *api.Rescue) { r.Spots = math.MaxInt }, api.ErrRange},
	{"no paths", func(r *api.Rescue) { r.Paths = nil }, api.OK},
	{"most paths", func(r *api.Rescue) { r.Paths = slices.Repeat(r.Paths, 30) }, api.OK},
	{"too many paths, before their own errors", func(r *api.Rescue) { r.Paths = make([]api.Path, 121) }, api.ErrFull},
	{"A above, before B", func(r *api.Rescue) { r.Paths[0].A, r.Paths[0].B = 4, 4 }, api.ErrMissing},
	{"A below", func(r *api.Rescue) { r.Paths[0].A = -1 }, api.ErrMissing},
	{"B above, before its time", func(r *api.Rescue) { r.Paths[0].B, r.Paths[0].Time = 4, one(-1) }, api.ErrMissing},
	{"B below", func(r *api.Rescue) { r.Paths[0].B = -1 }, api.ErrMissing},
	{"beyond a type", func(r *api.Rescue) { r.Paths[0].A, r.Paths[0].B = math.MaxInt, math.MinInt }, api.ErrMissing},
	{"to itself, before its time", func(r *api.Rescue) { r.Paths[0].B, r.Paths[0].Time = 0, one(-1) }, api.ErrClash},
	{"the last spot", func(r *api.Rescue) { r.Paths[0].A, r.Paths[0].B = 3, 0 }, api.OK},
	{"greatest time", func(r *api.Rescue) { r.Paths[0].Time = span(0, 5000) }, api.OK},
	{"time below", func(r *api.Rescue) { r.Paths[0].Time = span(-1, 0) }, api.ErrRange},
	{"time below, before its order", func(r *api.Rescue) { r.Paths[0].Time = span(0, -1) }, api.ErrRange},
	{"time above, before its order and the verdict", func(r *api.Rescue) { r.Paths[0].Time, r.Paths[0].Open = span(5001, 0), 0 }, api.ErrRange},
	{"time above", func(r *api.Rescue) { r.Paths[0].Time = span(0, 5001) }, api.ErrRange},
	{"time turned, before the verdict", func(r *api.Rescue) { r.Paths[0].Time, r.Paths[0].Open = span(2, 1), 0 }, api.ErrOrder},
	{"no verdict", func(r *api.Rescue) { r.Paths[0].Open = 0 }, api.ErrKind},
	{"no such verdict, before the next path", func(r *api.Rescue) { r.Paths[0].Open, r.Paths[1].A = 4, 9 }, api.ErrKind},
	{"verdict below", func(r *api.Rescue) { r.Paths[3].Open = -1 }, api.ErrKind},
	{"a path, before too many posts", func(r *api.Rescue) { r.Paths[3].Open, r.Posts = 4, make([]api.Post, 13) }, api.ErrKind},
	{"no posts", func(r *api.Rescue) { r.Posts = nil }, api.OK},
	{"most posts", func(r *api.Rescue) { r.Posts = make([]api.Post, 12) }, api.OK},
	{"too many posts", func(r *api.Rescue) { r.Posts = make([]api.Post, 13) }, api.ErrFull},
	{"too many posts, before their own errors", func(r *api.Rescue) { r.Posts = slices.Repeat([]api.Post{{Spot: -1}}, 13) }, api.ErrFull},
	{"a post nowhere, before Ready", func(r *api.Rescue) { r.Posts[0].Spot, r.Posts[0].Ready = 4, one(-1) }, api.ErrMissing},
	{"a post below", func(r *api.Rescue) { r.Posts[0].Spot = -1 }, api.ErrMissing},
	{"a post at the last spot", func(r *api.Rescue) { r.Posts[0].Spot = 3 }, api.OK},
	{"Ready below", func(r *api.Rescue) { r.Posts[0].Ready = span(-1, 0) }, api.ErrRange},
	{"Ready above, before its order", func(r *api.Rescue) { r.Posts[0].Ready = span(5001, 5000) }, api.ErrRange},
	{"greatest Ready", func(r *api.Rescue) { r.Posts[0].Ready = one(5000) }, api.OK},
	{"Ready turned, before From", func(r *api.Rescue) { r.Posts[0].Ready, r.Posts[0].From = span(2, 1), -1 }, api.ErrOrder},
	{"From below", func(r *api.Rescue) { r.Posts[0].From = -1 }, api.ErrRange},
	{"From above", func(r *api.Rescue) { r.Posts[0].From = 1440 }, api.ErrRange},
	{"last From and To", func(r *api.Rescue) { r.Posts[0].From, r.Posts[0].To = 1439, 1439 }, api.OK},
	{"To below", func(r *api.Rescue) { r.Posts[0].To = -1 }, api.ErrRange},
	{"To above, before Flies", func(r *api.Rescue) { r.Posts[0].To, r.Posts[0].Flies = 1440, 4 }, api.ErrRange},
	{"From above, before Flies", func(r *api.Rescue) { r.Posts[1].From, r.Posts[1].Flies = 1440, 4 }, api.ErrRange},
	{"Flies below", func(r *api.Rescue) { r.Posts[1].Flies = -1 }, api.ErrKind},
	{"Flies above, before Air", func(r *api.Rescue) { r.Posts[0].Flies = 4 }, api.ErrKind},
	{"Flies far out", func(r *api.Rescue) { r.Posts[1].Flies = math.MaxInt }, api.ErrKind},
	{"flies without Air", func(r *api.Rescue) { r.Posts[0].Flies = api.Sure }, api.ErrForm},
	{"never flies, without Air", func(r *api.Rescue) { r.Posts[0].Flies = api.Never }, api.ErrForm},
	{"drives, with Air", func(r *api.Rescue) { r.Posts[1].Flies = 0 }, api.ErrForm},
	{"drives, with one span of Air, before its numbers", func(r *api.Rescue) { r.Posts[0].Air = []api.Span{one(-1)} }, api.ErrForm},
	{"drives, with empty Air", func(r *api.Rescue) { r.Posts[0].Air = []api.Span{} }, api.OK},
	{"less Air, before its numbers", func(r *api.Rescue) { r.Posts[1].Air = slices.Repeat([]api.Span{one(-1)}, 3) }, api.ErrForm},
	{"more Air, before its numbers", func(r *api.Rescue) { r.Posts[1].Air = slices.Repeat([]api.Span{one(-1)}, 5) }, api.ErrForm},
	{"greatest Air", func(r *api.Rescue) { r.Posts[1].Air[0] = span(0, 5000) }, api.OK},
	{"Air below", func(r *api.Rescue) { r.Posts[1].Air[0] = span(-1, 0) }, api.ErrRange},
	{"Air above, before its order", func(r *api.Rescue) { r.Posts[1].Air[3] = span(5001, 0) }, api.ErrRange},
	{"Air turned, before the next one", func(r *api.Rescue) { r.Posts[1].Air[0], r.Posts[1].Air[1] = span(2, 1), one(-1) }, api.ErrOrder},
	{"Air above, before one that is turned", func(r *api.Rescue) { r.Posts[1].Air[0], r.Posts[1].Air[1] = one(5001), span(2, 1) }, api.ErrRange},
	{"a post, before the next one", func(r *api.Rescue) { r.Posts[0].Flies, r.Posts[1].Spot = 4, 4 }, api.ErrKind},
	{"a post, before the water", func(r *api.Rescue) { r.Posts[1].Flies, r.Water = 4, nil }, api.ErrKind},
	{"less water, before its numbers", func(r *api.Rescue) { r.Water = slices.Repeat([]api.Span{one(-401)}, 3) }, api.ErrForm},
	{"more water, before its numbers", func(r *api.Rescue) { r.Water = slices.Repeat([]api.Span{one(-401)}, 5) }, api.ErrForm},
	{"no water, before chills", func(r *api.Rescue) { r.Water, r.Chills = nil, nil }, api.ErrForm},
	{"coldest and warmest water", func(r *api.Rescue) { r.Water[0] = span(-400, 400) }, api.OK},
	{"water too cold", func(r *api.Rescue) { r.Water[0] = span(-401, 0) }, api.ErrRange},
	{"water too cold, before its order", func(r *api.Rescue) { r.Water[3] = span(0, -401) }, api.ErrRange},
	{"water too warm, before chills", func(r *api.Rescue) { r.Water[3], r.Chills = span(0, 401), nil }, api.ErrRange},
	{"water turned, before the next one", func(r *api.Rescue) { r.Water[2], r.Water[3] = span(2, 1), one(-401) }, api.ErrOrder},
	{"water turned, before chills", func(r *api.Rescue) { r.Water[3], r.Chills = span(2, 1), nil }, api.ErrOrder},
	{"no chills", func(r *api.Rescue) { r.Chills = nil }, api.ErrShort},
	{"one chill", func(r *api.Rescue) { r.Chills = r.Chills[:1] }, api.OK},
	{"most chills", func(r *api.Rescue) { r.Chills = chills(20) }, api.OK},
	{"too many chills", func(r *api.Rescue) { r.Chills = chills(21) }, api.ErrFull},
	{"too many chills, before their own errors", func(r *api.Rescue) { r.Chills = make([]api.Chill, 21) }, api.ErrFull},
	{"first Warm below, before its order", func(r *api.Rescue) { r.Chills[0].Warm = -401 }, api.ErrRange},
	{"first Warm above, before its order", func(r *api.Rescue) { r.Chills[0].Warm = 401 }, api.ErrRange},
	{"first Warm too warm, before minutes", func(r *api.Rescue) { r.Chills[0] = api.Chill{Warm: -399, Minutes: one(-1)} }, api.ErrOrder},
	{"Warm as before", func(r *api.Rescue) { r.Chills[2].Warm = 0 }, api.ErrOrder},
	{"Warm a little above", func(r *api.Rescue) { r.Chills[2].Warm = 1 }, api.OK},
	{"Warm below the one before, before minutes", func(r *api.Rescue) { r.Chills[2] = api.Chill{Warm: -1, Minutes: one(-1)} }, api.ErrOrder},
	{"the coldest twice", func(r *api.Rescue) { r.Chills[1].Warm = -400 }, api.ErrOrder},
	{"Warm below, before its order", func(r *api.Rescue) { r.Chills[1].Warm = -401 }, api.ErrRange},
	{"warmest", func(r *api.Rescue) { r.Chills[3].Warm = 400 }, api.OK},
	{"Warm above, before minutes", func(r *api.Rescue) { r.Chills[3] = api.Chill{Warm: 401, Minutes: span(2, 1)} }, api.ErrRange},
	{"above the warmest, which is the one before", func(r *api.Rescue) { r.Chills[2].Warm, r.Chills[3].Warm = 400, 400 }, api.ErrOrder},
	{"Warm far out", func(r *api.Rescue) { r.Chills[3].Warm = math.MaxInt }, api.ErrRange},
	{"no minutes", func(r *api.Rescue) { r.Chills[0].Minutes = one(0) }, api.OK},
	{"minutes below", func(r *api.Rescue) { r.Chills[0].Minutes = span(-1, 5) }, api.ErrRange},
	{"minutes below, before their order", func(r *api.Rescue) { r.Chills[0].Minutes = span(0, -1) }, api.ErrRange},
	{"greatest minutes", func(r *api.Rescue) { r.Chills[3].Minutes = span(5000, 5000) }, api.OK},
	{"minutes above", func(r *api.Rescue) { r.Chills[3].Minutes = span(60, 5001) }, api.ErrRange},
	{"minutes turned, though none is less than before", func(r *api.Rescue) { r.Chills[3].Minutes = span(91, 90) }, api.ErrOrder},
	{"minutes as before", func(r *api.Rescue) { r.Chills[3].Minutes = span(30, 60) }, api.OK},
	{"least minutes less than before", func(r *api.Rescue) { r.Chills[3].Minutes = span(29, 60) }, api.ErrOrder},
	{"greatest minutes less than before", func(r *api.Rescue) { r.Chills[3].Minutes = span(30, 59) }, api.ErrOrder},
	{"minutes less than before, before the next chill", func(r *api.Rescue) { r.Chills[1].Minutes, r.Chills[2].Warm = span(9, 20), 401 }, api.ErrOrder},
	{"minutes above, before the next chill", func(r *api.Rescue) { r.Chills[1].Minutes.Hi, r.Chills[2].Warm = 5001, -1 }, api.ErrRange},
	{"minutes less than two before, but not than the one before", func(r *api.Rescue) { r.Chills[2].Minutes, r.Chills[3].Minutes = span(15, 30), span(15, 31) }, api.OK},
}

// P7.1 to P7.4, and R1: the error of the rescue comes before all others; and R3: nothing is returned beside it.
func TestRescueErrors(t *testing.T) {
	for _, c := range rescueErrors {
		r := road()
		c.change(&r)
		if e := rescue.Check(r); e != c.want {
			t.Errorf("%s: Check = %v, want %v", c.name, e, c.want)
		}
		if e := livesError(t, r); e != c.want {
			t.Errorf("%s: Lives returns %v, want %v", c.name, e, c.want)
		}
		wrong := []api.Errno{api.ErrMissing, api.ErrRange, api.ErrRange, api.ErrMissing, api.ErrRange, api.ErrFull, api.ErrFull}
		for i, e := range answers(t, r) {
			want := c.want
			if want == api.OK {
				want = wrong[i]
			}
			if e != want {
				t.Errorf("%s: function %d returns %v, want %v", c.name, i, e, want)
			}
		}
	}
}

func livesError(t *testing.T, r api.Rescue) api.Errno {
	t.Helper()
	l, e := rescue.Lives(r)
	if (len(l) == 0) != (e != api.OK) {
		t.Errorf("Lives of %v = %v, %v", r, l, e)
	}
	return e
}

// answers are the errors of all functions that a rescue is given to with other arguments, all of which are wrong.
func answers(t *testing.T, r api.Rescue) []api.Errno {
	t.Helper()
	many := slices.Repeat([]int{-1}, 11)
	a, e1 := rescue.Go(r, -1)
	b, e2 := rescue.Reach(r, -1)
	c, e3 := rescue.Cover(r, -1)
	d, e4 := rescue.Gaps(r, -1)
	f, n, e5 := rescue.Send(r, -1, many)
	g, e6 := rescue.Fewest(r, many, span(2, -1))
	h, m, e7 := rescue.Most(r, many, span(2, -1), -1)
	if len(a)+len(b)+len(c)+len(d)+len(f)+len(g)+len(h)+n+m != 0 {
		t.Error("something is returned beside an error:", a, b, c, d, f, n, g, h, m)
	}
	return []api.Errno{e1, e2, e3, e4, e5, e6, e7}
}

// P7.1 and P7.2: posts, minutes and spots that are not there.
func TestNumbersThatAreNotThere(t *testing.T) {
	for _, c := range []struct {
		n                   int
		post, minute, gapAt api.Errno
	}{
		{math.MinInt, api.ErrMissing, api.ErrRange, api.ErrMissing},
		{-1, api.ErrMissing, api.ErrRange, api.ErrMissing},
		{0, api.OK, api.OK, api.OK},
		{1, api.OK, api.OK, api.OK},
		{2, api.ErrMissing, api.OK, api.OK},
		{3, api.ErrMissing, api.OK, api.OK},
		{4, api.ErrMissing, api.OK, api.ErrMissing},
		{1439, api.ErrMissing, api.OK, api.ErrMissing},
		{1440, api.ErrMissing, api.ErrRange, api.ErrMissing},
		{math.MaxInt, api.ErrMissing, api.ErrRange, api.ErrMissing},
	} {
		a, e1 := rescue.Go(road(), c.n)
		b, e2 := rescue.Reach(road(), c.n)
		d, e3 := rescue.Cover(road(), c.n)
		_, n, e4 := rescue.Send(road(), c.n, []int{0})
		f, e5 := rescue.Gaps(flying(api.Sure), c.n)
		if e1 != c.post || e2 != c.minute || e3 != c.minute || e4 != c.minute || e5 != c.gapAt {
			t.Error(c, e1, e2, e3, e4, e5)
		}
		if (len(a) == 4) != (e1 == api.OK) || (len(b) == 4) != (e2 == api.OK) || (len(d) == 4) != (e3 == api.OK) || (n == 1) != (e4 == api.OK) || len(f) > 0 && e5 != api.OK {
			t.Error(c, a, b, d, n, f)
		}
	}
}

// P7.3: the errors of calls, in their order.
func TestSendErrors(t *testing.T) {
	for _, c := range []struct {
		name   string
		minute int
		calls  []int
		want   api.Errno
	}{
		{"no calls", 0, nil, api.OK},
		{"most calls", 0, make([]int, 6), api.OK},
		{"too many calls", 0, make([]int, 7), api.ErrFull},
		{"too many calls, before spots", 0, slices.Repeat([]int{-1}, 7), api.ErrFull},
		{"the minute, before too many calls", 1440, make([]int, 7), api.ErrRange},
		{"the minute, before spots", -1, []int{-1}, api.ErrRange},
		{"the last spot", 0, []int{3}, api.OK},
		{"no spot", 0, []int{4}, api.ErrMissing},
		{"no spot in the end", 0, []int{0, 0, 0, 0, 0, -1}, api.ErrMissing},
		{"far out", 0, []int{math.MaxInt}, api.ErrMissing},
	} {
		l, n, e := rescue.Send(road(), c.minute, c.calls)
		if e != c.want || e != api.OK && len(l)+n > 0 || e == api.OK && len(l) != len(c.calls) {
			t.Errorf("%s: Send = %v, %d, %v, want %v", c.name, l, n, e, c.want)
		}
	}
}

// P7.4: the errors of sites, and of the time to get ready, in their order; and of how many sites Most has.
func TestSitesErrors(t *testing.T) {
	ten := []int{9, 8, 7, 6, 5, 4, 3, 2, 1, 0}
	for _, c := range []struct {
		name  string
		sites []int
		ready api.Span
		want  api.Errno
	}{
		{"most sites", ten, one(0), api.OK},
		{"too many sites, before their own errors", append(slices.Clone(ten), 10), span(2, 1), api.ErrFull},
		{"too many that are not there", slices.Repeat([]int{-1}, 11), one(0), api.ErrFull},
		{"not there, before Ready", []int{0, 12}, one(-1), api.ErrMissing},
		{"below", []int{-1}, one(0), api.ErrMissing},
		{"the last one", []int{11}, one(0), api.OK},
		{"twice, before Ready", []int{0, 1, 0}, one(-1), api.ErrExists},
		{"twice, before one that is not there", []int{0, 0, 12}, one(0), api.ErrExists},
		{"not there, before one that is there twice", []int{0, 12, 0}, one(0), api.ErrMissing},
		{"not there, twice", []int{12, 12}, one(0), api.ErrMissing},
		{"no sites, before Ready", nil, span(2, 1), api.ErrOrder},
		{"Ready below", []int{0}, span(-1, 0), api.ErrRange},
		{"Ready below, before its order", []int{0}, span(0, -1), api.ErrRange},
		{"greatest Ready", []int{0}, span(0, 5000), api.OK},
		{"Ready above", []int{0}, span(0, 5001), api.ErrRange},
		{"Ready above, before its order", []int{0}, span(5001, 5000), api.ErrRange},
		{"Ready turned", []int{0}, span(5000, 0), api.ErrOrder},
	} {
		r := line(12, 5000)
		for i := range r.Paths {
			r.Paths[i].Time = one(0)
		}
		l, e := rescue.Fewest(r, c.sites, c.ready)
		if e != c.want || (len(l) == 0) != (e != api.OK) {
			t.Errorf("%s: Fewest = %v, %v, want %v", c.name, l, e, c.want)
		}
		for _, many := range []int{math.MinInt, -1, 0, 1, len(c.sites), len(c.sites) + 1, math.MaxInt} {
			want := c.want
			if want == api.OK && (many < 0 || many > len(c.sites)) {
				want = api.ErrRange
			}
			l, n, e := rescue.Most(r, c.sites, c.ready, many)
			if e != want || e != api.OK && len(l)+n > 0 || e == api.OK && len(l) != many {
				t.Errorf("%s: Most of %d = %v, %d, %v, want %v", c.name, many, l, n, e, want)
			}
		}
	}
}
