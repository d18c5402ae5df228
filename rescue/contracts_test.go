package rescue_test

import (
	"slices"
	"testing"

	"sastrugi/api"
	"sastrugi/rescue"
)

// drive is a rescue of four spots without posts, whose paths are of all kinds, and a post that drives, at a spot.
func drive(spot int, paths ...api.Path) api.Rescue {
	r := road()
	r.Paths, r.Posts = paths, []api.Post{{Spot: spot, Ready: span(2, 3)}}
	return r
}

// P7.1: Go, worked out by hand: least sums, paths of all verdicts, and flights.
func TestGo(t *testing.T) {
	air := []api.Span{span(0, 5000), span(1, 2), one(3), one(0)}
	high := road()
	high.Paths, high.Posts = nil, []api.Post{{Spot: 3, Ready: span(1, 5000), Flies: api.Sure, Air: air}}
	for _, c := range []struct {
		name string
		r    api.Rescue
		post int
		want []api.Span
	}{
		{"R", road(), 0, []api.Span{span(2, 3), span(7, 11), span(14, 31), far}},
		{"R, by air", road(), 1, []api.Span{span(31, 1000000), span(21, 1000000), span(1, 1000000), span(7, 1000000)}},
		{"surely by air", flying(api.Sure), 1, []api.Span{span(31, 41), span(21, 26), one(1), span(7, 10)}},
		{"never by air", flying(api.Never), 1, []api.Span{far, far, far, far}},
		{"by air alone, and to its own spot as to all others", high, 0, []api.Span{span(1, 10000), span(2, 5002), span(4, 5003), span(1, 5000)}},
		{"no paths", drive(2), 0, []api.Span{far, far, span(2, 3), far}},
		{"against a path's order", drive(3, path(0, 3, span(4, 5), api.Sure)), 0, []api.Span{span(6, 8), far, far, span(2, 3)}},
		{"two paths, the one shorter at its least, the other one at its greatest", drive(0, path(0, 1, span(1, 9), api.Sure), path(1, 0, span(4, 5), api.Sure)), 0, []api.Span{span(2, 3), span(3, 8), far, far}},
		{"around", drive(0, path(0, 1, one(9), api.Sure), path(0, 2, one(2), api.Sure), path(3, 2, one(2), api.Sure), path(1, 3, one(2), api.Sure)), 0, []api.Span{span(2, 3), span(8, 9), span(4, 5), span(6, 7)}},
		{"around perhaps", drive(0, path(0, 1, one(9), api.Sure), path(0, 2, one(2), api.Open), path(2, 1, one(2), api.Sure)), 0, []api.Span{span(2, 3), span(6, 12), span(4, 14), far}},
		{"never around", drive(0, path(0, 1, one(9), api.Sure), path(0, 2, one(2), api.Never), path(2, 1, one(2), api.Sure)), 0, []api.Span{span(2, 3), span(11, 12), span(13, 14), far}},
		{"over what is perhaps open alone", drive(0, path(0, 1, one(9), api.Open)), 0, []api.Span{span(2, 3), span(11, 1000000), far, far}},
		{"paths without time", drive(0, path(0, 1, one(0), api.Sure), path(1, 2, span(0, 1), api.Sure), path(2, 0, one(0), api.Never)), 0, []api.Span{span(2, 3), span(2, 3), span(2, 4), far}},
	} {
		if l, e := rescue.Go(c.r, c.post); e != api.OK || !slices.Equal(l, c.want) {
			t.Errorf("%s: Go = %v, %v, want %v", c.name, l, e, c.want)
		}
	}
}

// P7.1: Lives, at the edges of chills.
func TestLives(t *testing.T) {
	for i, c := range []struct{ water, want api.Span }{
		{span(0, 10), span(15, 30)},
		{span(10, 20), span(15, 60)},
		{span(-10, 0), span(10, 30)},
		{span(50, 60), span(60, 90)},
		{one(-400), span(10, 20)},
		{one(-1), span(10, 20)},
		{one(0), span(15, 30)},
		{one(14), span(15, 30)},
		{one(15), span(30, 60)},
		{one(49), span(30, 60)},
		{one(50), span(60, 90)},
		{one(400), span(60, 90)},
		{span(-1, 14), span(10, 30)},
		{span(-1, 15), span(10, 60)},
		{span(-400, 400), span(10, 90)},
	} {
		r := road()
		r.Water[2] = c.water
		l, e := rescue.Lives(r)
		if e != api.OK || !slices.Equal(l, []api.Span{span(15, 30), span(15, 60), c.want, span(60, 90)}) {
			t.Errorf("%d: Lives = %v, %v, want %v", i, l, e, c.want)
		}
	}
	r := line(2, 0)
	r.Water[1] = span(-400, 400)
	if l, e := rescue.Lives(r); e != api.OK || !slices.Equal(l, []api.Span{one(0), one(0)}) {
		t.Error("one chill:", l, e)
	}
}

// manned is a rescue of one spot with a post that is manned from a minute up to another one.
func manned(from, to int) api.Rescue {
	r := line(1, 5)
	r.Posts = []api.Post{{From: from, To: to, Ready: one(5)}}
	return r
}

// P7.1 and P7.2: in which minutes of the day a post is manned: Reach, Cover and Gaps.
func TestManned(t *testing.T) {
	for _, c := range []struct {
		from, to int
		gaps     []api.Span
	}{
		{0, 0, nil},
		{700, 700, nil},
		{1439, 1439, nil},
		{0, 1, []api.Span{span(1, 1439)}},
		{0, 1439, []api.Span{one(1439)}},
		{1, 0, []api.Span{one(0)}},
		{1439, 0, []api.Span{span(0, 1438)}},
		{1439, 1, []api.Span{span(1, 1438)}},
		{1438, 1439, []api.Span{span(0, 1437), one(1439)}},
		{360, 1080, []api.Span{span(0, 359), span(1080, 1439)}},
		{1080, 360, []api.Span{span(360, 1079)}},
		{701, 700, []api.Span{one(700)}},
	} {
		r := manned(c.from, c.to)
		if l, e := rescue.Gaps(r, 0); e != api.OK || !slices.Equal(l, c.gaps) {
			t.Errorf("Gaps from %d to %d = %v, %v, want %v", c.from, c.to, l, e, c.gaps)
		}
		for minute := range 1440 {
			time, verdict := one(5), api.Sure
			if slices.ContainsFunc(c.gaps, func(s api.Span) bool { return within(minute, s) }) {
				time, verdict = far, api.Never
			}
			l, e := rescue.Reach(r, minute)
			v, f := rescue.Cover(r, minute)
			if e != api.OK || f != api.OK || !slices.Equal(l, []api.Span{time}) || !slices.Equal(v, []int{verdict}) {
				t.Fatalf("from %d to %d, in %d: %v, %v, %v, %v", c.from, c.to, minute, l, v, e, f)
			}
		}
	}
}

// P7.1: Reach: the least of all posts that are manned, of each end for itself.
func TestReach(t *testing.T) {
	none := road()
	none.Posts = nil
	night := road()
	night.Posts[0].From, night.Posts[0].To = 1200, 300
	both := road()
	both.Posts[0].Ready, both.Posts[1].Ready = span(5, 6), span(0, 40)
	both.Posts[1].Flies, both.Posts[1].Air = api.Sure, []api.Span{span(0, 9), one(0), span(20, 21), span(5000, 5000)}
	for i, c := range []struct {
		r      api.Rescue
		minute int
		want   []api.Span
		cover  []int
	}{
		{road(), 400, []api.Span{span(2, 3), span(7, 11), span(1, 31), span(7, 1000000)}, []int{api.Sure, api.Sure, api.Open, api.Open}},
		{road(), 1079, []api.Span{span(2, 3), span(7, 11), span(1, 31), span(7, 1000000)}, []int{api.Sure, api.Sure, api.Open, api.Open}},
		{road(), 1080, []api.Span{span(2, 3), span(7, 11), span(14, 31), far}, []int{api.Sure, api.Sure, api.Open, api.Never}},
		{road(), 0, []api.Span{span(2, 3), span(7, 11), span(14, 31), far}, []int{api.Sure, api.Sure, api.Open, api.Never}},
		{road(), 1439, []api.Span{span(2, 3), span(7, 11), span(14, 31), far}, []int{api.Sure, api.Sure, api.Open, api.Never}},
		{none, 400, []api.Span{far, far, far, far}, []int{api.Never, api.Never, api.Never, api.Never}},
		{night, 700, []api.Span{span(31, 1000000), span(21, 1000000), span(1, 1000000), span(7, 1000000)}, []int{api.Never, api.Open, api.Open, api.Open}},
		{both, 700, []api.Span{span(0, 6), span(0, 14), span(17, 34), span(5000, 5040)}, []int{api.Sure, api.Sure, api.Open, api.Never}},
	} {
		l, e := rescue.Reach(c.r, c.minute)
		v, f := rescue.Cover(c.r, c.minute)
		if e != api.OK || f != api.OK || !slices.Equal(l, c.want) || !slices.Equal(v, c.cover) {
			t.Errorf("%d: Reach = %v, Cover = %v, %v, %v, want %v, %v", i, l, v, e, f, c.want, c.cover)
		}
	}
}

// P7.1: Cover, a minute beside each edge.
func TestCoverEdges(t *testing.T) {
	for i, c := range []struct {
		time, life api.Span
		want       int
	}{
		{span(3, 10), span(10, 20), api.Sure},
		{span(3, 11), span(10, 20), api.Open},
		{span(20, 30), span(10, 20), api.Open},
		{span(21, 30), span(10, 20), api.Never},
		{one(0), one(0), api.Sure},
		{one(1), one(0), api.Never},
		{span(0, 1), one(0), api.Open},
		{one(5000), one(5000), api.Sure},
		{span(10, 20), span(10, 20), api.Open},
	} {
		r := manned(0, 0)
		r.Posts[0].Ready, r.Chills[0].Minutes = c.time, c.life
		v, e := rescue.Cover(r, 7)
		if e != api.OK || !slices.Equal(v, []int{c.want}) {
			t.Errorf("%d: Cover = %v, %v, want %d", i, v, e, c.want)
		}
		var want []api.Span
		if c.want != api.Sure {
			want = []api.Span{span(0, 1439)}
		}
		if l, e := rescue.Gaps(r, 0); e != api.OK || !slices.Equal(l, want) {
			t.Errorf("%d: Gaps = %v, %v, want %v", i, l, e, want)
		}
	}
}

// P7.2: gaps between several posts, of which not all are in time.
func TestGaps(t *testing.T) {
	shifts := func(list ...api.Post) api.Rescue {
		r := line(3, 5)
		r.Posts = list
		return r
	}
	post := func(from, to, spot, ready int) api.Post {
		return api.Post{Spot: spot, Ready: one(ready), From: from, To: to}
	}
	for i, c := range []struct {
		r    api.Rescue
		spot int
		want []api.Span
	}{
		{road(), 0, nil},
		{road(), 1, nil},
		{road(), 2, []api.Span{span(0, 1439)}},
		{road(), 3, []api.Span{span(0, 1439)}},
		{flying(api.Sure), 2, []api.Span{span(0, 359), span(1080, 1439)}},
		{flying(api.Sure), 3, []api.Span{span(0, 359), span(1080, 1439)}},
		{shifts(), 1, []api.Span{span(0, 1439)}},
		{shifts(post(480, 960, 0, 5), post(960, 1380, 0, 5)), 0, []api.Span{span(0, 479), span(1380, 1439)}},
		{shifts(post(480, 960, 0, 5), post(961, 1380, 0, 5)), 0, []api.Span{span(0, 479), one(960), span(1380, 1439)}},
		{shifts(post(480, 960, 0, 5), post(961, 1380, 0, 5), post(0, 0, 1, 5)), 0, []api.Span{span(0, 479), one(960), span(1380, 1439)}},
		{shifts(post(480, 960, 0, 5), post(961, 1380, 0, 5), post(0, 0, 1, 4)), 0, nil},
		{shifts(post(900, 1000, 0, 3), post(100, 1100, 2, 3), post(500, 600, 0, 4)), 2, []api.Span{span(0, 99), span(1100, 1439)}},
		{shifts(post(900, 1000, 0, 3), post(500, 600, 0, 4)), 2, []api.Span{span(0, 899), span(1000, 1439)}},
		{shifts(post(900, 1000, 0, 3), post(500, 600, 1, 4)), 2, []api.Span{span(0, 499), span(600, 899), span(1000, 1439)}},
		{shifts(post(600, 600, 0, 0)), 2, nil},
		{shifts(post(1200, 100, 0, 0), post(100, 1200, 1, 0)), 2, nil},
	} {
		if l, e := rescue.Gaps(c.r, c.spot); e != api.OK || !slices.Equal(l, c.want) {
			t.Errorf("%d: Gaps = %v, %v, want %v", i, l, e, c.want)
		}
	}
}

// P7.3: Send, worked out by hand.
func TestSend(t *testing.T) {
	// Each post of edge is at the spot of its number, and one lives just as long as it takes to the next spot.
	edge := line(4, 1)
	for spot := range 4 {
		edge.Posts = append(edge.Posts, api.Post{Spot: spot})
	}
	late := copied(edge)
	late.Posts[1].Ready = span(0, 2)
	for i, c := range []struct {
		r      api.Rescue
		minute int
		calls  []int
		posts  []int
		saved  int
	}{
		{road(), 400, []int{1}, []int{0}, 1},
		{road(), 400, []int{1, 0}, []int{0, -1}, 1},
		{road(), 400, []int{2}, []int{-1}, 0},
		{road(), 400, nil, nil, 0},
		{flying(api.Sure), 400, []int{2, 1}, []int{1, 0}, 2},
		{flying(api.Sure), 359, []int{2, 1}, []int{-1, 0}, 1},
		{flying(api.Sure), 360, []int{2, 1}, []int{1, 0}, 2},
		{flying(api.Sure), 1079, []int{2, 1}, []int{1, 0}, 2},
		{flying(api.Sure), 1080, []int{2, 1}, []int{-1, 0}, 1},
		{flying(api.Sure), 400, []int{3, 2}, []int{1, -1}, 1},
		{flying(api.Sure), 400, []int{2, 3, 0}, []int{1, -1, 0}, 2},
		{three(), 0, []int{0, 1}, []int{0, 2}, 2},
		{three(), 0, []int{0, 0, 0}, []int{0, 1, 2}, 3},
		{three(), 0, []int{0, 1, 1}, []int{1, 0, 2}, 3},
		{three(), 0, []int{1, 1, 0}, []int{0, 2, 1}, 3},
		{three(), 0, []int{1, 1, 1}, []int{0, 2, -1}, 2},
		{three(), 0, []int{2, 2, 0, 2}, []int{-1, -1, 0, -1}, 1},
		{three(), 0, []int{0, 0, 0, 0, 0, 0}, []int{0, 1, 2, -1, -1, -1}, 3},
		{edge, 9, []int{0, 1, 2, 3}, []int{0, 1, 2, 3}, 4},
		{edge, 9, []int{3, 2, 1, 0}, []int{2, 3, 0, 1}, 4},
		{edge, 9, []int{1, 1, 1, 1}, []int{0, 1, 2, -1}, 3},
		{edge, 9, []int{0, 0, 0, 3, 3, 3}, []int{0, 1, -1, 2, 3, -1}, 4},
		// The post 1 is perhaps not in time at all, the post 0 surely is at the spots 0 and 1.
		{late, 9, []int{0, 0, 1, 1}, []int{0, -1, 2, -1}, 2},
		{late, 9, []int{1, 0}, []int{2, 0}, 2},
	} {
		l, n, e := rescue.Send(c.r, c.minute, c.calls)
		if e != api.OK || n != c.saved || !slices.Equal(l, c.posts) {
			t.Errorf("%d: Send = %v, %d, %v, want %v, %d", i, l, n, e, c.posts, c.saved)
		}
	}
}

// P7.4: Fewest, worked out by hand.
func TestFewest(t *testing.T) {
	for i, c := range []struct {
		r     api.Rescue
		sites []int
		ready api.Span
		want  []int
		e     api.Errno
	}{
		{road(), []int{0, 1, 3}, span(2, 3), nil, api.ErrMissing},
		{road(), []int{0, 1, 2, 3}, span(2, 3), []int{0, 2, 3}, api.OK},
		{road(), []int{3, 2, 1, 0}, span(2, 3), []int{3, 2, 1}, api.OK},
		{road(), []int{1, 2, 0, 3}, span(2, 3), []int{1, 2, 3}, api.OK},
		{road(), nil, span(2, 3), nil, api.ErrMissing},
		{line(1, 9), nil, one(0), nil, api.ErrMissing},
		{line(1, 9), []int{0}, one(9), []int{0}, api.OK},
		{line(1, 9), []int{0}, one(10), nil, api.ErrMissing},
		{line(1, 9), []int{0}, span(0, 10), nil, api.ErrMissing},
		{line(5, 2), []int{0, 1, 2, 3, 4}, one(0), []int{2}, api.OK},
		{line(5, 2), []int{0, 1, 3, 4}, one(0), []int{0, 3}, api.OK},
		{line(5, 2), []int{4, 3, 1, 0}, one(0), []int{4, 1}, api.OK},
		{line(5, 2), []int{3, 4, 0, 1}, one(0), []int{3, 0}, api.OK},
		{line(5, 2), []int{0, 1}, one(0), nil, api.ErrMissing},
		{line(5, 2), []int{0, 1, 2, 3, 4}, span(0, 1), []int{0, 3}, api.OK},
		{line(5, 2), []int{0, 1, 2, 3, 4}, span(1, 2), []int{0, 1, 2, 3, 4}, api.OK},
		{line(10, 0), []int{9, 8, 7, 6, 5, 4, 3, 2, 1, 0}, one(0), []int{9, 8, 7, 6, 5, 4, 3, 2, 1, 0}, api.OK},
		{line(10, 0), []int{9, 8, 7, 6, 5, 4, 3, 2, 1}, one(0), nil, api.ErrMissing},
		{line(40, 10), []int{0, 10, 20, 30, 39}, one(0), []int{10, 30}, api.OK},
		{line(40, 9), []int{0, 10, 20, 30, 39}, one(0), []int{0, 10, 20, 30}, api.OK},
		{line(40, 19), []int{0, 10, 20, 30, 39}, one(0), []int{0, 20}, api.OK},
		{line(40, 20), []int{0, 10, 20, 30, 39}, one(0), []int{20}, api.OK},
	} {
		if l, e := rescue.Fewest(c.r, c.sites, c.ready); e != c.e || !slices.Equal(l, c.want) {
			t.Errorf("%d: Fewest = %v, %v, want %v, %v", i, l, e, c.want, c.e)
		}
	}
}

// P7.4: Most, worked out by hand.
func TestMost(t *testing.T) {
	all := []int{0, 1, 2, 3}
	for i, c := range []struct {
		r       api.Rescue
		sites   []int
		ready   api.Span
		many    int
		want    []int
		covered int
	}{
		{road(), all, span(2, 3), 0, nil, 0},
		{road(), all, span(2, 3), 1, []int{0}, 2},
		{road(), all, span(2, 3), 2, []int{0, 2}, 3},
		{road(), all, span(2, 3), 3, []int{0, 2, 3}, 4},
		{road(), all, span(2, 3), 4, all, 4},
		{road(), []int{3, 1, 0}, span(2, 3), 1, []int{1}, 2},
		{road(), []int{3, 1, 0}, span(2, 3), 2, []int{3, 1}, 3},
		{road(), nil, span(2, 3), 0, nil, 0},
		{road(), all, one(5000), 2, []int{0, 1}, 0},
		{line(5, 2), []int{4, 0, 1, 3}, one(0), 1, []int{1}, 4},
		{line(5, 2), []int{4, 0, 1, 3}, one(0), 2, []int{4, 0}, 5},
		{line(5, 2), []int{0, 4}, one(0), 1, []int{0}, 3},
		{line(40, 10), []int{0, 10, 20, 30, 39}, one(0), 1, []int{10}, 21},
		{line(40, 10), []int{0, 10, 20, 30, 39}, one(0), 2, []int{10, 30}, 40},
		{line(40, 10), []int{0, 20, 30, 39}, one(0), 2, []int{0, 20}, 31},
	} {
		l, n, e := rescue.Most(c.r, c.sites, c.ready, c.many)
		if e != api.OK || n != c.covered || !slices.Equal(l, c.want) {
			t.Errorf("%d: Most = %v, %d, %v, want %v, %d", i, l, n, e, c.want, c.covered)
		}
	}
}

// P7.4: the posts of the rescue do not count, but sites do the whole day, and drive.
func TestSitesInsteadOfPosts(t *testing.T) {
	r := line(3, 5)
	r.Posts = []api.Post{{Spot: 1, From: 5, To: 6, Flies: api.Sure, Air: make([]api.Span, 3)}}
	if l, e := rescue.Fewest(r, []int{0}, one(4)); e != api.ErrMissing || len(l) > 0 {
		t.Error(l, e)
	}
	if l, n, e := rescue.Most(r, []int{0}, one(4), 1); e != api.OK || n != 2 || !slices.Equal(l, []int{0}) {
		t.Error(l, n, e)
	}
	if l, e := rescue.Fewest(r, []int{0}, one(3)); e != api.OK || !slices.Equal(l, []int{0}) {
		t.Error(l, e)
	}
}
