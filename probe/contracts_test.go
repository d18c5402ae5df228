package probe_test

import (
	"math"
	"slices"
	"testing"

	"sastrugi/api"
	"sastrugi/probe"
)

// P2.2: what is known at a place in an hour.
func TestKnown(t *testing.T) {
	two := []api.Look{core(0, 10, 490, 500), core(4, 12, 560, 600)}
	for i, c := range []struct {
		l           []api.Look
		place, hour int
		want        api.Span
	}{
		{looks(), 0, 10, span(500, 500)},
		{looks(), 1, 10, span(490, 510)},
		{looks(), 2, 10, span(480, 520)},
		{looks(), 3, 10, span(470, 530)}, // the slope is that of the lesser place
		{looks(), 4, 10, span(420, 580)},
		{looks(), 0, 14, span(492, 504)},
		{looks(), 0, 6, span(496, 508)},
		{looks(), 4, 14, span(412, 580)},  // 8 less at the place 0; nothing more at the place 3
		{looks(), 0, 40, span(440, 530)},  // there and back would be 60
		{looks(), 0, 70, span(380, 560)},  // as much
		{looks(), 0, 71, span(378, 560)},  // at the place 3
		{looks(), 0, 100, span(320, 560)}, // always
		{looks(), 0, 400, span(0, 560)},
		{nil, 2, 0, span(0, 3000)},
		{[]api.Look{core(2, 0, 3000, 3000)}, 2, 1, span(2998, 3000)},
		{[]api.Look{core(2, 10000, 3, 7)}, 2, 9999, span(2, 9)},
		{[]api.Look{core(2, 10000, 0, 0)}, 2, 9999, span(0, 2)},
		{two, 0, 10, span(490, 500)},
		{two, 4, 12, span(560, 580)},
		{two, 2, 10, span(500, 520)},
		{[]api.Look{core(1, 3, 100, 200), core(1, 3, 150, 250), radar(1, 3, 180, 180)}, 1, 3, span(180, 180)},
	} {
		if s, e := probe.Known(survey(), c.l, c.place, c.hour); s != c.want || e != api.OK {
			t.Errorf("%d: Known = %v, %v, want %v", i, s, e, c.want)
		}
	}
}

// P2.2: the least number of a part of the road.
func TestLeast(t *testing.T) {
	for i, c := range []struct {
		from, to, hour int
		want           api.Span
	}{
		{0, 4, 10, span(420, 500)},
		{1, 2, 10, span(480, 510)},
		{0, 0, 10, span(500, 500)},
		{4, 4, 10, span(420, 580)},
		{3, 4, 10, span(420, 530)},
		{0, 4, 14, span(412, 504)},
		{1, 4, 6, span(420, 518)}, // nothing grows at the place 3
	} {
		if s, e := probe.Least(survey(), looks(), c.from, c.to, c.hour); s != c.want || e != api.OK {
			t.Errorf("%d: Least = %v, %v, want %v", i, s, e, c.want)
		}
	}
}

// P2.3: where numbers are not those of a course.
func TestBreaks(t *testing.T) {
	even := []int{499, 499, 499, 499, 499}
	later := []api.Look{core(3, 11, 470, 480), core(0, 10, 500, 500)}
	for i, c := range []struct {
		l           []api.Look
		first       int
		course      [][]int
		hour, place int
		e           api.Errno
	}{
		{looks(), 9, [][]int{even, {500, 500, 500, 499, 499}}, -1, -1, api.OK},
		{nil, 0, [][]int{{5, 15, 26, 0, 0}}, 0, 2, api.OK},
		{looks(), 10, [][]int{even}, 0, 0, api.OK},
		{looks(), 8, [][]int{even, even, even}, 2, 0, api.OK},
		{looks(), 11, [][]int{even}, -1, -1, api.OK},                    // a look of another hour
		{later, 9, [][]int{even}, -1, -1, api.OK},                       // which no course goes on from
		{later, 11, [][]int{{475, 475, 475, 481, 475}}, 0, 3, api.OK},   // above the Value
		{later, 11, [][]int{{465, 465, 465, 469, 465}}, 0, 3, api.OK},   // below
		{later, 11, [][]int{{465, 465, 465, 470, 465}}, -1, -1, api.OK}, // at its Lo
		{nil, 0, [][]int{even, {499, 499, 499, 500, 499}}, 1, 3, api.OK},
		{nil, 0, [][]int{even, {500, 500, 500, 499, 499}, {501, 502, 501, 499, 499}}, 2, 1, api.OK},
		{nil, 0, [][]int{even, {497, 496, 499, 494, 493}}, 1, 1, api.OK},
		{nil, 0, [][]int{even, {497, 497, 499, 494, 494}, {498, 498, 500, 494, 489}}, -1, -1, api.OK},
		{nil, 0, [][]int{{0, 10, 20, 30, 80}}, -1, -1, api.OK},
		{nil, 0, [][]int{{80, 70, 60, 50, 0}}, -1, -1, api.OK},
		{nil, 0, [][]int{{0, 10, 20, 31, 81}}, 0, 3, api.OK},
		{nil, 0, [][]int{{81, 71, 61, 51, 0}}, 0, 4, api.OK},
		{nil, 0, [][]int{{3000, 3000, 3000, 3000, 3001}}, 0, 4, api.OK},
		{nil, 0, [][]int{{0, 0, 0, 0, -1}}, 0, 4, api.OK},
		{nil, 0, [][]int{{math.MaxInt, math.MinInt, 0, 0, 0}}, 0, 0, api.OK},
		{nil, 0, [][]int{{0, math.MinInt, math.MaxInt, 0, 0}}, 0, 1, api.OK},
		{nil, 10000, [][]int{even}, -1, -1, api.OK},
		{nil, 0, slices.Repeat([][]int{even}, 10001), -1, -1, api.OK},
		{nil, -1, nil, 0, 0, api.ErrRange},
		{nil, 10001, nil, 0, 0, api.ErrRange},
		{nil, math.MaxInt, [][]int{nil}, 0, 0, api.ErrRange},
		{nil, 0, nil, 0, 0, api.ErrShort},
		{nil, 10000, [][]int{}, 0, 0, api.ErrShort},
		{nil, 10000, [][]int{nil, nil}, 0, 0, api.ErrFull},
		{nil, 0, make([][]int, 10002), 0, 0, api.ErrFull},
		{nil, 0, [][]int{{-1, 0, 0, 0, 0}, even[1:]}, 0, 0, api.ErrForm},
		{nil, 0, [][]int{append([]int{0}, even...)}, 0, 0, api.ErrForm},
		{nil, 0, [][]int{nil}, 0, 0, api.ErrForm},
	} {
		h, p, e := probe.Breaks(survey(), c.l, c.first, c.course)
		if h != c.hour || p != c.place || e != c.e {
			t.Errorf("%d: Breaks = %d, %d, %v, want %d, %d, %v", i, h, p, e, c.hour, c.place, c.e)
		}
	}
}

// P2.4: the road as patches.
func TestCover(t *testing.T) {
	clear := []api.Patch{{From: 0, To: 4, Verdict: api.Never}}
	at1 := []api.Patch{{From: 0, To: 0, Verdict: api.Never}, {From: 1, To: 1, Verdict: api.Sure}, {From: 2, To: 4, Verdict: api.Never}}
	for i, c := range []struct {
		m    []api.Mark
		hour int
		want []api.Patch
	}{
		{nil, 0, clear},
		{[]api.Mark{crack(1, 1, 5, 1)}, 6, []api.Patch{{From: 0, To: 0, Verdict: api.Open}, {From: 1, To: 1, Verdict: api.Sure}, {From: 2, To: 2, Verdict: api.Open}, {From: 3, To: 4, Verdict: api.Never}}},
		{[]api.Mark{crack(1, 1, 5, 1), mend(1, 2, 6)}, 7, []api.Patch{{From: 0, To: 1, Verdict: api.Open}, {From: 2, To: 4, Verdict: api.Never}}},
		{[]api.Mark{crack(1, 1, 5, 1)}, 4, clear},
		{[]api.Mark{crack(1, 1, 5, 1)}, 5, at1},
		{[]api.Mark{crack(1, 1, 0, 100)}, 10000, []api.Patch{{From: 0, To: 0, Verdict: api.Open}, {From: 1, To: 1, Verdict: api.Sure}, {From: 2, To: 4, Verdict: api.Open}}},
		{[]api.Mark{crack(1, 1, 5, 0)}, 10000, at1},
		{[]api.Mark{crack(1, 1, 5, 1), mend(0, 4, 5)}, 9, clear},
		{[]api.Mark{mend(0, 4, 5), crack(1, 1, 5, 1)}, 5, at1},
		{[]api.Mark{mend(0, 4, 6), crack(1, 1, 5, 1)}, 5, at1}, // the mend is still to come
		{[]api.Mark{mend(0, 4, 6), crack(1, 1, 5, 1)}, 6, clear},
		{[]api.Mark{mend(0, 4, 4), crack(1, 1, 5, 0)}, 5, at1},
		{[]api.Mark{crack(1, 1, 5, 1), mend(0, 0, 6)}, 7, []api.Patch{{From: 0, To: 0, Verdict: api.Open}, {From: 1, To: 1, Verdict: api.Sure}, {From: 2, To: 3, Verdict: api.Open}, {From: 4, To: 4, Verdict: api.Never}}},
		{[]api.Mark{crack(0, 4, 5, 0), mend(2, 2, 5), mend(4, 4, 7)}, 8, []api.Patch{{From: 0, To: 1, Verdict: api.Sure}, {From: 2, To: 2, Verdict: api.Never}, {From: 3, To: 3, Verdict: api.Sure}, {From: 4, To: 4, Verdict: api.Never}}},
		{[]api.Mark{mark(api.MarkRidge, 0, 1, 2, 0), mark(api.MarkSeep, 2, 3, 3, 0)}, 3, []api.Patch{{From: 0, To: 3, Verdict: api.Sure}, {From: 4, To: 4, Verdict: api.Never}}},
		{[]api.Mark{crack(1, 1, 5, 1), mark(api.MarkSeep, 0, 0, 6, 0)}, 6, []api.Patch{{From: 0, To: 1, Verdict: api.Sure}, {From: 2, To: 2, Verdict: api.Open}, {From: 3, To: 4, Verdict: api.Never}}},
		{[]api.Mark{mark(api.MarkSeep, 0, 0, 6, 0), crack(1, 1, 5, 1)}, 6, []api.Patch{{From: 0, To: 1, Verdict: api.Sure}, {From: 2, To: 2, Verdict: api.Open}, {From: 3, To: 4, Verdict: api.Never}}},
		{[]api.Mark{mark(api.MarkMend, 2, 2, 5, 100)}, 6, clear}, // a mend covers nothing
	} {
		if l, e := probe.Cover(survey(), c.m, c.hour); e != api.OK || !slices.Equal(l, c.want) {
			t.Errorf("%d: Cover = %v, %v, want %v", i, l, e, c.want)
		}
	}
}

// P2.5: which places are stale.
func TestStale(t *testing.T) {
	for i, c := range []struct {
		l    []api.Look
		hour int
		want []api.Span
	}{
		{looks(), 10, []api.Span{span(1, 4)}},
		{looks(), 9, []api.Span{span(0, 4)}}, // a later look
		{looks(), 34, []api.Span{span(1, 4)}},
		{looks(), 35, []api.Span{span(0, 4)}},
		{[]api.Look{radar(2, 9, 0, 9)}, 21, nil},
		{[]api.Look{radar(2, 9, 0, 9)}, 22, []api.Span{span(3, 4)}}, // each place by its own reach
		{[]api.Look{radar(2, 9, 0, 9), core(3, 9, 0, 9), core(4, 0, 0, 9)}, 22, []api.Span{span(3, 4)}},
		{[]api.Look{core(1, 0, 0, 9), core(3, 0, 0, 9)}, 0, []api.Span{span(0, 0), span(2, 2), span(4, 4)}},
		{[]api.Look{{Kind: api.LookAuger, At: 0, Value: span(0, 9)}, {Kind: api.LookAuger, At: 4, Value: span(0, 9)}}, 0, []api.Span{span(2, 2)}},
		{[]api.Look{core(0, 30, 0, 9), core(0, 5, 0, 9)}, 54, []api.Span{span(1, 4)}}, // the last one counts
		{nil, 0, []api.Span{span(0, 4)}},
	} {
		if l, e := probe.Stale(survey(), c.l, c.hour); e != api.OK || !slices.Equal(l, c.want) {
			t.Errorf("%d: Stale = %v, %v, want %v", i, l, e, c.want)
		}
	}
}

// P2.5: where to look, and why fewer looks are not enough.
func TestPlan(t *testing.T) {
	seen := []api.Look{radar(2, 0, 0, 9)}
	for i, c := range []struct {
		s             api.Survey
		l             []api.Look
		hour, kind    int
		places, proof []int
	}{
		{survey(), looks(), 10, api.LookRadar, []int{3}, []int{1}},
		{survey(), looks(), 10, api.LookAuger, []int{2, 4}, []int{1, 4}},
		{survey(), looks(), 10, api.LookCore, []int{1, 2, 3, 4}, []int{1, 2, 3, 4}},
		{survey(), looks(), 9, api.LookRadar, []int{2}, []int{0}},
		{flat(12), nil, 0, api.LookRadar, []int{2, 7, 11}, []int{0, 5, 10}},
		{flat(12), nil, 0, api.LookAuger, []int{1, 4, 7, 10}, []int{0, 3, 6, 9}},
		{flat(12), seen, 0, api.LookAuger, []int{6, 9, 11}, []int{5, 8, 11}},
		{flat(12), seen, 1, api.LookRadar, []int{2, 7, 11}, []int{0, 5, 10}},
		{flat(5), seen, 0, api.LookCore, nil, nil},
		{flat(1), nil, 0, api.LookRadar, []int{0}, []int{0}},
	} {
		a, b, e := probe.Plan(c.s, c.l, c.hour, c.kind)
		if e != api.OK || !slices.Equal(a, c.places) || !slices.Equal(b, c.proof) {
			t.Errorf("%d: Plan = %v, %v, %v, want %v, %v", i, a, b, e, c.places, c.proof)
		}
	}
}

// P2.6: which places are shut, each for the least reason that holds.
func TestClose(t *testing.T) {
	both := append(looks(), radar(2, 9, 480, 520))
	seep := mark(api.MarkSeep, 0, 0, 10, 1)
	for i, c := range []struct {
		l          []api.Look
		m          []api.Mark
		need, hour int
		want       []api.Closure
	}{
		{looks(), nil, 450, 10, []api.Closure{{From: 1, To: 3, Reason: api.ReasonStale}, {From: 4, To: 4, Reason: api.ReasonThin}}},
		{both, nil, 450, 10, []api.Closure{{From: 4, To: 4, Reason: api.ReasonThin}}},
		{both, nil, 420, 10, nil},
		{both, nil, 421, 10, []api.Closure{{From: 4, To: 4, Reason: api.ReasonThin}}},
		{both, []api.Mark{seep}, 420, 11, []api.Closure{{From: 0, To: 1, Reason: api.ReasonMark}, {From: 4, To: 4, Reason: api.ReasonThin}}},
		{both, []api.Mark{seep}, 501, 10, []api.Closure{{From: 0, To: 4, Reason: api.ReasonThin}}},
		{both, []api.Mark{seep}, 0, 9, nil}, // the seep and the core are still to come
		{both, []api.Mark{crack(1, 2, 3, 0), mend(1, 1, 4)}, 0, 9, []api.Closure{{From: 2, To: 2, Reason: api.ReasonMark}}},
		{looks(), nil, 0, 9, []api.Closure{{From: 0, To: 4, Reason: api.ReasonStale}}},
		{looks(), nil, 1, 9, []api.Closure{{From: 0, To: 4, Reason: api.ReasonThin}}}, // nothing is known yet
		{looks(), []api.Mark{crack(2, 2, 0, 0)}, 0, 10, []api.Closure{{From: 1, To: 1, Reason: api.ReasonStale}, {From: 2, To: 2, Reason: api.ReasonMark}, {From: 3, To: 4, Reason: api.ReasonStale}}},
		{[]api.Look{radar(2, 0, 3000, 3000)}, nil, 3000, 0, []api.Closure{{From: 0, To: 1, Reason: api.ReasonThin}, {From: 3, To: 4, Reason: api.ReasonThin}}},
	} {
		if l, e := probe.Close(survey(), c.l, c.m, c.need, c.hour); e != api.OK || !slices.Equal(l, c.want) {
			t.Errorf("%d: Close = %v, %v, want %v", i, l, e, c.want)
		}
	}
}

// P2.6: up to which hour a place stays open.
func TestLasts(t *testing.T) {
	calm := api.Survey{Reaches: []api.Reach{{Long: 1, Every: 10000}}}
	both := append(looks(), radar(2, 9, 480, 520))
	seep := mark(api.MarkSeep, 0, 0, 10, 1)
	for i, c := range []struct {
		s                 api.Survey
		l                 []api.Look
		m                 []api.Mark
		need, hour, place int
		want              int
	}{
		{survey(), looks(), nil, 480, 10, 0, 20},
		{survey(), looks(), nil, 480, 20, 0, 20},
		{survey(), looks(), nil, 480, 21, 0, -1},
		{survey(), looks(), nil, 500, 10, 0, 10},
		{survey(), looks(), nil, 501, 10, 0, -1},
		{survey(), looks(), nil, 0, 10, 0, 34},
		{survey(), looks(), nil, 0, 10, 1, -1},
		{survey(), both, []api.Mark{seep}, 0, 10, 2, 11},
		{survey(), both, []api.Mark{seep}, 0, 10, 0, -1},
		{survey(), both, []api.Mark{seep}, 0, 9, 2, 33}, // neither the seep nor the core is there
		{survey(), both, []api.Mark{crack(0, 0, 0, 1), mend(0, 4, 8), mend(0, 4, 20)}, 0, 9, 4, 21},
		{survey(), both, []api.Mark{crack(0, 0, 0, 1), mend(1, 4, 8), mend(0, 4, 10)}, 0, 9, 4, 11}, // the second mend does not follow
		{calm, []api.Look{core(0, 0, 9, 9)}, nil, 9, 0, 0, 10000},
		{calm, []api.Look{core(0, 0, 9, 9)}, nil, 9, 10000, 0, 10000},
		{calm, []api.Look{core(0, 9999, 9, 9)}, []api.Mark{crack(0, 0, 10000, 0)}, 9, 9999, 0, 10000},
	} {
		if n, e := probe.Lasts(c.s, c.l, c.m, c.need, c.hour, c.place); n != c.want || e != api.OK {
			t.Errorf("%d: Lasts = %d, %v, want %d", i, n, e, c.want)
		}
	}
}

// P2.7: the looks of a track, rounded outwards.
func TestLooks(t *testing.T) {
	x := api.Track{Speed: span(160, 170), Echoes: []api.Echo{
		{At: 2, Hour: 9, Time: span(6000, 6001)},
		{At: 999, Hour: 10000, Time: span(0, 1000000)},
		{At: 0, Hour: 0, Time: span(37500, 37501)},
		{At: 0, Hour: 0, Time: span(37499, 37600)},
		{At: 1, Hour: 0, Time: span(6013, 6000*2)},
	}}
	want := []api.Look{radar(2, 9, 480, 511), radar(999, 10000, 0, 3000), radar(0, 0, 3000, 3000), radar(0, 0, 2999, 3000), radar(1, 0, 481, 1020)}
	if l, e := probe.Looks(x); e != api.OK || !slices.Equal(l, want) {
		t.Errorf("Looks = %v, %v, want %v", l, e, want)
	}
	fast := api.Track{Speed: span(1, 1000), Echoes: []api.Echo{{Time: span(1999, 2001)}, {Time: span(2000, 1000000)}, {}}}
	want = []api.Look{radar(0, 0, 0, 1001), radar(0, 0, 1, 3000), radar(0, 0, 0, 0)}
	if l, e := probe.Looks(fast); e != api.OK || !slices.Equal(l, want) {
		t.Errorf("Looks = %v, %v, want %v", l, e, want)
	}
	if l, e := probe.Looks(api.Track{Speed: span(1, 1)}); e != api.OK || len(l) > 0 {
		t.Errorf("Looks = %v, %v", l, e)
	}
}

// P2.7, P2.8: the errors of a track, in their order.
func TestTrackErrors(t *testing.T) {
	one := span(1, 1)
	for i, c := range []struct {
		t    api.Track
		want api.Errno
	}{
		{api.Track{Speed: one}, api.OK},
		{api.Track{Speed: span(1000, 1000)}, api.OK},
		{api.Track{}, api.ErrRange},
		{api.Track{Speed: span(0, 1)}, api.ErrRange},
		{api.Track{Speed: span(1, 1001)}, api.ErrRange},
		{api.Track{Speed: span(1, -1)}, api.ErrRange},
		{api.Track{Speed: span(2, 1), Echoes: make([]api.Echo, 201)}, api.ErrOrder},
		{api.Track{Speed: one, Echoes: make([]api.Echo, 200)}, api.OK},
		{api.Track{Speed: one, Echoes: append([]api.Echo{{At: -1}}, make([]api.Echo, 200)...)}, api.ErrFull},
		{api.Track{Speed: one, Echoes: []api.Echo{{At: 999, Hour: 10000, Time: span(0, 1000000)}}}, api.OK},
		{api.Track{Speed: one, Echoes: []api.Echo{{At: 1000, Time: span(2, 1)}}}, api.ErrRange},
		{api.Track{Speed: one, Echoes: []api.Echo{{At: -1, Time: span(2, 1)}}}, api.ErrRange},
		{api.Track{Speed: one, Echoes: []api.Echo{{Hour: -1}}}, api.ErrRange},
		{api.Track{Speed: one, Echoes: []api.Echo{{Hour: 10001}}}, api.ErrRange},
		{api.Track{Speed: one, Echoes: []api.Echo{{Time: span(0, 1000001)}}}, api.ErrRange},
		{api.Track{Speed: one, Echoes: []api.Echo{{Time: span(-1, 0)}}}, api.ErrRange},
		{api.Track{Speed: one, Echoes: []api.Echo{{Time: span(2, 1)}, {At: -1}}}, api.ErrOrder},
		{api.Track{Speed: one, Echoes: []api.Echo{{}, {At: -1}}}, api.ErrRange},
	} {
		l, a := probe.Looks(c.t)
		text, b := probe.Write(c.t)
		if a != c.want || b != c.want || c.want != api.OK && (len(l) > 0 || text != "") {
			t.Errorf("%d: Looks = %v, %v, Write = %q, %v, want %v", i, l, a, text, b, c.want)
		}
	}
}
