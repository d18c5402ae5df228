package probe_test

import (
	"math"
	"slices"
	"testing"

	"sastrugi/api"
	"sastrugi/probe"
)

// surveyErrors are surveys with the error of each.
var surveyErrors = []struct {
	name   string
	change func(s *api.Survey)
	want   api.Errno
}{
	{"as it is", func(s *api.Survey) {}, api.OK},
	{"no reach", func(s *api.Survey) { s.Reaches = nil }, api.ErrShort},
	{"no reach, before sight", func(s *api.Survey) { s.Reaches, s.Sight[0] = []api.Reach{}, -1 }, api.ErrShort},
	{"most reaches", func(s *api.Survey) { s.Reaches = slices.Repeat(s.Reaches[:1], 20) }, api.OK},
	{"reaches above, before their own errors", func(s *api.Survey) { s.Reaches = make([]api.Reach, 21) }, api.ErrFull},
	{"no length", func(s *api.Survey) { s.Reaches[1].Long = 0 }, api.ErrRange},
	{"most places of a reach", func(s *api.Survey) { s.Reaches = []api.Reach{{Long: 1000}} }, api.OK},
	{"length above", func(s *api.Survey) { s.Reaches[0].Long = 1001 }, api.ErrRange},
	{"lengths whose sum is beyond a type", func(s *api.Survey) { s.Reaches[0].Long, s.Reaches[1].Long = math.MaxInt, math.MaxInt }, api.ErrRange},
	{"flat", func(s *api.Survey) { s.Reaches[0].Slope = 0 }, api.OK},
	{"steepest", func(s *api.Survey) { s.Reaches[0].Slope = 3000 }, api.OK},
	{"slope above", func(s *api.Survey) { s.Reaches[0].Slope = 3001 }, api.ErrRange},
	{"slope below", func(s *api.Survey) { s.Reaches[1].Slope = -1 }, api.ErrRange},
	{"thins most", func(s *api.Survey) { s.Reaches[0].Thin = 1000 }, api.OK},
	{"thins above", func(s *api.Survey) { s.Reaches[0].Thin = 1001 }, api.ErrRange},
	{"thins below", func(s *api.Survey) { s.Reaches[1].Thin = -1 }, api.ErrRange},
	{"grows most", func(s *api.Survey) { s.Reaches[0].Grow = 1000 }, api.OK},
	{"grows above", func(s *api.Survey) { s.Reaches[1].Grow = 1001 }, api.ErrRange},
	{"grows below", func(s *api.Survey) { s.Reaches[0].Grow = -1 }, api.ErrRange},
	{"every hour", func(s *api.Survey) { s.Reaches[0].Every = 0 }, api.OK},
	{"once for all", func(s *api.Survey) { s.Reaches[0].Every = 10000 }, api.OK},
	{"every above", func(s *api.Survey) { s.Reaches[0].Every = 10001 }, api.ErrRange},
	{"every below", func(s *api.Survey) { s.Reaches[1].Every = -1 }, api.ErrRange},
	{"most places", func(s *api.Survey) { s.Reaches[0].Long = 998 }, api.OK},
	{"places above", func(s *api.Survey) { s.Reaches[0].Long = 999 }, api.ErrFull},
	{"places above, behind each reach", func(s *api.Survey) { s.Reaches[0].Long, s.Reaches[1].Every = 999, -1 }, api.ErrRange},
	{"places above, before sight", func(s *api.Survey) { s.Reaches[0].Long, s.Sight[0] = 999, -1 }, api.ErrFull},
	{"sees farthest", func(s *api.Survey) { s.Sight = [3]int{50, 50, 50} }, api.OK},
	{"cores see above", func(s *api.Survey) { s.Sight[0] = 51 }, api.ErrRange},
	{"augers see below", func(s *api.Survey) { s.Sight[1] = -1 }, api.ErrRange},
	{"radar sees above", func(s *api.Survey) { s.Sight[2] = 51 }, api.ErrRange},
}

// answers are the errors of all functions that a survey is given to, with arguments that are otherwise wrong, as far as they can be; whether nothing is returned beside an error is told, too.
func answers(s api.Survey, l []api.Look, m []api.Mark) (list []api.Errno, bare bool) {
	known, a := probe.Known(s, l, -1, -1)
	least, b := probe.Least(s, l, -1, -2, -1)
	hour, place, c := probe.Breaks(s, l, -1, nil)
	stale, d := probe.Stale(s, l, -1)
	places, proof, f := probe.Plan(s, l, -1, 0)
	closures, g := probe.Close(s, l, m, -1, -1)
	last, h := probe.Lasts(s, l, m, -1, -1, -1)
	bare = known == span(0, 0) && least == span(0, 0) && hour == 0 && place == 0 && len(stale) == 0 && len(places) == 0 && len(proof) == 0 && len(closures) == 0 && last == 0
	return []api.Errno{a, b, c, d, f, g, h}, bare
}

// P2.1, and R1: the error of the survey comes before all others.
func TestSurveyErrors(t *testing.T) {
	badLooks, badMarks := make([]api.Look, 201), make([]api.Mark, 101)
	for _, c := range surveyErrors {
		s := survey()
		c.change(&s)
		if e := probe.Check(s); e != c.want {
			t.Errorf("%s: Check = %v, want %v", c.name, e, c.want)
		}
		a, b := probe.CheckLooks(s, nil), probe.CheckMarks(s, nil)
		if a != c.want || b != c.want {
			t.Errorf("%s: CheckLooks = %v, CheckMarks = %v, want %v", c.name, a, b, c.want)
		}
		if c.want == api.OK {
			continue
		}
		list, bare := answers(s, badLooks, badMarks)
		patches, e := probe.Cover(s, badMarks, -1)
		list = append(list, e, probe.CheckLooks(s, badLooks), probe.CheckMarks(s, badMarks))
		for i, e := range list {
			if e != c.want || !bare || len(patches) > 0 {
				t.Errorf("%s: function %d returns %v, want %v", c.name, i, e, c.want)
			}
		}
	}
}

// P2.1, and R1: the error of the looks comes behind that of the survey and before all others; their clash comes last.
func TestLookErrors(t *testing.T) {
	good := core(0, 10, 500, 500)
	for i, c := range []struct {
		l    []api.Look
		want api.Errno
	}{
		{nil, api.OK},
		{[]api.Look{good}, api.OK},
		{slices.Repeat([]api.Look{good}, 200), api.OK},
		{slices.Repeat([]api.Look{good}, 201), api.ErrFull},
		{make([]api.Look, 201), api.ErrFull},
		{[]api.Look{{Kind: 0, At: -1}}, api.ErrKind},
		{[]api.Look{{Kind: 4, At: -1}}, api.ErrKind},
		{[]api.Look{{Kind: -1}}, api.ErrKind},
		{[]api.Look{{Kind: 1}, {Kind: 2}, {Kind: 3}}, api.OK},
		{[]api.Look{core(5, -1, 2, 1)}, api.ErrMissing},
		{[]api.Look{core(-1, -1, 2, 1)}, api.ErrMissing},
		{[]api.Look{core(4, 10000, 0, 3000)}, api.OK},
		{[]api.Look{core(4, 10001, 2, 1)}, api.ErrRange},
		{[]api.Look{core(4, -1, 2, 1)}, api.ErrRange},
		{[]api.Look{core(4, 0, -1, 0)}, api.ErrRange},
		{[]api.Look{core(4, 0, 2, 3001)}, api.ErrRange},
		{[]api.Look{core(4, 0, 3001, 1)}, api.ErrRange},
		{[]api.Look{core(4, 0, 2, 1)}, api.ErrOrder},
		{[]api.Look{core(4, 0, 2, 1), {}}, api.ErrOrder},
		{[]api.Look{good, good, {}}, api.ErrKind},
		{[]api.Look{good, core(0, 10, 501, 501)}, api.ErrClash},
		{[]api.Look{good, core(0, 10, 501, 501), core(9, 0, 0, 0)}, api.ErrMissing},
		{[]api.Look{good, core(1, 10, 510, 510)}, api.OK},
		{[]api.Look{good, core(1, 10, 511, 511)}, api.ErrClash},
		{[]api.Look{core(1, 10, 511, 511), good}, api.ErrClash},
		{[]api.Look{good, core(1, 10, 489, 489)}, api.ErrClash},
		{[]api.Look{good, core(0, 15, 505, 505)}, api.OK},
		{[]api.Look{good, core(0, 15, 506, 506)}, api.ErrClash},
		{[]api.Look{good, core(0, 15, 490, 490)}, api.OK},
		{[]api.Look{good, core(0, 15, 489, 489)}, api.ErrClash},
		{[]api.Look{core(0, 15, 489, 489), good}, api.ErrClash},
		{[]api.Look{core(0, 10, 450, 550), core(1, 10, 490, 510), core(2, 10, 480, 480), core(0, 10, 501, 502)}, api.ErrClash},
		{[]api.Look{core(0, 10, 450, 550), core(1, 10, 490, 510), core(2, 10, 481, 481), core(0, 10, 501, 502)}, api.OK},
	} {
		if e := probe.CheckLooks(survey(), c.l); e != c.want {
			t.Errorf("%d: CheckLooks = %v, want %v", i, e, c.want)
		}
		if c.want == api.OK {
			continue
		}
		list, bare := answers(survey(), c.l, make([]api.Mark, 101))
		for k, e := range list {
			if e != c.want || !bare {
				t.Errorf("%d: function %d returns %v, want %v", i, k, e, c.want)
			}
		}
	}
}

// P2.1, and R1: the error of the marks.
func TestMarkErrors(t *testing.T) {
	for i, c := range []struct {
		m    []api.Mark
		want api.Errno
	}{
		{nil, api.OK},
		{slices.Repeat([]api.Mark{crack(0, 4, 10000, 100)}, 100), api.OK},
		{make([]api.Mark, 101), api.ErrFull},
		{[]api.Mark{mark(0, 9, 9, -1, -1)}, api.ErrKind},
		{[]api.Mark{mark(5, 9, 9, -1, -1)}, api.ErrKind},
		{[]api.Mark{crack(0, 0, 0, 0), mark(api.MarkRidge, 1, 1, 0, 0), mark(api.MarkSeep, 1, 1, 0, 0), mend(1, 1, 0)}, api.OK},
		{[]api.Mark{crack(5, 4, -1, -1)}, api.ErrMissing},
		{[]api.Mark{crack(-1, 4, -1, -1)}, api.ErrMissing},
		{[]api.Mark{crack(4, 5, -1, -1)}, api.ErrMissing},
		{[]api.Mark{crack(4, -1, -1, -1)}, api.ErrMissing},
		{[]api.Mark{mend(4, 3, -1)}, api.ErrOrder},
		{[]api.Mark{crack(3, 4, -1, 0)}, api.ErrRange},
		{[]api.Mark{crack(3, 4, 10001, 0)}, api.ErrRange},
		{[]api.Mark{crack(3, 4, 0, 101)}, api.ErrRange},
		{[]api.Mark{crack(3, 4, 0, -1)}, api.ErrRange},
		{[]api.Mark{mark(api.MarkMend, 3, 4, 0, 100)}, api.OK},
		{[]api.Mark{mark(api.MarkMend, 3, 4, 0, 101)}, api.ErrRange},
		{[]api.Mark{mend(4, 3, 0), {}}, api.ErrOrder},
		{[]api.Mark{mend(3, 4, 0), {}}, api.ErrKind},
	} {
		if e := probe.CheckMarks(survey(), c.m); e != c.want {
			t.Errorf("%d: CheckMarks = %v, want %v", i, e, c.want)
		}
		if c.want == api.OK {
			continue
		}
		a, cover := probe.Cover(survey(), c.m, -1)
		b, closes := probe.Close(survey(), looks(), c.m, -1, -1)
		n, lasts := probe.Lasts(survey(), looks(), c.m, -1, -1, -1)
		if cover != c.want || closes != c.want || lasts != c.want || len(a) > 0 || len(b) > 0 || n != 0 {
			t.Errorf("%d: Cover = %v, Close = %v, Lasts = %v, want %v", i, cover, closes, lasts, c.want)
		}
	}
}

// P2.2, P2.4, P2.5, P2.6: the errors of the functions' own arguments, in their order.
func TestArgumentErrors(t *testing.T) {
	s, l := survey(), looks()
	for i, c := range []struct {
		place, hour int
		want        api.Errno
	}{
		{0, 0, api.OK}, {4, 10000, api.OK}, {5, -1, api.ErrMissing}, {-1, -1, api.ErrMissing}, {0, -1, api.ErrRange}, {4, 10001, api.ErrRange},
	} {
		known, a := probe.Known(s, l, c.place, c.hour)
		if a != c.want || c.want != api.OK && known != span(0, 0) {
			t.Errorf("%d: Known = %v, %v, want %v", i, known, a, c.want)
		}
		if c.want == api.ErrMissing {
			continue
		}
		patches, b := probe.Cover(s, nil, c.hour)
		stale, d := probe.Stale(s, l, c.hour)
		places, proof, f := probe.Plan(s, l, c.hour, api.LookCore)
		closures, g := probe.Close(s, l, nil, 0, c.hour)
		n, h := probe.Lasts(s, l, nil, 0, c.hour, c.place)
		if b != c.want || d != c.want || f != c.want || g != c.want || h != c.want {
			t.Errorf("%d: %v %v %v %v %v, want %v", i, b, d, f, g, h, c.want)
		}
		if c.want != api.OK && (len(patches) > 0 || len(stale) > 0 || len(places) > 0 || len(proof) > 0 || len(closures) > 0 || n != 0) {
			t.Errorf("%d: something is returned beside an error", i)
		}
	}
	for i, c := range []struct {
		from, to, hour int
		want           api.Errno
	}{
		{0, 4, 10000, api.OK}, {2, 2, 0, api.OK}, {-1, 5, -1, api.ErrMissing}, {5, 0, -1, api.ErrMissing}, {4, -1, -1, api.ErrMissing}, {0, 5, -1, api.ErrMissing}, {3, 2, -1, api.ErrOrder}, {2, 3, -1, api.ErrRange}, {2, 3, 10001, api.ErrRange},
	} {
		if x, e := probe.Least(s, l, c.from, c.to, c.hour); e != c.want || e != api.OK && x != span(0, 0) {
			t.Errorf("%d: Least = %v, %v, want %v", i, x, e, c.want)
		}
	}
	for kind, want := range []api.Errno{api.ErrKind, api.OK, api.OK, api.OK, api.ErrKind} {
		a, b, e := probe.Plan(s, l, 0, kind)
		_, _, late := probe.Plan(s, l, 10001, kind)
		if e != want || late != api.ErrRange || want != api.OK && len(a)+len(b) > 0 {
			t.Errorf("Plan by looks of kind %d = %v, %v, %v, want %v", kind, a, b, e, want)
		}
	}
	for i, c := range []struct {
		need, hour, place int
		want              api.Errno
	}{
		{0, 0, 0, api.OK}, {3000, 10000, 4, api.OK}, {-1, -1, -1, api.ErrRange}, {3001, 0, 0, api.ErrRange}, {0, -1, 5, api.ErrRange}, {0, 10001, 5, api.ErrRange}, {0, 0, 5, api.ErrMissing}, {0, 0, -1, api.ErrMissing},
	} {
		n, e := probe.Lasts(s, l, nil, c.need, c.hour, c.place)
		if e != c.want || e != api.OK && n != 0 {
			t.Errorf("%d: Lasts = %d, %v, want %v", i, n, e, c.want)
		}
		if _, e := probe.Close(s, l, nil, c.need, c.hour); c.want != api.ErrMissing && e != c.want {
			t.Errorf("%d: Close = %v, want %v", i, e, c.want)
		}
	}
}
