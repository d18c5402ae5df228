package probe_test

import (
	"math"
	"math/rand"
	"reflect"
	"slices"
	"testing"

	"sastrugi/api"
	"sastrugi/probe"
)

// wild returns a number of any kind: near the bounds, far out, or usual.
func wild(r *rand.Rand) int {
	edges := [...]int{math.MinInt, math.MinInt + 1, -10001, -1, 0, 1, 2, 3, 4, 5, 20, 50, 51, 100, 101, 999, 1000, 1001, 3000, 3001, 10000, 10001, 1000000, 1000001, math.MaxInt - 1, math.MaxInt}
	return edges[r.Intn(len(edges))]
}

func wildSpan(r *rand.Rand) api.Span { return span(wild(r), wild(r)) }

func wildSurvey(r *rand.Rand) api.Survey {
	s := api.Survey{Sight: [3]int{wild(r), wild(r), wild(r)}}
	for range r.Intn(23) {
		s.Reaches = append(s.Reaches, api.Reach{Long: wild(r), Slope: wild(r), Thin: wild(r), Grow: wild(r), Every: wild(r)})
	}
	return s
}

func wildLooks(r *rand.Rand) []api.Look {
	l := make([]api.Look, r.Intn(3)*r.Intn(102))
	for i := range l {
		l[i] = api.Look{Kind: wild(r), At: wild(r), Hour: wild(r), Value: wildSpan(r)}
	}
	return l
}

func wildMarks(r *rand.Rand) []api.Mark {
	m := make([]api.Mark, r.Intn(3)*r.Intn(52))
	for i := range m {
		m[i] = mark(wild(r), wild(r), wild(r), wild(r), wild(r))
	}
	return m
}

// P1, R3 and R5: arguments of any value give an error, or results; none panics, and with an error there are no results.
func TestAnyArguments(t *testing.T) {
	r := rand.New(rand.NewSource(14))
	for range 20000 {
		s, l, m := survey(), looks(), []api.Mark{crack(1, 1, 5, 1), mend(1, 2, 6)}
		switch r.Intn(4) {
		case 0:
			s = wildSurvey(r)
		case 1:
			l = wildLooks(r)
		case 2:
			m = wildMarks(r)
		}
		anyCall(t, r, s, l, m)
	}
}

func anyCall(t *testing.T, r *rand.Rand, s api.Survey, l []api.Look, m []api.Mark) {
	t.Helper()
	bare := func(name string, e api.Errno, zero bool) {
		if e != api.OK && !zero {
			t.Fatalf("%s returns %v and something else", name, e)
		}
	}
	known, e := probe.Known(s, l, wild(r), wild(r))
	bare("Known", e, known == span(0, 0))
	least, e := probe.Least(s, l, wild(r), wild(r), wild(r))
	bare("Least", e, least == span(0, 0))
	course := make([][]int, r.Intn(4))
	for i := range course {
		for range 5 - r.Intn(5)/4 {
			course[i] = append(course[i], wild(r))
		}
	}
	hour, place, e := probe.Breaks(s, l, wild(r), course)
	bare("Breaks", e, hour == 0 && place == 0)
	patches, e := probe.Cover(s, m, wild(r))
	bare("Cover", e, len(patches) == 0)
	stale, e := probe.Stale(s, l, wild(r))
	bare("Stale", e, len(stale) == 0)
	places, proof, e := probe.Plan(s, l, wild(r), wild(r))
	bare("Plan", e, len(places)+len(proof) == 0)
	closures, e := probe.Close(s, l, m, wild(r), wild(r))
	bare("Close", e, len(closures) == 0)
	last, e := probe.Lasts(s, l, m, wild(r), wild(r), wild(r))
	bare("Lasts", e, last == 0)
	track := api.Track{Speed: wildSpan(r), Echoes: make([]api.Echo, r.Intn(3))}
	for i := range track.Echoes {
		track.Echoes[i] = api.Echo{At: wild(r), Hour: wild(r), Time: wildSpan(r)}
	}
	list, e := probe.Looks(track)
	bare("Looks", e, len(list) == 0)
	text, e := probe.Write(track)
	bare("Write", e, text == "")
}

// P1 and R7: the longest road, with the greatest numbers, and as many looks and marks as there may be.
func TestGreatestRoad(t *testing.T) {
	s := api.Survey{Reaches: slices.Repeat([]api.Reach{{Long: 50, Slope: 3000, Thin: 1000, Grow: 1000, Every: 10000}}, 20), Sight: [3]int{50, 50, 50}}
	s.Reaches[19].Thin = 0
	var l []api.Look
	var m []api.Mark
	for i := range 200 {
		l = append(l, radar(5*i, 50*i, 3000, 3000))
		if i < 50 {
			m = append(m, crack(0, 999, i, 100), mend(20*i+1, 20*i+19, 9000+i))
		}
	}
	if x, e := probe.Known(s, l, 995, 10000); e != api.OK || x != span(3000, 3000) {
		t.Error(x, e) // the last look lasts where nothing thins
	}
	if x, e := probe.Known(s, l, 0, 1); e != api.OK || x != span(2000, 3000) {
		t.Error(x, e)
	}
	if x, e := probe.Least(s, l, 0, 999, 10000); e != api.OK || x != span(0, 3000) {
		t.Error(x, e)
	}
	want := []api.Patch{{From: 0, To: 0, Verdict: api.Sure}}
	for p := 20; p < 1000; p += 20 {
		want = append(want, api.Patch{From: p - 19, To: p - 1, Verdict: api.Never}, api.Patch{From: p, To: p, Verdict: api.Sure})
	}
	want = append(want, api.Patch{From: 981, To: 999, Verdict: api.Never})
	for i := range m {
		m[i].Speed = 0
	}
	if x, e := probe.Cover(s, m, 9049); e != api.OK || !slices.Equal(x, want) {
		t.Error(x, e)
	}
	if x, e := probe.Close(s, l, m, 3000, 9999); e != api.OK || len(x) == 0 || x[len(x)-1].Reason != api.ReasonThin {
		t.Error(x, e)
	}
	if n, e := probe.Lasts(s, l, m, 3000, 9950, 999); n != -1 || e != api.OK {
		t.Error(n, e) // the slope is too great
	}
	if n, e := probe.Lasts(s, l, m, 3000, 9950, 995); n != 10000 || e != api.OK {
		t.Error(n, e)
	}
	if places, proof, e := probe.Plan(s, nil, 0, api.LookCore); e != api.OK || len(places) != 10 || len(proof) != 10 {
		t.Error(places, proof, e)
	}
}

// R4: arguments are neither changed nor kept, and results share no memory with them or with each other.
func TestArgumentsStay(t *testing.T) {
	s, l, m := survey(), append(looks(), radar(2, 9, 480, 520)), []api.Mark{mend(1, 2, 6), crack(1, 1, 5, 1)}
	course := [][]int{{499, 499, 499, 499, 499}}
	track := api.Track{Speed: span(1, 2), Echoes: []api.Echo{{At: 1}}}
	calls := func() []any {
		a, _ := probe.Known(s, l, 0, 10)
		b, _ := probe.Least(s, l, 0, 4, 10)
		c, d, _ := probe.Breaks(s, l, 9, course)
		e, _ := probe.Cover(s, m, 7)
		f, _ := probe.Stale(s, l, 30)
		g, h, _ := probe.Plan(s, l, 30, api.LookCore)
		i, _ := probe.Close(s, l, m, 480, 10)
		j, _ := probe.Lasts(s, l, m, 480, 10, 0)
		k, _ := probe.Looks(track)
		text, _ := probe.Write(track)
		x, _, _ := probe.Read(text)
		return []any{a, b, c, d, e, f, g, h, i, j, k, text, x.Echoes}
	}
	first, second, again := calls(), calls(), calls()
	if !reflect.DeepEqual(s, survey()) || !slices.Equal(l, append(looks(), radar(2, 9, 480, 520))) || !slices.Equal(m, []api.Mark{mend(1, 2, 6), crack(1, 1, 5, 1)}) || course[0][4] != 499 || track.Echoes[0] != (api.Echo{At: 1}) {
		t.Error("an argument was changed:", s, l, m, course, track)
	}
	for i, x := range first {
		if v := reflect.ValueOf(x); v.Kind() == reflect.Slice {
			if v.Len() == 0 {
				t.Errorf("the result %d is meant to have something", i)
			}
			v.Index(0).SetZero()
		}
	}
	if !reflect.DeepEqual(second, again) || !reflect.DeepEqual(calls(), second) {
		t.Error("results share memory, or depend on what was called before")
	}
}

// R4: a nil slice and an empty one are equal.
func TestEmptyIsNil(t *testing.T) {
	for _, l := range [][]api.Look{nil, {}} {
		for _, m := range [][]api.Mark{nil, {}} {
			a, e := probe.Close(survey(), l, m, 0, 0)
			b, f := probe.Cover(survey(), m, 0)
			x, g := probe.Known(survey(), l, 0, 0)
			if e != api.OK || f != api.OK || g != api.OK || len(a) != 1 || len(b) != 1 || x != span(0, 3000) {
				t.Error(a, b, x, e, f, g)
			}
		}
	}
	for _, none := range [][]api.Echo{nil, {}} {
		x := api.Track{Speed: span(1, 1), Echoes: none}
		l, e := probe.Looks(x)
		text, f := probe.Write(x)
		if len(l) > 0 || text != "radar 1 1\n" || e != api.OK || f != api.OK {
			t.Error(l, text, e, f)
		}
	}
	if e := probe.Check(api.Survey{Reaches: []api.Reach{}}); e != api.ErrShort {
		t.Error(e)
	}
}
