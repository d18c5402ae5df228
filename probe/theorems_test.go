package probe_test

import (
	"math/rand"
	"slices"
	"testing"

	"sastrugi/api"
	"sastrugi/probe"
)

// someFitting returns a road and looks that a course fits, with what is known of it.
func someFitting(r *rand.Rand) (api.Survey, []api.Look, grid) {
	for {
		s := someSurvey(r)
		l := someLooks(r, s, r.Intn(6))
		if g, fits := known(s, l); fits {
			return s, l, g
		}
	}
}

// courses are the courses of the least and of the greatest numbers of a grid.
func courses(g grid) (low, high [][]int) {
	for _, now := range g {
		var a, b []int
		for _, x := range now {
			a, b = append(a, x.Lo), append(b, x.Hi)
		}
		low, high = append(low, a), append(high, b)
	}
	return low, high
}

// P2.1, P2.2, P2.9 and P2.10: what is known, and whether looks clash, is as it is if one goes step by step from place to place and from hour to hour; the ends of it are courses.
func TestKnownStepByStep(t *testing.T) {
	r := rand.New(rand.NewSource(3))
	seen := map[bool]int{}
	for range 1500 {
		s := someSurvey(r)
		l := someLooks(r, s, 1+r.Intn(6))
		g, fits := known(s, l)
		seen[fits]++
		if e := probe.CheckLooks(s, l); (e == api.OK) != fits || e != api.OK && e != api.ErrClash {
			t.Fatalf("CheckLooks(%v, %v) = %v, but that a course fits is %v", s, l, e, fits)
		}
		if !fits {
			continue
		}
		for h, now := range g {
			for p, want := range now {
				if x, e := probe.Known(s, l, p, h); x != want || e != api.OK {
					t.Fatalf("Known(%v, %v, %d, %d) = %v, %v, want %v", s, l, p, h, x, e, want)
				}
			}
		}
		low, high := courses(g)
		for _, c := range [][][]int{low, high} {
			if h, p, e := probe.Breaks(s, l, 0, c); h != -1 || p != -1 || e != api.OK {
				t.Fatalf("Breaks(%v, %v, %v) = %d, %d, %v", s, l, c, h, p, e)
			}
		}
	}
	if seen[true] < 200 || seen[false] < 200 {
		t.Error("too few kinds of looks", seen)
	}
}

// someCourse returns a course that fits looks, found number by number: each one that is known may be looked at.
func someCourse(t *testing.T, r *rand.Rand, s api.Survey, l []api.Look) [][]int {
	t.Helper()
	course := make([][]int, hours)
	for h := range course {
		course[h] = make([]int, len(reaches(s)))
	}
	for _, i := range r.Perm(hours * len(course[0])) {
		h, p := i/len(course[0]), i%len(course[0])
		x, e := probe.Known(s, l, p, h)
		if e != api.OK {
			t.Fatalf("no course has the numbers %v, but each was known: %v", l, e)
		}
		n := [...]int{x.Lo, x.Hi, x.Lo + r.Intn(x.Hi-x.Lo+1)}[r.Intn(3)]
		l = append(l, core(p, h, n, n))
		course[h][p] = n
	}
	return course
}

// P2.9 and P2.10: courses that fit the looks lie in what is known, and each number that is known is that of one of them.
func TestCourses(t *testing.T) {
	r := rand.New(rand.NewSource(4))
	for range 150 {
		s, l, g := someFitting(r)
		course := someCourse(t, r, s, slices.Clone(l))
		if h, p, e := probe.Breaks(s, l, 0, course); h != -1 || p != -1 || e != api.OK {
			t.Fatalf("Breaks(%v, %v, %v) = %d, %d, %v", s, l, course, h, p, e)
		}
		for h, now := range course {
			for p, n := range now {
				if !within(span(n, n), g[h][p]) {
					t.Fatalf("%d at %d in %d is not in %v", n, p, h, g[h][p])
				}
			}
		}
		h, p := r.Intn(hours), r.Intn(len(course[0]))
		for _, n := range []int{g[h][p].Lo - 1, g[h][p].Hi + 1} {
			if e := probe.CheckLooks(s, append(slices.Clone(l), core(p, h, n, n))); e != api.ErrClash && n >= 0 && n <= api.MaxIce {
				t.Fatalf("%d at %d in %d is not known of %v, %v, but fits: %v", n, p, h, s, l, e)
			}
		}
	}
}

// P2.3: a course that is changed in one place breaks there, or at a place or in an hour behind it, or is still one; by the document's words.
func TestBreaksOfCourses(t *testing.T) {
	r := rand.New(rand.NewSource(5))
	broken := 0
	for range 2000 {
		s, l, g := someFitting(r)
		_, course := courses(g)
		first := r.Intn(hours)
		course = course[first:]
		h, p := r.Intn(len(course)), r.Intn(len(course[0]))
		course[h][p] += r.Intn(21) - 10
		wantHour, wantPlace := firstBreak(s, l, first, course)
		hour, place, e := probe.Breaks(s, l, first, course)
		if hour != wantHour || place != wantPlace || e != api.OK {
			t.Fatalf("Breaks(%v, %v, %d, %v) = %d, %d, %v, want %d, %d", s, l, first, course, hour, place, e, wantHour, wantPlace)
		}
		if hour >= 0 {
			broken++
		}
	}
	if broken < 500 || broken > 1800 {
		t.Error("too few kinds of courses:", broken)
	}
}

func firstBreak(s api.Survey, l []api.Look, first int, course [][]int) (int, int) {
	of := reaches(s)
	for h, now := range course {
		for p, n := range now {
			bad := n < 0 || n > api.MaxIce
			bad = bad || p > 0 && max(n-now[p-1], now[p-1]-n) > of[p-1].Slope
			bad = bad || h > 0 && (n < course[h-1][p]-of[p].Thin || n > course[h-1][p]+of[p].Grow)
			for _, x := range l {
				bad = bad || x.Hour == first+h && x.At == p && !within(span(n, n), x.Value)
			}
			if bad {
				return h, p
			}
		}
	}
	return -1, -1
}

// P2.11: with more looks, or narrower ones, what is known is not wider, and a place that is open stays open.
func TestNarrower(t *testing.T) {
	r := rand.New(rand.NewSource(6))
	opened := 0
	for range 400 {
		s, l, g := someFitting(r)
		course := someCourse(t, r, s, slices.Clone(l))
		more := slices.Clone(l)
		for i, x := range more {
			n := course[x.Hour][x.At]
			more[i].Value = span(n-r.Intn(n-x.Value.Lo+1), n+r.Intn(x.Value.Hi-n+1))
		}
		for range r.Intn(4) {
			h, p := r.Intn(hours), r.Intn(len(course[0]))
			n := course[h][p]
			x := core(p, h, max(0, n-r.Intn(9)), min(n+r.Intn(9), api.MaxIce))
			x.Kind = 1 + r.Intn(3)
			more = append(more, x)
		}
		h := r.Intn(hours)
		for p := range reaches(s) {
			if x, e := probe.Known(s, more, p, h); e != api.OK || !within(x, g[h][p]) {
				t.Fatalf("Known(%v, %v, %d, %d) = %v, %v is not within %v", s, more, p, h, x, e, g[h][p])
			}
		}
		m, need := someMarks(r, s, r.Intn(3)), r.Intn(20)
		was, now := reasons(t, s, l, m, need, h), reasons(t, s, more, m, need, h)
		for p := range was {
			if was[p] == 0 && now[p] != 0 {
				t.Fatalf("the place %d was open, but with more looks it is shut for %d", p, now[p])
			}
			if was[p] == 0 {
				opened++
			}
		}
	}
	if opened < 50 {
		t.Error("too few places were open:", opened)
	}
}

// reasons returns for each place the reason for which Close says that it is shut, 0 if it is open.
func reasons(t *testing.T, s api.Survey, l []api.Look, m []api.Mark, need, hour int) []int {
	t.Helper()
	list := make([]int, len(reaches(s)))
	closures, e := probe.Close(s, l, m, need, hour)
	if e != api.OK {
		t.Fatal(e)
	}
	for _, x := range closures {
		for p := x.From; p <= x.To; p++ {
			list[p] = x.Reason
		}
	}
	return list
}

// P2.2 and P2.12: the least number of a part lies between the least ends of its places, and two parts together have the least of both.
func TestLeastOfParts(t *testing.T) {
	r := rand.New(rand.NewSource(7))
	for range 500 {
		s, l, g := someFitting(r)
		h := r.Intn(hours)
		from := r.Intn(len(g[h]))
		to := from + r.Intn(len(g[h])-from)
		want := g[h][from]
		for _, x := range g[h][from : to+1] {
			want = span(min(want.Lo, x.Lo), min(want.Hi, x.Hi))
		}
		all, e := probe.Least(s, l, from, to, h)
		if all != want || e != api.OK {
			t.Fatalf("Least(%v, %v, %d, %d, %d) = %v, %v, want %v", s, l, from, to, h, all, e, want)
		}
		if from == to {
			continue
		}
		cut := from + r.Intn(to-from)
		a, _ := probe.Least(s, l, from, cut, h)
		b, _ := probe.Least(s, l, cut+1, to, h)
		if all != span(min(a.Lo, b.Lo), min(a.Hi, b.Hi)) {
			t.Fatalf("Least is %v, but of two parts %v and %v", all, a, b)
		}
	}
}

// P2.4 and P2.13: what marks cover is as it is if one goes hour by hour.
func TestCoverHourByHour(t *testing.T) {
	r := rand.New(rand.NewSource(8))
	seen := map[int]int{}
	for range 3000 {
		s := someSurvey(r)
		m := someMarks(r, s, r.Intn(9))
		hour := r.Intn(hours + 3)
		verdicts := covered(s, m, hour)
		var want []api.Patch
		for _, x := range groups(verdicts) {
			want = append(want, api.Patch{From: x.Lo, To: x.Hi, Verdict: verdicts[x.Lo]})
			seen[verdicts[x.Lo]]++
		}
		if l, e := probe.Cover(s, m, hour); !slices.Equal(l, want) || e != api.OK {
			t.Fatalf("Cover(%v, %v, %d) = %v, %v, want %v", s, m, hour, l, e, want)
		}
	}
	if min(seen[api.Sure], seen[api.Never], seen[api.Open]) < 500 {
		t.Error("too few kinds of patches", seen)
	}
}

// verdicts returns for each place what Cover says of it.
func verdicts(t *testing.T, s api.Survey, m []api.Mark, hour int) []int {
	t.Helper()
	patches, e := probe.Cover(s, m, hour)
	if e != api.OK {
		t.Fatal(e)
	}
	var list []int
	for _, x := range patches {
		if x.From != len(list) {
			t.Fatalf("%v are not the whole road", patches)
		}
		list = append(list, slices.Repeat([]int{x.Verdict}, x.To-x.From+1)...)
	}
	return list
}

// P2.13: what may be covered does not shrink without a mend; a mend leaves nothing at its places in its hour, but of marks of that hour that stand after it.
func TestSpread(t *testing.T) {
	r := rand.New(rand.NewSource(9))
	for range 1000 {
		s := someSurvey(r)
		m := someMarks(r, s, 1+r.Intn(8))
		hour := 1 + r.Intn(hours)
		was, now := verdicts(t, s, m, hour-1), verdicts(t, s, m, hour)
		for p := range now {
			mended := slices.ContainsFunc(m, func(x api.Mark) bool {
				return x.Kind == api.MarkMend && x.Hour == hour && x.From <= p && p <= x.To
			})
			if was[p] != api.Never && now[p] == api.Never && !mended || was[p] == api.Sure && now[p] == api.Open && !mended {
				t.Fatalf("%v: %d was %d at %d, then %d", m, p, was[p], hour-1, now[p])
			}
		}
		i := slices.IndexFunc(m, func(x api.Mark) bool { return x.Kind == api.MarkMend })
		if i < 0 {
			continue
		}
		// The last mend that there is, and nothing behind it.
		last := append(slices.Clone(m[i+1:]), m[i])
		last = slices.DeleteFunc(last, func(x api.Mark) bool { return x.Hour > m[i].Hour })
		for p, v := range verdicts(t, s, last, m[i].Hour) {
			if m[i].From <= p && p <= m[i].To && v != api.Never {
				t.Fatalf("%v: %d is %d", last, p, v)
			}
		}
	}
}

// P2.5: the stale places are those that no look sees.
func TestStalePlaces(t *testing.T) {
	r := rand.New(rand.NewSource(10))
	for range 1000 {
		s, l, _ := someFitting(r)
		hour := r.Intn(hours + 5)
		list := stale(s, l, hour)
		var want []api.Span
		for _, x := range groups(list) {
			if list[x.Lo] {
				want = append(want, x)
			}
		}
		if got, e := probe.Stale(s, l, hour); !slices.Equal(got, want) || e != api.OK {
			t.Fatalf("Stale(%v, %v, %d) = %v, %v, want %v", s, l, hour, got, e, want)
		}
	}
}

// P2.5: of all lists of places with which none is stale, the one that Plan returns is the last one of the shortest ones.
func TestPlanIsTheLastOfTheShortest(t *testing.T) {
	r := rand.New(rand.NewSource(11))
	for range 300 {
		s, l, _ := someFitting(r)
		hour, kind, long := r.Intn(hours), 1+r.Intn(3), len(reaches(s))
		if long > 9 {
			continue
		}
		var best []int
		for set := 1<<long - 1; set >= 0; set-- {
			var places []int
			more := slices.Clone(l)
			for p := range long {
				if set>>p&1 == 1 {
					places = append(places, p)
					more = append(more, api.Look{Kind: kind, At: p, Hour: hour})
				}
			}
			if slices.Contains(stale(s, more, hour), true) {
				continue
			}
			if set == 1<<long-1 || len(places) < len(best) || len(places) == len(best) && slices.Compare(places, best) > 0 {
				best = places
			}
		}
		if places, _, e := probe.Plan(s, l, hour, kind); !slices.Equal(places, best) || e != api.OK {
			t.Fatalf("Plan(%v, %v, %d, %d) = %v, %v, want %v", s, l, hour, kind, places, e, best)
		}
	}
}

// P2.14: with the looks that Plan names no place is stale; there are as many as the proof has places, which are stale, and no look sees two of these.
func TestFewest(t *testing.T) {
	r := rand.New(rand.NewSource(12))
	for range 500 {
		s := api.Survey{Reaches: []api.Reach{{Long: 1 + r.Intn(60), Slope: 9, Every: r.Intn(3)}}, Sight: [3]int{r.Intn(3), r.Intn(5), r.Intn(40)}}
		s.Reaches = append(s.Reaches, api.Reach{Long: 1 + r.Intn(60), Slope: 9, Every: r.Intn(9)})
		var l []api.Look
		for range r.Intn(10) {
			l = append(l, api.Look{Kind: 1 + r.Intn(3), At: r.Intn(len(reaches(s))), Hour: r.Intn(hours), Value: span(0, api.MaxIce)})
		}
		hour, kind := r.Intn(hours), 1+r.Intn(3)
		places, proof, e := probe.Plan(s, l, hour, kind)
		if e != api.OK || len(places) != len(proof) {
			t.Fatal(places, proof, e)
		}
		old := stale(s, l, hour)
		for i, p := range proof {
			if !old[p] || i > 0 && p-proof[i-1] <= 2*s.Sight[kind-1] {
				t.Fatalf("%v is no proof: %v", proof, old)
			}
		}
		for i, p := range places {
			if p < 0 || p >= len(old) || i > 0 && p <= places[i-1] {
				t.Fatalf("%v are not places, ascending", places)
			}
			l = append(l, api.Look{Kind: kind, At: p, Hour: hour, Value: span(0, api.MaxIce)})
		}
		if len(l) > api.MaxLooks {
			t.Fatal("these looks are meant to be few")
		}
		if left, e := probe.Stale(s, l, hour); e != api.OK || len(left) > 0 {
			t.Fatalf("%v, %v are still stale", left, e)
		}
	}
}

// P2.6 and P2.15: a place is shut for the least reason that holds by looks and marks up to the hour; what is open lasts as long as it is said, hour by hour.
func TestGates(t *testing.T) {
	r := rand.New(rand.NewSource(13))
	seen := map[int]int{}
	for range 500 {
		s, l, g := someFitting(r)
		m := someMarks(r, s, r.Intn(4))
		h := r.Intn(hours)
		need := max(0, min(g[h][0].Lo+r.Intn(11)-8, api.MaxIce))
		past, old, marked := upTo(l, h), stale(s, l, h), covered(s, m, h)
		list := reasons(t, s, l, m, need, h)
		for p, reason := range list {
			x, e := probe.Known(s, past, p, h)
			want := 0
			if old[p] {
				want = api.ReasonStale
			}
			if marked[p] != api.Never {
				want = api.ReasonMark
			}
			if x.Lo < need {
				want = api.ReasonThin
			}
			if reason != want || e != api.OK {
				t.Fatalf("Close(%v, %v, %v, %d, %d): the place %d is shut for %d, want %d (%v)", s, l, m, need, h, p, reason, want, e)
			}
			seen[reason]++
		}
		closures, _ := probe.Close(s, l, m, need, h)
		for i, x := range closures {
			if x.From > x.To || i > 0 && (x.From <= closures[i-1].To || x.From == closures[i-1].To+1 && x.Reason == closures[i-1].Reason) {
				t.Fatalf("%v are not ascending, or not as long as can be", closures)
			}
		}
		p := r.Intn(len(list))
		lasts(t, s, l, m, need, h, p, list[p] == 0)
	}
	if min(seen[0], seen[api.ReasonThin], seen[api.ReasonMark], seen[api.ReasonStale]) < 100 {
		t.Error("too few kinds of gates", seen)
	}
}

// lasts goes on hour by hour from one in which a place is open, or not.
func lasts(t *testing.T, s api.Survey, l []api.Look, m []api.Mark, need, hour, place int, open bool) {
	t.Helper()
	n, e := probe.Lasts(s, l, m, need, hour, place)
	if !open {
		if n != -1 || e != api.OK {
			t.Fatalf("Lasts of a shut place = %d, %v", n, e)
		}
		return
	}
	past := upTo(l, hour)
	marks := slices.DeleteFunc(slices.Clone(m), func(x api.Mark) bool { return x.Hour > hour })
	want := hour
	for want < api.MaxHour && reasons(t, s, past, marks, need, want+1)[place] == 0 {
		want++
	}
	if n != want || e != api.OK {
		t.Fatalf("Lasts(%v, %v, %v, %d, %d, %d) = %d, %v, want %d", s, l, m, need, hour, place, n, e, want)
	}
}
