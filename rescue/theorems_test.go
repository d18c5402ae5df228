package rescue_test

import (
	"math/rand"
	"slices"
	"testing"

	"sastrugi/api"
	"sastrugi/build"
	"sastrugi/rescue"
)

// enough checks that there were enough of each kind.
func enough(t *testing.T, least int, seen map[string]int, kinds ...string) {
	t.Helper()
	for _, kind := range kinds {
		if seen[kind] < least {
			t.Error("too few of each kind:", seen)
			return
		}
	}
}

// someMinute is a minute of the day in which posts may come and go.
func someMinute(r *rand.Rand) int {
	if r.Intn(2) == 0 {
		return r.Intn(1440)
	}
	return r.Intn(22)
}

// verdictNames are the names by which verdicts are counted.
var verdictNames = map[int]string{api.Sure: "sure", api.Never: "never", api.Open: "open"}

// P7.1, P7.5 and P7.6: what is known of small rescues against all that may truly be: each end is reached, and verdicts are about all of it.
func TestSmallRescuesAreExact(t *testing.T) {
	r := rand.New(rand.NewSource(81))
	seen := map[string]int{}
	for range 1200 {
		x, minute := small(r), someMinute(r)
		var want []api.Span
		var yes, no []bool
		for is := range truths(x) {
			numbers, good := is.numbers(x, minute), is.inTime(x, minute)
			if want == nil {
				for _, n := range numbers {
					want = append(want, one(n))
				}
				yes, no = make([]bool, x.Spots), make([]bool, x.Spots)
			}
			for i, n := range numbers {
				want[i] = span(min(want[i].Lo, n), max(want[i].Hi, n))
			}
			for spot, so := range good {
				yes[spot], no[spot] = yes[spot] || so, no[spot] || !so
			}
		}
		k := find(t, x, minute)
		if !slices.Equal(k.spans(), want) {
			t.Fatalf("of %v in %d is known %v, want %v", x, minute, k.spans(), want)
		}
		for spot := range x.Spots {
			verdict := api.Open
			if !no[spot] {
				verdict = api.Sure
			} else if !yes[spot] {
				verdict = api.Never
			}
			if len(k.cover) != x.Spots || k.cover[spot] != verdict {
				t.Fatalf("Cover(%v, %d) = %v, but at %d it is %d", x, minute, k.cover, spot, verdict)
			}
			seen[verdictNames[verdict]]++
		}
	}
	enough(t, 150, seen, "sure", "never", "open")
}

// P7.5 and P7.6: large rescues: each truth lies within what is known, and two of them are its ends.
func TestLargeRescues(t *testing.T) {
	r := rand.New(rand.NewSource(82))
	seen := map[string]int{}
	for range 400 {
		x, minute := large(r), someMinute(r)
		k := find(t, x, minute)
		early, late := soonestTruth(x), latestTruth(x)
		for _, is := range []truth{early, late, someTruth(r, x), someTruth(r, x), someTruth(r, x)} {
			for i, n := range is.numbers(x, minute) {
				if !within(n, k.spans()[i]) {
					t.Fatalf("of %v in %d is known %v, but %v has %v", x, minute, k.spans(), is, is.numbers(x, minute))
				}
			}
			for spot, so := range is.inTime(x, minute) {
				if k.cover[spot] == api.Sure && !so || k.cover[spot] == api.Never && so {
					t.Fatalf("Cover(%v, %d) = %v, but of %v it is %v", x, minute, k.cover, is, so)
				}
			}
		}
		for post := range x.Posts {
			low, high := early.count(x, post), late.count(x, post)
			for spot, s := range k.times[post] {
				if s != span(low[spot], high[spot]) {
					t.Fatalf("Go(%v, %d) = %v, want %v to %v", x, post, k.times[post], low, high)
				}
			}
		}
		good, bad := early.inTime(x, minute), late.inTime(x, minute)
		for spot, verdict := range k.cover {
			if (verdict == api.Sure) != bad[spot] || (verdict == api.Never) != !good[spot] {
				t.Fatalf("Cover(%v, %d) = %v, at %d in time at most and at least: %v, %v", x, minute, k.cover, spot, good[spot], bad[spot])
			}
			seen[verdictNames[verdict]]++
		}
	}
	enough(t, 400, seen, "sure", "never", "open")
}

// better returns a rescue of which all is within what was known.
func better(r *rand.Rand, x api.Rescue) api.Rescue {
	x = copied(x)
	verdict := func(v *int) {
		if *v == api.Open {
			*v = 1 + r.Intn(3)
		}
	}
	for i := range x.Paths {
		p := &x.Paths[i]
		p.Time = inside(r, p.Time)
		verdict(&p.Open)
	}
	for i := range x.Posts {
		p := &x.Posts[i]
		p.Ready = inside(r, p.Ready)
		verdict(&p.Flies)
		for spot, s := range p.Air {
			p.Air[spot] = inside(r, s)
		}
	}
	for spot, s := range x.Water {
		x.Water[spot] = inside(r, s)
	}
	var before api.Span
	for i, c := range x.Chills {
		s := inside(r, c.Minutes)
		before = span(max(before.Lo, s.Lo), max(before.Hi, s.Hi))
		x.Chills[i].Minutes = before
	}
	return x
}

// P7.7: with spans and verdicts within, times lie within, and what is sure, or never, stays.
func TestBetterKnown(t *testing.T) {
	r := rand.New(rand.NewSource(83))
	seen := map[string]int{}
	for i := range 3000 {
		x, minute := small(r), someMinute(r)
		if i%10 == 0 {
			x = large(r)
		}
		y := better(r, x)
		was, is := find(t, x, minute), find(t, y, minute)
		for i, s := range is.spans() {
			if !narrower(s, was.spans()[i]) {
				t.Fatalf("of %v is known %v, of %v only %v", x, was.spans(), y, is.spans())
			}
		}
		for spot, verdict := range was.cover {
			if verdict != api.Open && is.cover[spot] != verdict {
				t.Fatalf("Cover(%v, %d) = %v, but Cover(%v) = %v", x, minute, was.cover, y, is.cover)
			}
			seen[verdictNames[verdict]+" "+verdictNames[is.cover[spot]]]++
		}
	}
	enough(t, 100, seen, "sure sure", "never never", "open sure", "open never", "open open")
}

// P7.8: with a post or a path more nothing is later, and in warmer water one lives no less.
func TestMoreIsNotWorse(t *testing.T) {
	r := rand.New(rand.NewSource(84))
	seen := map[string]int{}
	for range 3000 {
		x, minute := someRescue(r, size{12, 30, 6, 20, 5}), someMinute(r)
		y, kind := copied(x), []string{"post", "path", "water"}[r.Intn(3)]
		switch {
		case kind == "post":
			y.Posts = append(y.Posts, somePost(r, x.Spots, size{time: 20, wide: 5}))
		case kind == "path" && x.Spots > 1:
			a := r.Intn(x.Spots)
			y.Paths = append(y.Paths, path(a, (a+1+r.Intn(x.Spots-1))%x.Spots, some(r, 0, 20, 5), 1+r.Intn(3)))
		default:
			spot := r.Intn(x.Spots)
			y.Water[spot].Hi += r.Intn(20)
			y.Water[spot].Lo = min(y.Water[spot].Hi, y.Water[spot].Lo+r.Intn(20))
		}
		was, is := find(t, x, minute), find(t, y, minute)
		for spot := range x.Spots {
			if is.reach[spot].Lo > was.reach[spot].Lo || is.reach[spot].Hi > was.reach[spot].Hi {
				t.Fatalf("%v is reached at %v, with a %s more, %v, at %v", x, was.reach, kind, y, is.reach)
			}
			if is.lives[spot].Lo < was.lives[spot].Lo || is.lives[spot].Hi < was.lives[spot].Hi {
				t.Fatalf("one lives in %v for %v, in warmer water, %v, for %v", x, was.lives, y, is.lives)
			}
			if was.cover[spot] == api.Sure && is.cover[spot] != api.Sure {
				t.Fatalf("Cover(%v, %d) = %v, with a %s more, %v, it is %v", x, minute, was.cover, kind, y, is.cover)
			}
			if is.cover[spot] != was.cover[spot] || is.reach[spot] != was.reach[spot] || is.lives[spot] != was.lives[spot] {
				seen[kind]++
			}
		}
	}
	enough(t, 100, seen, "post", "path", "water")
}

// P7.2 and P7.9: a minute is in a gap just if Cover is not Sure in it; gaps are ascending, and as long as can be.
func TestGapsAreWhatIsNotSure(t *testing.T) {
	r := rand.New(rand.NewSource(85))
	seen := map[string]int{}
	for range 150 {
		x := someRescue(r, size{4, 8, 5, 10, 2})
		uncovered := make([][]int, x.Spots)
		for minute := range 1440 {
			list, e := rescue.Cover(x, minute)
			if e != api.OK {
				t.Fatal(e)
			}
			for spot, verdict := range list {
				if verdict != api.Sure {
					uncovered[spot] = append(uncovered[spot], minute)
				}
			}
		}
		for spot, minutes := range uncovered {
			l, e := rescue.Gaps(x, spot)
			var in []int
			for i, s := range l {
				if i > 0 && s.Lo <= l[i-1].Hi+1 {
					t.Fatalf("Gaps(%v, %d) = %v", x, spot, l)
				}
				for minute := s.Lo; minute <= s.Hi; minute++ {
					in = append(in, minute)
				}
			}
			if e != api.OK || !slices.Equal(in, minutes) {
				t.Fatalf("Gaps(%v, %d) = %v, %v, but these are not sure: %v", x, spot, l, e, minutes)
			}
			switch {
			case len(l) > 1:
				seen["several"]++
			case len(l) == 0:
				seen["none"]++
			case l[0] == span(0, 1439):
				seen["the whole day"]++
			default:
				seen["one"]++
			}
		}
	}
	enough(t, 10, seen, "several", "none", "one", "the whole day")
}

// saves are the posts that save each call, as the document has it.
func saves(t *testing.T, x api.Rescue, minute int, calls []int) [][]int {
	t.Helper()
	list := make([][]int, len(calls))
	k := find(t, x, minute)
	for i, spot := range calls {
		for post, p := range x.Posts {
			if isManned(p, minute) && k.times[post][spot].Hi <= k.lives[spot].Lo {
				list[i] = append(list[i], post)
			}
		}
	}
	return list
}

// behind tells whether a list is behind another one if -1 comes behind all posts.
func behind(a, b []int) bool {
	last := func(list []int) (other []int) {
		for _, n := range list {
			if n < 0 {
				n = 99
			}
			other = append(other, n)
		}
		return other
	}
	return slices.Compare(last(a), last(b)) > 0
}

// bestCalls goes through all lists of posts and returns the best one, and how many calls it saves.
func bestCalls(x api.Rescue, by [][]int) (best []int, most int) {
	most = -1
	list := make([]int, len(by))
	var choose func(i, saved int)
	choose = func(i, saved int) {
		if i == len(by) {
			if saved > most || saved == most && behind(best, list) {
				best, most = slices.Clone(list), saved
			}
			return
		}
		for post := -1; post < len(x.Posts); post++ {
			list[i] = post
			if post < 0 {
				choose(i+1, saved)
			} else if slices.Contains(by[i], post) && !slices.Contains(list[:i], post) {
				choose(i+1, saved+1)
			}
		}
	}
	choose(0, 0)
	return best, most
}

// someCalls are up to so many calls.
func someCalls(r *rand.Rand, x api.Rescue, most int) []int {
	var calls []int
	for range r.Intn(most + 1) {
		calls = append(calls, r.Intn(x.Spots))
	}
	return calls
}

// P7.3 and P7.10: calls against all choices of posts.
func TestSendIsTheFirstOfTheBest(t *testing.T) {
	r := rand.New(rand.NewSource(86))
	seen := map[string]int{}
	for range 20000 {
		x, minute := someRescue(r, size{6, 12, 6, 12, 4}), someMinute(r)
		calls := someCalls(r, x, 6)
		by := saves(t, x, minute, calls)
		want, saved := bestCalls(x, by)
		list, n, e := rescue.Send(x, minute, calls)
		if e != api.OK || n != saved || !slices.Equal(list, want) {
			t.Fatalf("Send(%v, %d, %v) = %v, %d, %v, want %v, %d", x, minute, calls, list, n, e, want, saved)
		}
		if len(calls) == 1 {
			good := len(by[0]) > 0
			cover, e := rescue.Cover(x, minute)
			if (n == 1) != good || (cover[calls[0]] == api.Sure) != good || e != api.OK {
				t.Fatalf("Send(%v, %d, %v) = %v, but %v save it, %v", x, minute, calls, list, by, cover)
			}
		}
		saveable := 0
		for _, of := range by {
			saveable += min(1, len(of))
		}
		switch {
		case saved < saveable:
			seen["one for several"]++
		case saved > 0 && saved < len(calls):
			seen["some"]++
		case saved > 1:
			seen["all"]++
		}
		if first := slices.IndexFunc(by, func(of []int) bool { return len(of) > 0 }); first >= 0 && list[first] != by[first][0] {
			seen["not the first post"]++
		}
	}
	enough(t, 50, seen, "one for several", "some", "all", "not the first post")
}

// surely returns for each site the spots at which one surely is reached in time by a post there.
func surely(t *testing.T, x api.Rescue, sites []int, ready api.Span) [][]bool {
	t.Helper()
	list := make([][]bool, len(sites))
	for i := range sites {
		k := find(t, posted(x, sites[i:i+1], ready), 0)
		for _, verdict := range k.cover {
			list[i] = append(list[i], verdict == api.Sure)
		}
	}
	return list
}

// posted returns a rescue with posts at sites, instead of its own ones.
func posted(x api.Rescue, sites []int, ready api.Span) api.Rescue {
	x.Posts = nil
	for _, spot := range sites {
		x.Posts = append(x.Posts, api.Post{Spot: spot, Ready: ready})
	}
	return x
}

// bestSites goes through all lists of so many places and returns the sites of the first one of those with which most spots are covered, and how many.
func bestSites(sites []int, by [][]bool, many int) (best []int, most int) {
	most = -1
	var choose func(first int, places []int)
	choose = func(first int, places []int) {
		if len(places) == many {
			n := 0
			for spot := range by[0] {
				if slices.ContainsFunc(places, func(place int) bool { return by[place][spot] }) {
					n++
				}
			}
			if n > most {
				most, best = n, nil
				for _, place := range places {
					best = append(best, sites[place])
				}
			}
			return
		}
		for place := first; place < len(sites); place++ {
			choose(place+1, append(slices.Clone(places), place))
		}
	}
	choose(0, nil)
	return best, most
}

// someSites is a rescue with sites at which posts may be.
func someSites(r *rand.Rand) (x api.Rescue, sites []int, ready api.Span) {
	x = someRescue(r, size{8, 20, 3, 10, 2})
	for i := range x.Paths {
		x.Paths[i].Time = some(r, 0, 4, 2)
	}
	for i := range x.Chills {
		x.Chills[i].Minutes.Lo += 4
		x.Chills[i].Minutes.Hi += 4
	}
	return x, r.Perm(x.Spots)[:1+r.Intn(x.Spots)], some(r, 0, 6, 2)
}

// P7.4 and P7.11: sites against all sets of them, and against gaps.
func TestSitesAreTheFirstOfTheBest(t *testing.T) {
	r := rand.New(rand.NewSource(87))
	seen := map[string]int{}
	for range 1500 {
		x, sites, ready := someSites(r)
		by := surely(t, x, sites, ready)
		fewest, before := -1, 0
		for many := range len(sites) + 1 {
			want, n := bestSites(sites, by, many)
			list, covered, e := rescue.Most(x, sites, ready, many)
			if e != api.OK || covered != n || !slices.Equal(list, want) {
				t.Fatalf("Most(%v, %v, %v, %d) = %v, %d, %v, want %v, %d", x, sites, ready, many, list, covered, e, want, n)
			}
			if covered < before {
				t.Fatalf("Most(%v, %v, %v) covers %d with %d sites, %d with one less", x, sites, ready, covered, many, before)
			}
			if before = covered; covered == x.Spots && fewest < 0 {
				fewest = many
			}
		}
		list, e := rescue.Fewest(x, sites, ready)
		if fewest < 0 {
			if e != api.ErrMissing || len(list) > 0 {
				t.Fatalf("Fewest(%v, %v, %v) = %v, %v", x, sites, ready, list, e)
			}
			seen["none"]++
			continue
		}
		want, _ := bestSites(sites, by, fewest)
		if e != api.OK || !slices.Equal(list, want) {
			t.Fatalf("Fewest(%v, %v, %v) = %v, %v, want %v", x, sites, ready, list, e, want)
		}
		noGaps(t, posted(x, list, ready))
		switch {
		case fewest == 1:
			seen["one"]++
		case fewest == len(sites):
			seen["all"]++
		default:
			seen["some"]++
		}
	}
	enough(t, 50, seen, "none", "one", "all", "some")
}

// noGaps checks that no spot has a gap.
func noGaps(t *testing.T, x api.Rescue) {
	t.Helper()
	for spot := range x.Spots {
		if l, e := rescue.Gaps(x, spot); e != api.OK || len(l) > 0 {
			t.Fatalf("Gaps(%v, %d) = %v, %v", x, spot, l, e)
		}
	}
}

// T4: a post that drives on paths of exact times is at each spot between the shortest detour over legs that may be open and that over legs that surely are, behind its time to get ready.
func TestWaysAreDetours(t *testing.T) {
	r := rand.New(rand.NewSource(88))
	seen := map[string]int{}
	for range 400 {
		x := someRescue(r, size{15, 40, 4, 20, 5})
		n := api.Net{Nodes: x.Spots}
		for i := range x.Paths {
			p := &x.Paths[i]
			p.Time = one(1 + r.Intn(20))
			n.Legs = append(n.Legs, api.Leg{A: p.A, B: p.B, Long: p.Time.Lo, Open: p.Open})
		}
		for post, p := range x.Posts {
			if p.Flies != 0 {
				continue
			}
			l, e := rescue.Go(x, post)
			for spot := range x.Spots {
				_, sure, perhaps, f := build.Detour(n, p.Spot, spot)
				want := span(p.Ready.Lo+perhaps, p.Ready.Hi+sure)
				kind := "surely"
				if sure < 0 {
					want.Hi, kind = 1000000, "perhaps"
				}
				if perhaps < 0 {
					want.Lo, kind = 1000000, "never"
				}
				if e != api.OK || f != api.OK || l[spot] != want {
					t.Fatalf("Go(%v, %d) = %v, %v, want %v at %d", x, post, l, e, want, spot)
				}
				seen[kind]++
			}
		}
	}
	enough(t, 200, seen, "surely", "perhaps", "never")
}
