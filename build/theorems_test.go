package build_test

import (
	"math/rand"
	"slices"
	"testing"

	"sastrugi/api"
	"sastrugi/build"
	"sastrugi/frost"
)

// times returns what Times says of a valid job.
func times(t *testing.T, j api.Job, days []api.Weather) ([]api.Timing, api.Span) {
	t.Helper()
	l, open, e := build.Times(j, days)
	if e != api.OK || len(l) != len(j.Tasks) {
		t.Fatalf("Times(%v, %v) = %v, %v, %v", j, days, l, open, e)
	}
	return l, open
}

func holds(s api.Span, n int) bool { return s.Lo <= n && n <= s.Hi }

func within(x, y api.Span) bool { return y.Lo <= x.Lo && x.Hi <= y.Hi }

// hull returns the least span with the numbers of another one and one more; of the first number it is that alone.
func hull(s api.Span, n int, first bool) api.Span {
	if first {
		return one(n)
	}
	return span(min(s.Lo, n), max(s.Hi, n))
}

// P5.6 and P5.7: what Times says is just what truly may be, in all cases of small jobs.
func TestTimesAreTheHullOfAllThatMayBe(t *testing.T) {
	r := rand.New(rand.NewSource(58))
	jobs, wide, past := 0, 0, 0
	for range 1500 {
		j, days := someJob(r, 4, 20), someDays(r, 5)
		want, open, first := make([]api.Timing, len(j.Tasks)), one(0), true
		if !every(j, days, func(x truth) {
			list, at := x.all(j, days)
			for i, d := range list {
				want[i] = api.Timing{Begin: hull(want[i].Begin, d.begin, first), End: hull(want[i].End, d.end, first)}
			}
			open, first = hull(open, at, first), false
		}) {
			continue
		}
		l, got := times(t, j, days)
		if !slices.Equal(l, want) || got != open {
			t.Fatalf("Times(%v, %v) = %v, %v, want %v, %v", j, days, l, got, want, open)
		}
		jobs++
		if open.Lo < open.Hi {
			wide++
		}
		if open.Hi == 24*len(days)+1 {
			past++
		}
	}
	if jobs < 500 || wide < 300 || past < 100 || past > jobs/2 {
		t.Error("too few of each kind:", jobs, wide, past)
	}
}

// P5.6, P5.7 and P5.8: whatever truly is, each task and the road lie within what is known; its ends are reached; and what is known of spans and days within lies within.
func TestTruthNarrowsWhatIsKnown(t *testing.T) {
	r := rand.New(rand.NewSource(59))
	narrower := 0
	for range 1500 {
		j, days := someJob(r, 30, 8), someDays(r, 20)
		l, open := times(t, j, days)
		for range 5 {
			list, at := someTruth(r, j, days).all(j, days)
			for i, d := range list {
				if !holds(l[i].Begin, d.begin) || !holds(l[i].End, d.end) {
					t.Fatalf("the task %d of %v on %v is done in %v, known is %v", i, j, days, d, l[i])
				}
			}
			if !holds(open, at) {
				t.Fatalf("the road of %v opens on %v at %d, known is %v", j, days, at, open)
			}
		}
		early, a := best(j, days).all(j, days)
		late, b := worst(j, days).all(j, days)
		for i := range l {
			if want := (api.Timing{Begin: span(early[i].begin, late[i].begin), End: span(early[i].end, late[i].end)}); l[i] != want {
				t.Fatalf("the task %d of %v on %v is known as %v, want %v", i, j, days, l[i], want)
			}
		}
		if open != span(a, b) {
			t.Fatalf("the road of %v on %v is known as %v, want %d to %d", j, days, open, a, b)
		}
		k, fewer := known(r, j, days)
		inner, now := times(t, k, fewer)
		for i := range l {
			if !within(inner[i].Begin, l[i].Begin) || !within(inner[i].End, l[i].End) {
				t.Fatalf("the task %d of %v on %v: %v, and better known: %v", i, k, fewer, l[i], inner[i])
			}
		}
		if !within(now, open) {
			t.Fatalf("the road of %v on %v: %v, and better known: %v", k, fewer, open, now)
		}
		if now != open {
			narrower++
		}
	}
	if narrower < 300 {
		t.Error("too few are better known:", narrower)
	}
}

// known returns a job and days of which more is known.
func known(r *rand.Rand, j api.Job, days []api.Weather) (api.Job, []api.Weather) {
	j, days = copied(j), slices.Clone(days)
	for i, t := range j.Tasks {
		j.Tasks[i].Hours, j.Tasks[i].Wait, j.Tasks[i].From = inside(r, t.Hours), inside(r, t.Wait), inside(r, t.From)
	}
	for i, d := range days {
		days[i].Cold = inside(r, d.Cold)
	}
	return j, days
}

// P5.1 and P5.8: Works says what all cold of a day says, and what is Sure or Never stays so if the cold is better known.
func TestWorksIsWhatAllColdSays(t *testing.T) {
	r := rand.New(rand.NewSource(60))
	seen := map[int]int{}
	for range 3000 {
		m := api.Machine{Mild: r.Intn(20), Shift: 5}
		m.Hard = m.Mild + r.Intn(20)
		days := cold(some(r, -10, 40, 15))
		l, e := build.Works(m, days)
		if e != api.OK || !slices.Equal(l, []int{verdict(m, days[0])}) {
			t.Fatalf("Works(%v, %v) = %v, %v", m, days, l, e)
		}
		seen[l[0]]++
		inner, e := build.Works(m, cold(inside(r, days[0].Cold)))
		if e != api.OK || l[0] != api.Open && inner[0] != l[0] {
			t.Fatalf("Works(%v, %v) = %v, and within %v, %v", m, days, l, inner, e)
		}
	}
	for v := api.Sure; v <= api.Open; v++ {
		if seen[v] < 300 {
			t.Error("too few of each verdict:", seen)
		}
	}
}

// P5.2 and P5.9: chains, link by link, and with an hour more for one of their tasks.
func TestChainsHoldUpTheRoad(t *testing.T) {
	r := rand.New(rand.NewSource(61))
	seen := map[int]int{}
	for range 4000 {
		j, days := someJob(r, 8, 12), someDays(r, 8)
		list, open := worst(j, days).all(j, days)
		chain, e := build.Chain(j, days)
		if len(j.Tasks) == 0 {
			if e != api.ErrMissing {
				t.Fatalf("Chain(%v) = %v", j, e)
			}
			continue
		}
		if late := open == 24*len(days)+1; late || e != api.OK {
			if !late || e != api.ErrLate {
				t.Fatalf("Chain(%v, %v) = %v, %v, it opens at %d", j, days, chain, e, open)
			}
			seen[0]++
			continue
		}
		seen[len(chain)]++
		if want := held(j, list, open); !slices.Equal(chain, want) {
			t.Fatalf("Chain(%v, %v) = %v, want %v", j, days, chain, want)
		}
		for _, i := range chain {
			k := copied(j)
			k.Tasks[i].Hours.Hi++
			if now := opens(k, days); now < open {
				t.Fatalf("%v opens at %d, with an hour more of %d at %d", j, open, i, now)
			}
		}
	}
	for n := range 4 {
		if seen[n] < 100 {
			t.Error("too few of each length:", seen)
		}
	}
}

// held returns the chain of tasks that are done as a list says, so that the road opens at an hour, as the document has it.
func held(j api.Job, list []done, open int) []int {
	i := slices.IndexFunc(slices.Collect(func(yield func(int) bool) {
		for k, d := range list {
			if !yield(d.end + j.Tasks[k].Wait.Hi) {
				return
			}
		}
	}), func(at int) bool { return at == open })
	chain := []int{i}
	for list[i].begin != j.Tasks[i].From.Hi {
		for k := range list {
			after := slices.Contains(j.Tasks[i].After, k) && list[k].end+j.Tasks[k].Wait.Hi == list[i].begin
			between := slices.ContainsFunc(j.Tasks[min(k+1, i):i], func(t api.Task) bool { return t.Machine == j.Tasks[i].Machine })
			same := k < i && j.Tasks[k].Machine == j.Tasks[i].Machine && !between && list[k].end == list[i].begin
			if after || same {
				i = k
				break
			}
		}
		chain = append([]int{i}, chain...)
	}
	return chain
}

// P5.2 and P5.10: slack is the greatest number of hours that do no harm.
func TestSlackIsTheGreatest(t *testing.T) {
	r := rand.New(rand.NewSource(62))
	seen := map[string]int{}
	for range 3000 {
		j, days := someJob(r, 6, 12), someDays(r, 10)
		if len(j.Tasks) == 0 {
			continue
		}
		open, task := opens(j, days), r.Intn(len(j.Tasks))
		n, e := build.Slack(j, days, task)
		if late := open == 24*len(days)+1; late || e != api.OK {
			if !late || e != api.ErrLate || n != 0 {
				t.Fatalf("Slack(%v, %v, %d) = %d, %v, it opens at %d", j, days, task, n, e, open)
			}
			seen["late"]++
			continue
		}
		for more := 0; more <= n+1 && more <= 1000; more++ {
			k := copied(j)
			k.Tasks[task].Hours.Hi += more
			if now := opens(k, days); now != open && more <= n || now <= open && more > n {
				t.Fatalf("Slack(%v, %v, %d) = %d, but with %d it opens at %d, otherwise at %d", j, days, task, n, more, now, open)
			}
		}
		chain, e := build.Chain(j, days)
		if e != api.OK {
			t.Fatal(e)
		}
		switch {
		case n == 0:
			seen["none"]++
		case slices.Contains(chain, task):
			seen["of a chain"]++
		default:
			seen["some"]++
		}
	}
	for _, kind := range []string{"late", "none", "some", "of a chain"} {
		if seen[kind] < 20 {
			t.Error("too few of each kind:", seen)
		}
	}
}

// ordered returns the job of which the tasks stand in an order; good is false if one stands before one in its After.
func ordered(j api.Job, order []int) (k api.Job, good bool) {
	k.Machines = j.Machines
	for place, i := range order {
		t := j.Tasks[i]
		t.After = nil
		for _, before := range j.Tasks[i].After {
			at := slices.Index(order, before)
			if at > place {
				return k, false
			}
			t.After = append(t.After, at)
		}
		k.Tasks = append(k.Tasks, t)
	}
	return k, true
}

// permutations returns all orders of so many numbers, in lexicographic order.
func permutations(n int) [][]int {
	list := [][]int{nil}
	for range n {
		var longer [][]int
		for _, p := range list {
			for i := range n {
				if !slices.Contains(p, i) {
					longer = append(longer, append(slices.Clone(p), i))
				}
			}
		}
		list = longer
	}
	return list
}

// P5.3 and P5.11: the best order against all orders.
func TestBestIsTheFirstOfTheBest(t *testing.T) {
	r := rand.New(rand.NewSource(63))
	better, equal := 0, 0
	for range 500 {
		j, days := someJob(r, 6, 10), someDays(r, 8)
		var want []int
		open, found := 0, false
		for _, order := range permutations(len(j.Tasks)) {
			k, good := ordered(j, order)
			if !good {
				continue
			}
			_, late := times(t, k, days)
			if !found || late.Hi < open {
				want, open, found = order, late.Hi, true
			} else if late.Hi == open {
				equal++
			}
		}
		got, at, e := build.Best(j, days)
		if e != api.OK || at != open || !slices.Equal(got, want) {
			t.Fatalf("Best(%v, %v) = %v, %d, %v, want %v, %d", j, days, got, at, e, want, open)
		}
		if open < opens(j, days) {
			better++
		}
	}
	if better < 50 || equal < 50 {
		t.Error("too few of each kind:", better, equal)
	}
}

// snowy returns days of cold and warmth, some of them with snow, or cleared, or with water.
func snowy(r *rand.Rand) []api.Weather {
	var days []api.Weather
	for range r.Intn(7) {
		d := api.Weather{Cold: some(r, -60, 150, 30), Water: r.Intn(2) * r.Intn(20), Clear: r.Intn(3) == 0}
		if r.Intn(3) == 0 {
			d.Fall = some(r, 0, 120, 20)
		}
		days = append(days, d)
	}
	return days
}

// P5.4 and P5.12: on each day there is as much water as freezes for sure on that day, tried one by one; and none is left if none was there before.
func TestThickenFreezesAll(t *testing.T) {
	r := rand.New(rand.NewSource(64))
	seen := map[string]int{}
	for range 1500 {
		x, days, most, need := api.Ice{Black: some(r, 20, 300, 10), Snow: some(r, 0, 30, 10)}, snowy(r), r.Intn(30), 100+r.Intn(200)
		wet := r.Intn(3) == 0
		if wet {
			x.Wet = some(r, 0, 15, 5)
		}
		water, day, e := build.Thicken(law(), x, days, need, most)
		if e != api.OK || len(water) != len(days) {
			t.Fatalf("Thicken(%v, %v) = %v, %v", x, days, water, e)
		}
		flooded, first := slices.Clone(days), 0
		for k := range days {
			want := 0
			for w := range most + 1 {
				flooded[k].Water = w
				if after(t, x, flooded[:k+1]).Wet.Hi == 0 {
					want = w
				}
			}
			flooded[k].Water = want
			now := after(t, x, flooded[:k+1])
			if water[k] != want || !wet && now.Wet != one(0) {
				t.Fatalf("Thicken(%v, %v, most %d) = %v, want %d on day %d, which leaves %v", x, days, most, water, want, k, now.Wet)
			}
			thick, sound, e := frost.Bearing(law(), now)
			if e != api.OK {
				t.Fatal(e)
			}
			if first == 0 && sound == api.Sure && thick.Lo >= need {
				first = k + 1
			}
			switch want {
			case 0:
				seen["nothing"]++
			case most:
				seen["most"]++
			default:
				seen["some"]++
			}
		}
		if day != first {
			t.Fatalf("Thicken(%v, %v, need %d) is ready on %d, want %d", x, days, need, day, first)
		}
		if day > 1 {
			seen["later"]++
		}
	}
	for _, kind := range []string{"nothing", "most", "some", "later"} {
		if seen[kind] < 100 {
			t.Error("too few of each kind:", seen)
		}
	}
}

// after returns what is known after days.
func after(t *testing.T, x api.Ice, days []api.Weather) api.Ice {
	t.Helper()
	list, e := frost.Run(law(), x, days)
	if e != api.OK {
		t.Fatal(e)
	}
	return list[len(list)-1]
}

// paths returns all paths of a net that have no node twice, over legs that may be used.
func paths(n api.Net, from, to int, usable func(verdict int) bool) [][]int {
	var list [][]int
	var walk func(here int, path, seen []int)
	walk = func(here int, path, seen []int) {
		if here == to {
			list = append(list, slices.Clone(path))
			return
		}
		for i, x := range n.Legs {
			there := x.A + x.B - here
			if usable(x.Open) && (x.A == here || x.B == here) && !slices.Contains(seen, there) {
				walk(there, append(path, i), append(seen, there))
			}
		}
	}
	walk(from, nil, []int{from})
	return list
}

func long(n api.Net, path []int) int {
	sum := 0
	for _, i := range path {
		sum += n.Legs[i].Long
	}
	return sum
}

// shortest returns the best path of some, and its length; -1 if there is none.
func shortest(n api.Net, list [][]int) ([]int, int) {
	if len(list) == 0 {
		return nil, -1
	}
	best := slices.MinFunc(list, func(x, y []int) int {
		if d := long(n, x) - long(n, y); d != 0 {
			return d
		}
		if d := len(x) - len(y); d != 0 {
			return d
		}
		return slices.Compare(x, y)
	})
	return best, long(n, best)
}

// P5.5 and P5.13: detours against all paths.
func TestDetoursAreTheShortest(t *testing.T) {
	r := rand.New(rand.NewSource(65))
	seen := map[string]int{}
	for range 6000 {
		n := someNet(r, 5, 14)
		from, to := r.Intn(n.Nodes), r.Intn(n.Nodes)
		sure := paths(n, from, to, func(v int) bool { return v == api.Sure })
		want, a := shortest(n, sure)
		_, b := shortest(n, paths(n, from, to, func(v int) bool { return v != api.Never }))
		path, got, perhaps, e := build.Detour(n, from, to)
		if e != api.OK || got != a || perhaps != b || !slices.Equal(path, want) {
			t.Fatalf("Detour(%v, %d, %d) = %v, %d, %d, %v, want %v, %d, %d", n, from, to, path, got, perhaps, e, want, a, b)
		}
		if a >= 0 && (perhaps < 0 || perhaps > got) {
			t.Fatalf("Detour(%v, %d, %d): perhaps %d, surely %d", n, from, to, perhaps, got)
		}
		switch {
		case from == to:
			seen["to itself"]++
		case b < 0:
			seen["none"]++
		case a < 0:
			seen["only perhaps"]++
		case a > b:
			seen["longer"]++
		case slices.ContainsFunc(sure, func(p []int) bool { return long(n, p) == a && !slices.Equal(p, path) }):
			seen["one of several"]++
		default:
			seen["as short"]++
		}
	}
	for _, kind := range []string{"to itself", "none", "only perhaps", "longer", "one of several", "as short"} {
		if seen[kind] < 200 {
			t.Error("too few of each kind:", seen)
		}
	}
}

// joined tells whether legs join two nodes.
func joined(n api.Net, legs []int, a, b int) bool {
	inside := []int{a}
	for range n.Nodes {
		for _, i := range legs {
			x := n.Legs[i]
			if slices.Contains(inside, x.A) != slices.Contains(inside, x.B) {
				inside = append(inside, x.A, x.B)
			}
		}
	}
	return slices.Contains(inside, b)
}

// all tells whether legs join all nodes.
func all(n api.Net, legs []int) bool {
	for node := range n.Nodes {
		if !joined(n, legs, 0, node) {
			return false
		}
	}
	return true
}

func cost(n api.Net, legs []int) int {
	sum := 0
	for _, i := range legs {
		sum += n.Legs[i].Cost
	}
	return sum
}

// cheapest returns the legs that are found by taking them by their cost, then by their number.
func cheapest(n api.Net) []int {
	var legs []int
	for price := range 4 {
		for i, x := range n.Legs {
			if x.Cost == price && x.Open != api.Never && !joined(n, legs, x.A, x.B) {
				legs = append(legs, i)
			}
		}
	}
	slices.Sort(legs)
	return legs
}

// P5.5 and P5.14: links against all sets of legs.
func TestLinksAreTheCheapest(t *testing.T) {
	r := rand.New(rand.NewSource(66))
	seen := map[string]int{}
	for range 1500 {
		n := someNet(r, 5, 9)
		least, found, several := 0, false, false
		for set := range 1 << len(n.Legs) {
			var legs []int
			for i, x := range n.Legs {
				if set>>i&1 == 1 && x.Open != api.Never {
					legs = append(legs, i)
				}
			}
			if len(legs) != n.Nodes-1 || !all(n, legs) {
				continue
			}
			several = found && cost(n, legs) == least || several && cost(n, legs) > least
			if !found || cost(n, legs) < least {
				least, found = cost(n, legs), true
			}
		}
		legs, got, e := build.Link(n)
		if !found {
			if e != api.ErrMissing {
				t.Fatalf("Link(%v) = %v, %d, %v", n, legs, got, e)
			}
			seen["none"]++
			continue
		}
		if e != api.OK || got != least || got != cost(n, legs) || !slices.Equal(legs, cheapest(n)) {
			t.Fatalf("Link(%v) = %v, %d, %v, want %v, %d", n, legs, got, e, cheapest(n), least)
		}
		others(t, n, legs)
		if several {
			seen["one of several"]++
		} else {
			seen["one"]++
		}
	}
	for _, kind := range []string{"none", "one of several", "one"} {
		if seen[kind] < 100 {
			t.Error("too few of each kind:", seen)
		}
	}
}

// others checks that each other leg that may be used costs at least as much as each leg between its two nodes in the set.
func others(t *testing.T, n api.Net, legs []int) {
	t.Helper()
	only := api.Net{Nodes: n.Nodes}
	for _, i := range legs {
		only.Legs = append(only.Legs, n.Legs[i])
	}
	for i, x := range n.Legs {
		if x.Open == api.Never || slices.Contains(legs, i) {
			continue
		}
		for _, k := range paths(only, x.A, x.B, func(int) bool { return true })[0] {
			if only.Legs[k].Cost > x.Cost {
				t.Fatalf("Link(%v) = %v, but the leg %d costs %d, and one between its nodes %d", n, legs, i, x.Cost, only.Legs[k].Cost)
			}
		}
	}
}
