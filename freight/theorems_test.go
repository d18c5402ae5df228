package freight_test

import (
	"math/big"
	"math/rand"
	"regexp"
	"slices"
	"strings"
	"testing"

	"sastrugi/api"
	"sastrugi/freight"
)

// enough fails unless there were so many of each kind.
func enough(t *testing.T, least int, seen map[string]int, kinds ...string) {
	t.Helper()
	for _, kind := range kinds {
		if seen[kind] < least {
			t.Error("too few of each kind:", seen)
			return
		}
	}
}

// cost is what Spread and Tell say of a plan in a winter.
func cost(t *testing.T, f api.Freight, w api.Winter, plan []int) (way [][]int, list []api.Delivery, penalty int) {
	t.Helper()
	way, e1 := freight.Spread(f, w, plan)
	list, penalty, e2 := freight.Tell(f, w, way)
	if e1 != api.OK || e2 != api.OK {
		t.Fatalf("%v in %v with the plan %v: %v %v", f, w, plan, e1, e2)
	}
	return way, list, penalty
}

// P8.2, P8.3 and P8.13: plans and other ways of delivering against going unit by unit; units are not lost on the way, and none is left that could go.
func TestWaysUnitByUnit(t *testing.T) {
	r := rand.New(rand.NewSource(101))
	seen := map[string]int{}
	for range 2000 {
		f := someFreight(r, size{30, 6, 6, 40, 100, 3})
		if r.Intn(10) == 0 {
			f = large(r)
		}
		w, plan := someWinter(r, f), r.Perm(len(f.Orders))
		way, list, penalty := cost(t, f, w, plan)
		if !same(way, spread(f, w, plan)) {
			t.Fatalf("%v in %v: Spread by %v = %v, want %v", f, w, plan, way, spread(f, w, plan))
		}
		left := 0
		for _, o := range f.Orders {
			left += o.Units
		}
		for day := range f.Caps {
			gone := 0
			for _, days := range way {
				gone += days[day]
			}
			if gone != min(left, may(w, day)) {
				t.Fatalf("%v in %v by %v: %d units go on the day %d", f, w, plan, gone, day)
			}
			left -= gone
		}
		told(t, f, way, list, penalty)
		way = someWay(r, f, w)
		list, penalty, e := freight.Tell(f, w, way)
		if e != api.OK {
			t.Fatalf("%v in %v: Tell of %v: %v", f, w, way, e)
		}
		told(t, f, way, list, penalty)
		for i, d := range list {
			if d.OnTime+d.Late+d.Lost != f.Orders[i].Units {
				t.Fatalf("%v: of the order %d %v becomes", f, i, d)
			}
			seen["in time"] += min(d.OnTime, 1)
			seen["late"] += min(d.Late, 1)
			seen["lost"] += min(d.Lost, 1)
			seen["all"] += min(d.Day+1, 1)
		}
	}
	enough(t, 200, seen, "in time", "late", "lost", "all")
}

// told checks what Tell says of a way.
func told(t *testing.T, f api.Freight, way [][]int, list []api.Delivery, penalty int) {
	t.Helper()
	if want, n := tell(f, way); !slices.Equal(list, want) || penalty != n {
		t.Fatalf("%v: Tell of %v = %v, %d, want %v, %d", f, way, list, penalty, want, n)
	}
}

// P8.4, P8.8 and P8.9: what plans cost, and what they promise, against all winters; the ends are those of the best winter and of the worst one.
func TestAllWinters(t *testing.T) {
	r := rand.New(rand.NewSource(102))
	seen := map[string]int{}
	for range 400 {
		f := small(r)
		plan := r.Perm(len(f.Orders))
		costs := span(-1, -1)
		in := make([]int, len(f.Orders)) // in how many winters all units are in time
		for w := range winters(f) {
			list, n := tell(f, spread(f, w, plan))
			if costs.Lo < 0 {
				costs = one(n)
			}
			costs = span(min(costs.Lo, n), max(costs.Hi, n))
			for i, d := range list {
				if d.OnTime == f.Orders[i].Units {
					in[i]++
				}
			}
		}
		var want []int
		for _, n := range in {
			switch n {
			case count(f):
				want = append(want, api.Sure)
				seen["Sure"]++
			case 0:
				want = append(want, api.Never)
				seen["Never"]++
			default:
				want = append(want, api.Open)
				seen["Open"]++
			}
		}
		s, e1 := freight.Range(f, plan)
		l, e2 := freight.Promise(f, plan)
		if e1 != api.OK || s != costs || e2 != api.OK || !slices.Equal(l, want) {
			t.Fatalf("%v by %v: Range = %v, %v, Promise = %v, %v, want %v, %v", f, plan, s, e1, l, e2, costs, want)
		}
		best, worst := ends(f)
		_, _, low := cost(t, f, best, plan)
		_, _, high := cost(t, f, worst, plan)
		if s != span(low, high) {
			t.Fatalf("%v by %v: Range = %v, but the best winter costs %d, the worst one %d", f, plan, s, low, high)
		}
		if s.Lo < s.Hi {
			seen["wide"]++
		}
	}
	enough(t, 50, seen, "Sure", "Never", "Open", "wide")
}

// P8.8: in large freights, against some of their winters.
func TestSomeWintersOfLargeFreights(t *testing.T) {
	r := rand.New(rand.NewSource(103))
	for range 100 {
		f := large(r)
		plan := r.Perm(len(f.Orders))
		s, e1 := freight.Range(f, plan)
		l, e2 := freight.Promise(f, plan)
		if e1 != api.OK || e2 != api.OK {
			t.Fatal(f, e1, e2)
		}
		for range 10 {
			w := someWinter(r, f)
			_, list, penalty := cost(t, f, w, plan)
			if !within(penalty, s) {
				t.Fatalf("%v by %v: %d in %v, not %v", f, plan, penalty, w, s)
			}
			for i, d := range list {
				all := d.OnTime == f.Orders[i].Units
				if all && l[i] == api.Never || !all && l[i] == api.Sure {
					t.Fatalf("%v by %v: %v becomes of the order %d, the promise is %d", f, plan, d, i, l[i])
				}
			}
		}
	}
}

// P8.5 and P8.10: the best plan against all plans.
func TestBestOfAllPlans(t *testing.T) {
	r := rand.New(rand.NewSource(104))
	seen := map[string]int{}
	for range 300 {
		f := small(r)
		switch r.Intn(4) {
		case 0:
			f = someFreight(r, size{12, 6, 6, 9, 9, 2})
		case 1: // many plans that are alike
			f.Orders = slices.Repeat(f.Orders, 6/len(f.Orders))
		}
		plan, penalty, e := freight.Best(f)
		if e != api.OK {
			t.Fatal(f, e)
		}
		_, worst := ends(f)
		var first []int
		least := 0
		for _, p := range permutations(len(f.Orders)) {
			if _, n := tell(f, spread(f, worst, p)); first == nil || n < least {
				first, least = p, n
			}
		}
		if !slices.Equal(plan, first) || penalty != least {
			t.Fatalf("%v: Best = %v, %d, want %v, %d", f, plan, penalty, first, least)
		}
		if s, e := freight.Range(f, plan); e != api.OK || s.Hi != penalty {
			t.Fatalf("%v: Best = %v, %d, but Range = %v, %v", f, plan, penalty, s, e)
		}
		if slices.IsSorted(plan) {
			seen["as they come"]++
		} else {
			seen["others"]++
		}
	}
	enough(t, 50, seen, "as they come", "others")
}

// P8.5 and P8.11: bounds against all choices of units, and against all ways of delivering.
func TestBoundOfAllWays(t *testing.T) {
	r := rand.New(rand.NewSource(105))
	seen := map[string]int{}
	for range 2000 {
		f := tiny(r)
		_, worst := ends(f)
		n, e := freight.Bound(f)
		if want := bound(f, worst); e != api.OK || n != want {
			t.Fatalf("%v: Bound = %d, %v, want %d", f, n, e, want)
		}
		least := cheapest(f, worst, slices.Clone(f.Orders), 0)
		_, penalty, e := freight.Best(f)
		if e != api.OK || least < n || penalty < least {
			t.Fatalf("%v: Bound = %d, a way costs %d, the best plan %d, %v", f, n, least, penalty, e)
		}
		switch {
		case n == penalty:
			seen["no way is better"]++
		case n == least:
			seen["a way costs the bound"]++
		default:
			seen["below all ways"]++
		}
		if least < penalty {
			seen["no plan is the best way"]++
		}
	}
	enough(t, 10, seen, "no way is better", "a way costs the bound", "below all ways", "no plan is the best way")
}

// P8.5 and P8.11: bounds of larger freights.
func TestBoundOfLargeFreights(t *testing.T) {
	r := rand.New(rand.NewSource(106))
	for range 100 {
		f := someFreight(r, size{30, 5, 2, 5, 100, 2})
		_, worst := ends(f)
		if n, e := freight.Bound(f); e != api.OK || n != bound(f, worst) {
			t.Fatalf("%v: Bound = %d, %v, want %d", f, n, e, bound(f, worst))
		}
		f = large(r)
		_, worst = ends(f)
		n, e := freight.Bound(f)
		if e != api.OK {
			t.Fatal(f, e)
		}
		for range 10 {
			if _, penalty, e := freight.Tell(f, worst, someWay(r, f, worst)); e != api.OK || penalty < n {
				t.Fatalf("%v: Bound = %d, but a way costs %d, %v", f, n, penalty, e)
			}
		}
		if _, penalty, e := freight.Best(f); e != api.OK || penalty < n {
			t.Fatalf("%v: Bound = %d, but Best = %d, %v", f, n, penalty, e)
		}
	}
}

// P8.12: in a winter in which no less may go up to any day, a plan costs no more.
func TestMoreMayGo(t *testing.T) {
	r := rand.New(rand.NewSource(107))
	seen := map[string]int{}
	for range 3000 {
		f := someFreight(r, size{6, 4, 4, 5, 9, 4})
		v, w, plan := someWinter(r, f), someWinter(r, f), r.Perm(len(f.Orders))
		more, sum := true, 0
		for day := range f.Caps {
			sum += may(w, day) - may(v, day)
			more = more && sum >= 0
			if may(w, day) < may(v, day) {
				seen["less on a day"]++
			}
		}
		if !more {
			continue
		}
		_, _, a := cost(t, f, v, plan)
		_, _, b := cost(t, f, w, plan)
		if b > a {
			t.Fatalf("%v by %v: %v costs %d, %v costs %d", f, plan, v, a, w, b)
		}
		if b < a {
			seen["less cost"]++
		}
	}
	enough(t, 100, seen, "less on a day", "less cost")
}

// P0 and P8.12: with narrower Spans Range is not wider, and what is Sure or Never stays.
func TestBetterKnown(t *testing.T) {
	r := rand.New(rand.NewSource(108))
	seen := map[string]int{}
	for range 2000 {
		f := someFreight(r, size{12, 5, 6, 12, 9, 4})
		g, plan := copied(f), r.Perm(len(f.Orders))
		g.First, g.Last = inside(r, f.First), inside(r, f.Last)
		for i, c := range f.Caps {
			g.Caps[i] = inside(r, c)
		}
		a, e1 := freight.Range(f, plan)
		b, e2 := freight.Range(g, plan)
		if e1 != api.OK || e2 != api.OK || !narrower(b, a) {
			t.Fatalf("%v: %v, %v; with narrower spans %v: %v, %v", f, a, e1, g, b, e2)
		}
		if a != b {
			seen["narrower"]++
		}
		was, e1 := freight.Promise(f, plan)
		is, e2 := freight.Promise(g, plan)
		if e1 != api.OK || e2 != api.OK {
			t.Fatal(f, g, e1, e2)
		}
		for i, v := range was {
			if v != api.Open && is[i] != v {
				t.Fatalf("%v: %v; with narrower spans %v: %v", f, was, g, is)
			}
			if v != is[i] {
				seen["known now"]++
			}
		}
	}
	enough(t, 200, seen, "narrower", "known now")
}

// P8.6 and P8.14: shares against exact ones.
func TestSharesAreExactOnesRounded(t *testing.T) {
	r := rand.New(rand.NewSource(109))
	for range 3000 {
		amount := r.Intn([...]int{5, 100, 1000000000001}[r.Intn(3)])
		most := [...]int{1, 3, 10, 1000000}[r.Intn(4)]
		var weights []int
		for range 1 + r.Intn(40) {
			weights = append(weights, r.Intn(most+1))
		}
		list, e := freight.Share(amount, weights)
		if e != api.OK || len(list) != len(weights) {
			t.Fatalf("Share(%d, %v) = %v, %v", amount, weights, list, e)
		}
		if want := shares(amount, weights); !slices.Equal(list, want) {
			t.Fatalf("Share(%d, %v) = %v, want %v", amount, weights, list, want)
		}
		all := 0
		for i, n := range list {
			all += n
			if j := slices.Index(weights, weights[i]); list[j] < n {
				t.Fatalf("Share(%d, %v) = %v: %d has less than %d", amount, weights, list, j, i)
			}
		}
		if all != amount {
			t.Fatalf("Share(%d, %v) = %v: together %d", amount, weights, list, all)
		}
	}
}

// shares gives what is left by rounding down one by one: to the first one of those of which the remainder is the greatest and that had none yet.
func shares(amount int, weights []int) []int {
	all := 0
	for _, w := range weights {
		all += w
	}
	if all == 0 {
		weights, all = slices.Repeat([]int{1}, len(weights)), len(weights)
	}
	list, rests, left := make([]int, len(weights)), make([]int64, len(weights)), amount
	for i, w := range weights {
		whole, rest := new(big.Int).DivMod(new(big.Int).Mul(big.NewInt(int64(amount)), big.NewInt(int64(w))), big.NewInt(int64(all)), new(big.Int))
		list[i], rests[i] = int(whole.Int64()), rest.Int64()
		left -= list[i]
	}
	for range left {
		i := slices.Index(rests, slices.Max(rests))
		list[i]++
		rests[i] = -1
	}
	return list
}

// P8.6 and P8.14: bills are together the rates and the road.
func TestBillsAreTheRatesAndTheRoad(t *testing.T) {
	r := rand.New(rand.NewSource(110))
	for range 500 {
		f := someFreight(r, size{20, 6, 9, 60, 9, 3})
		w := someWinter(r, f)
		way, rate, road := someWay(r, f, w), r.Intn(1000001), r.Intn(1000000000001)
		bills, e := freight.Bills(f, w, way, rate, road)
		if e != api.OK {
			t.Fatal(f, w, way, e)
		}
		var gone []int
		all := road
		for _, days := range way {
			n := 0
			for _, units := range days {
				n += units
			}
			gone = append(gone, n)
			all += rate * n
		}
		for i, n := range shares(road, gone) {
			if bills[i] != n+rate*gone[i] {
				t.Fatalf("%v: Bills of %v with %d and %d = %v", f, way, rate, road, bills)
			}
			all -= bills[i]
		}
		if all != 0 {
			t.Fatalf("%v: Bills of %v with %d and %d = %v: not together as much", f, way, rate, road, bills)
		}
	}
}

// P8.7 and P8.15: a season file is read from its freight, and what is read is written as it was.
func TestTextsThereAndBack(t *testing.T) {
	r := rand.New(rand.NewSource(111))
	for range 300 {
		f := someFreight(r, size{200, 6, 1000000, 1000000, 500000, 1000000})
		text, e := freight.Write(f)
		g, row, e2 := freight.Read(text)
		if e != api.OK || e2 != api.OK || row != 0 || !equal(f, g) {
			t.Fatalf("%v is written as %q, %v, and read as %v, %d, %v", f, text, e, g, row, e2)
		}
	}
}

// The rows of a season file.
var (
	seasonRow = regexp.MustCompile(`^season( (0|[1-9][0-9]{0,8})){4}$`)
	capRow    = regexp.MustCompile(`^cap( (0|[1-9][0-9]{0,8})){2}$`)
	orderRow  = regexp.MustCompile(`^order( (0|[1-9][0-9]{0,8})){4}$`)
)

// wrongRow is the number of the first row of a text that is not as the document says; 0 if there is none.
func wrongRow(text string) int {
	lines := strings.Split(text, "\n")
	orders := false
	for i, line := range lines {
		switch {
		case i == len(lines)-1:
			if i > 0 && line == "" {
				return 0
			}
			return i + 1
		case i == 0 && seasonRow.MatchString(line):
		case i > 0 && !orders && capRow.MatchString(line):
		case i > 0 && orderRow.MatchString(line):
			orders = true
		default:
			return i + 1
		}
	}
	return 0
}

// P8.7 and P8.15: texts of which bytes are changed.
func TestChangedTexts(t *testing.T) {
	r := rand.New(rand.NewSource(112))
	letters := []byte("0123456789 \n-+acdeoprs\x00\xff")
	seen := map[string]int{}
	for range 20000 {
		text, e := freight.Write(someFreight(r, size{4, 3, 12, 12, 12, 3}))
		if e != api.OK {
			t.Fatal(e)
		}
		b := []byte(text)
		for range r.Intn(3) {
			i := r.Intn(len(b))
			switch r.Intn(3) {
			case 0:
				b[i] = letters[r.Intn(len(letters))]
			case 1:
				b = slices.Delete(b, i, i+1)
			case 2:
				b = slices.Insert(b, i, letters[r.Intn(len(letters))])
			}
		}
		text = string(b)
		f, row, e := freight.Read(text)
		if want := wrongRow(text); row != want || (e == api.ErrForm) != (want > 0) {
			t.Fatalf("Read(%q) = %v, %d, %v, want the row %d", text, f, row, e, want)
		}
		switch e {
		case api.OK:
			if again, e := freight.Write(f); e != api.OK || again != text {
				t.Fatalf("%q is read, and written as %q, %v", text, again, e)
			}
			seen["read"]++
		case api.ErrForm:
			seen["not as said"]++
		default:
			seen["not valid"]++
		}
		if e != api.OK && !equal(f, api.Freight{}) {
			t.Fatalf("Read(%q) = %v beside %v", text, f, e)
		}
	}
	enough(t, 100, seen, "read", "not as said", "not valid")
}
