package crew_test

import (
	"math/rand"
	"regexp"
	"slices"
	"strconv"
	"strings"
	"testing"

	"sastrugi/api"
	"sastrugi/convoy"
	"sastrugi/crew"
)

// enough fails unless there were so many of each kind.
func enough(t *testing.T, least int, seen map[string]int, kinds ...string) {
	t.Helper()
	for _, kind := range kinds {
		if seen[kind] < least {
			t.Error("too few of each kind:", seen)
			return
		}
	}
}

// told is the word for a verdict.
func told(verdict int) string { return [...]string{"none", "Sure", "Never", "Open"}[verdict] }

// P9.1, P9.6 and P9.7: verdicts against all that may truly be; the rule and the minute are the first ones of the worst case, and whoever is not Never keeps to the rules with the shortest turns.
func TestAllThatMayTrulyBe(t *testing.T) {
	r := rand.New(rand.NewSource(121))
	seen := map[string]int{}
	for range 4000 {
		u, d := someRules(r, 9, 4, 20), someDriver(r, usual)
		v, rule, minute, e := crew.Legal(u, d)
		if want := verdict(u, d.Turns); e != api.OK || v != want {
			t.Fatalf("%v of %v: Legal = %d, %v, want %d", d, u, v, e, want)
		}
		worst := longest(d.Turns)
		if want, first := worst.first(u); rule != want || minute != first {
			t.Fatalf("%v of %v: the rule %d in the minute %d, want %d in %d", d, u, rule, minute, want, first)
		}
		if (v == api.Sure) != (rule == 0) || (v == api.Never) == shortest(d.Turns).keeps(u) {
			t.Fatalf("%v of %v: the verdict is %d, the rule %d", d, u, v, rule)
		}
		seen[told(v)]++
		seen["rule "+strconv.Itoa(rule)]++
		if rule > 0 && len(d.Turns) > 0 && minute >= d.Turns[len(d.Turns)-1].From.Lo {
			seen["in the last turn"]++
		}
	}
	enough(t, 200, seen, "Sure", "Never", "Open", "rule 1", "rule 2", "in the last turn")
}

// P9.6 and P9.7: drivers with many turns and hours of driving, against some of all that may truly be.
func TestSomeOfAllThatMayTrulyBe(t *testing.T) {
	r := rand.New(rand.NewSource(122))
	seen := map[string]int{}
	for range 300 {
		d := someDriver(r, size{20, 120, 90, 1 + r.Intn(30)})
		u := api.Rules{Drive: 30 + r.Intn(250), Rest: 1 + r.Intn(60), Day: 200 + r.Intn(1400)}
		u.Most = 100 + r.Intn(u.Day)
		v, rule, minute, e := crew.Legal(u, d)
		if want, first := longest(d.Turns).first(u); e != api.OK || rule != want || minute != first {
			t.Fatalf("%v of %v: %d, %d, %v, want %d, %d", d, u, rule, minute, e, want, first)
		}
		if (v == api.Never) == shortest(d.Turns).keeps(u) {
			t.Fatalf("%v of %v: the verdict is %d", d, u, v)
		}
		for range 10 {
			if c := someCourse(r, d.Turns); c.keeps(u) && v == api.Never || !c.keeps(u) && v == api.Sure {
				t.Fatalf("%v of %v: the verdict is %d, but %v", d, u, v, c)
			}
		}
		seen[told(v)]++
		seen["rule "+strconv.Itoa(rule)]++
	}
	enough(t, 15, seen, "Sure", "Never", "Open", "rule 1", "rule 2")
}

// narrower returns a driver with turns within those of another one, and looser returns rules that are looser.
func narrower(r *rand.Rand, d api.Driver) api.Driver {
	d.Turns = slices.Clone(d.Turns)
	for i, t := range d.Turns {
		d.Turns[i] = api.Turn{From: inside(r, t.From), To: inside(r, t.To)}
	}
	return d
}

func looser(r *rand.Rand, u api.Rules) api.Rules {
	u.Drive += r.Intn(3)
	u.Most += r.Intn(3)
	u.Rest = max(1, u.Rest-r.Intn(2))
	return u
}

// P0 and P9.8: with turns within what is Sure, or Never, stays so; with looser rules who is Sure stays so, and nobody becomes Never.
func TestBetterKnown(t *testing.T) {
	r := rand.New(rand.NewSource(123))
	seen := map[string]int{}
	for range 6000 {
		u, d := someRules(r, 9, 4, 20), someDriver(r, usual)
		was, known, loose := legal(u, d), legal(u, narrower(r, d)), legal(looser(r, u), d)
		if was != api.Open && known != was {
			t.Fatalf("%v of %v is %d, with narrower turns %d", d, u, was, known)
		}
		if was == api.Sure && loose != api.Sure || was != api.Never && loose == api.Never {
			t.Fatalf("%v of %v is %d, with looser rules %d", d, u, was, loose)
		}
		if both := legal(looser(r, u), narrower(r, d)); was == api.Sure && both != api.Sure {
			t.Fatalf("%v of %v is Sure, with narrower turns and looser rules %d", d, u, both)
		}
		if known != was {
			seen["narrower: "+told(known)]++
		}
		if loose != was {
			seen["looser: "+told(was)+told(loose)]++
		}
	}
	enough(t, 50, seen, "narrower: Sure", "narrower: Never", "looser: OpenSure", "looser: NeverOpen", "looser: NeverSure")
}

// P9.2 and P9.9: May is the verdict with a turn more, by all that may truly be; with it nobody becomes Sure, or ceases to be Never.
func TestOneTurnMore(t *testing.T) {
	r := rand.New(rand.NewSource(124))
	seen := map[string]int{}
	for range 6000 {
		u, d := someRules(r, 9, 4, 20), someDriver(r, usual)
		at, long := r.Intn(35), r.Intn(6)
		v, e := crew.May(u, d, at, long)
		if clashes(d.Turns, at, long) {
			if v != 0 || e != api.ErrClash {
				t.Fatalf("%v of %v: May(%d, %d) = %d, %v beside a clash", d, u, at, long, v, e)
			}
			seen["clash"]++
			continue
		}
		more := withTurn(d, turn(at, at+long))
		if want := verdict(u, more.Turns); e != api.OK || v != want || v != legal(u, more) {
			t.Fatalf("%v of %v: May(%d, %d) = %d, %v, want %d", d, u, at, long, v, e, want)
		}
		was := legal(u, d)
		if v == api.Sure && was != api.Sure || was == api.Never && v != api.Never || long == 0 && v != was {
			t.Fatalf("%v of %v is %d, with a turn from %d for %d %d", d, u, was, at, long, v)
		}
		seen[told(was)+told(v)]++
		if k := slices.Index(more.Turns, turn(at, at+long)); k < len(d.Turns) {
			seen["before others"]++
		}
	}
	enough(t, 50, seen, "clash", "SureSure", "SureNever", "OpenOpen", "OpenNever", "NeverNever", "before others")
}

// P9.9: also a turn that is not known exactly makes nobody Sure, and lets nobody cease to be Never.
func TestOneUnknownTurnMore(t *testing.T) {
	r := rand.New(rand.NewSource(125))
	seen := map[string]int{}
	for range 6000 {
		u, d := someRules(r, 9, 4, 20), someDriver(r, usual)
		x := someDriver(r, size{1, 5, 40, 2})
		if len(x.Turns) == 0 || clashes(d.Turns, x.Turns[0].From.Lo, x.Turns[0].To.Hi-x.Turns[0].From.Lo) {
			continue
		}
		was, now := legal(u, d), legal(u, withTurn(d, x.Turns[0]))
		if now == api.Sure && was != api.Sure || was == api.Never && now != api.Never {
			t.Fatalf("%v of %v is %d, with %v %d", d, u, was, x.Turns[0], now)
		}
		seen[told(was)+told(now)]++
	}
	enough(t, 50, seen, "SureSure", "SureOpen", "SureNever", "OpenNever")
}

// P9.2 and P9.10: for the minutes of Left one may drive for sure, for one more one may not, or it clashes.
func TestLeftIsTheMost(t *testing.T) {
	r := rand.New(rand.NewSource(126))
	seen := map[string]int{}
	for range 4000 {
		u, d := someRules(r, 9, 4, 20), someDriver(r, usual)
		at := r.Intn(35)
		if r.Intn(8) == 0 {
			at = 2990 + r.Intn(11)
		}
		left, e := crew.Left(u, d, at)
		if clashes(d.Turns, at, 0) {
			if left != 0 || e != api.ErrClash {
				t.Fatalf("%v of %v: Left(%d) = %d, %v beside a clash", d, u, at, left, e)
			}
			seen["clash"]++
			continue
		}
		most := -1
		for long := 0; at+long <= min(3000, at+40); long++ {
			if sure(u, d, at, long) {
				most = long
			}
		}
		if e != api.OK || left != most {
			t.Fatalf("%v of %v: Left(%d) = %d, %v, want %d", d, u, at, left, e, most)
		}
		switch v, e := crew.May(u, d, at, left+1); {
		case left < 0:
			seen["none"]++
		case e == api.ErrClash:
			seen["up to a turn"]++
		case e == api.ErrRange && at+left == 3000:
			seen["up to the end"]++
		case e == api.OK && v != api.Sure:
			seen["as the rules are"]++
		default:
			t.Fatalf("%v of %v: Left(%d) = %d, but May for one more is %d, %v", d, u, at, left, v, e)
		}
		if v, e := crew.May(u, d, at, left); left >= 0 && (v != api.Sure || e != api.OK) {
			t.Fatalf("%v of %v: Left(%d) = %d, but May is %d, %v", d, u, at, left, v, e)
		}
	}
	enough(t, 50, seen, "clash", "none", "up to a turn", "up to the end", "as the rules are")
}

// P9.2 and P9.10: from the minute of Next on one may drive, and from none before it, not before from.
func TestNextIsTheFirst(t *testing.T) {
	r := rand.New(rand.NewSource(127))
	seen := map[string]int{}
	for range 3000 {
		u, d := someRules(r, 12, 4, 20), someDriver(r, usual)
		if legal(u, d) != api.Sure && r.Intn(20) > 0 {
			continue
		}
		from, long := r.Intn(25), 1+r.Intn(6)
		if r.Intn(8) == 0 {
			from = 2990 + r.Intn(11)
		}
		first := -1
		for at := from; at+long <= 3000; at++ {
			if sure(u, d, at, long) {
				first = at
				break
			}
		}
		next, e := crew.Next(u, d, from, long)
		if first < 0 && (next != 0 || e != api.ErrMissing) || first >= 0 && (next != first || e != api.OK) {
			t.Fatalf("%v of %v: Next(%d, %d) = %d, %v, want %d", d, u, from, long, next, e, first)
		}
		switch {
		case first < 0 && legal(u, d) != api.Sure:
			seen["not Sure"]++
		case first < 0:
			seen["never"]++
		case first == from:
			seen["now"]++
		case clashes(d.Turns, first-1, long):
			seen["behind a turn"]++
		default:
			seen["behind a rest"]++
		}
		if first >= 0 && len(d.Turns) > 0 && first < d.Turns[len(d.Turns)-1].From.Lo {
			seen["before a turn"]++
		}
	}
	enough(t, 30, seen, "not Sure", "never", "now", "behind a turn", "behind a rest", "before a turn")
}

// P9.2: drivers with hours of driving: May, Left and Next fit each other.
func TestHoursOfDriving(t *testing.T) {
	r := rand.New(rand.NewSource(128))
	u := api.Rules{Drive: 270, Rest: 45, Day: 1440, Most: 600}
	seen := map[string]int{}
	for range 150 {
		d := someDriver(r, size{12, 150, 300, 10})
		at, long := r.Intn(2500), 1+r.Intn(300)
		next, e := crew.Next(u, d, at, long)
		if e == api.OK {
			left, e := crew.Left(u, d, next)
			if e != api.OK || left < long || next > at && sure(u, d, next-1, long) || !sure(u, d, next, left) || sure(u, d, next, left+1) {
				t.Fatalf("%v: Next(%d, %d) = %d, Left there %d, %v", d, at, long, next, left, e)
			}
			seen["next"]++
			continue
		}
		if e != api.ErrMissing {
			t.Fatal(d, e)
		}
		for i := at; i+long <= 3000; i += 1 + r.Intn(50) {
			if sure(u, d, i, long) {
				t.Fatalf("%v: Next(%d, %d) = %v, but %d", d, at, long, e, i)
			}
		}
		seen["none"]++
	}
	enough(t, 10, seen, "next", "none")
}

// P9.3 and P9.11: a weight lies in the span just if it may be shown so.
func TestWeightsThatMayBeShown(t *testing.T) {
	r := rand.New(rand.NewSource(129))
	for range 3000 {
		s := api.Scale{Zero: r.Intn(1001), Part: r.Intn(100001)}
		reading := r.Intn([...]int{50, 2000, 100001}[r.Intn(3)])
		switch r.Intn(4) {
		case 0:
			s.Zero = 0
		case 1:
			s.Part = 0
		case 2:
			s = api.Scale{Zero: r.Intn(20), Part: 1000 * r.Intn(101)}
		}
		w, e := crew.Weigh(s, reading)
		if e != api.OK || w.Lo > w.Hi || w.Lo < 0 || !shown(s, w.Lo, reading) || !shown(s, w.Hi, reading) {
			t.Fatalf("Weigh(%v, %d) = %v, %v", s, reading, w, e)
		}
		if w.Lo > 0 && shown(s, w.Lo-1, reading) || shown(s, w.Hi+1, reading) {
			t.Fatalf("Weigh(%v, %d) = %v: it may be shown beside it", s, reading, w)
		}
		if reading < 100 {
			for weight := range 2000 {
				if shown(s, weight, reading) != (w.Lo <= weight && weight <= w.Hi) {
					t.Fatalf("Weigh(%v, %d) = %v, but %d", s, reading, w, weight)
				}
			}
		}
		less := api.Scale{Zero: r.Intn(s.Zero + 1), Part: r.Intn(s.Part + 1)}
		if x, e := crew.Weigh(less, reading); e != api.OK || x.Lo < w.Lo || x.Hi > w.Hi {
			t.Fatalf("Weigh(%v, %d) = %v, but less off %v: %v, %v", s, reading, w, less, x, e)
		}
	}
}

// weights hands each list of weights that axles with some readings may have to take.
func weights(s api.Scale, readings, list []int, take func(list []int)) {
	if len(readings) == 0 {
		take(list)
		return
	}
	for weight := range 60 {
		if shown(s, weight, readings[0]) {
			weights(s, readings[1:], append(slices.Clone(list), weight), take)
		}
	}
}

// P9.3 and P9.11: who may pass, against all true weights of the axles.
func TestTrucksOfAllWeights(t *testing.T) {
	r := rand.New(rand.NewSource(130))
	seen := map[string]int{}
	for range 2000 {
		s := api.Scale{Zero: r.Intn(3), Part: 20000 * r.Intn(6)}
		var readings []int
		for range r.Intn(4) {
			readings = append(readings, r.Intn(40))
		}
		a := api.Allow{Axle: 5 + r.Intn(45), Total: 5 + r.Intn(100)}
		light, heavy := 0, 0
		sums := span(1000, -1)
		weights(s, readings, nil, func(list []int) {
			sum, good := 0, true
			for _, w := range list {
				sum += w
				good = good && w <= a.Axle
			}
			if good && sum <= a.Total {
				light++
			} else {
				heavy++
			}
			sums = span(min(sums.Lo, sum), max(sums.Hi, sum))
		})
		want := api.Open
		if heavy == 0 {
			want = api.Sure
		} else if light == 0 {
			want = api.Never
		}
		v, total, e := crew.Pass(s, readings, a)
		if e != api.OK || v != want || total != sums {
			t.Fatalf("Pass(%v, %v, %v) = %d, %v, %v, want %d, %v", s, readings, a, v, total, e, want, sums)
		}
		less := api.Scale{Zero: r.Intn(s.Zero + 1), Part: r.Intn(s.Part + 1)}
		if now, _, e := crew.Pass(less, readings, a); e != api.OK || v != api.Open && now != v {
			t.Fatalf("Pass(%v, %v, %v) = %d, but less off %v: %d, %v", s, readings, a, v, less, now, e)
		}
		seen[told(v)]++
	}
	enough(t, 100, seen, "Sure", "Never", "Open")
}

// P9.4 and P9.12: who does which haul, against all choices of drivers; with a driver more not fewer are done.
func TestAllChoicesOfDrivers(t *testing.T) {
	r := rand.New(rand.NewSource(131))
	seen := map[string]int{}
	for range 500 {
		u := someRules(r, 9, 4, 20)
		var l []api.Driver
		for range r.Intn(4) {
			d := someDriver(r, size{2, 4, 15, 1})
			d.Skills = []int{0, 1, 3, 255}[r.Intn(4)]
			l = append(l, d)
		}
		var hauls []api.Haul
		for range r.Intn(5) {
			hauls = append(hauls, someHaul(r))
		}
		want, most := assign(u, l, hauls)
		who, done, e := crew.Assign(u, l, hauls)
		if e != api.OK || !slices.Equal(who, want) || done != most {
			t.Fatalf("%v: Assign(%v, %v) = %v, %d, %v, want %v, %d", u, l, hauls, who, done, e, want, most)
		}
		if !allowed(u, l, hauls, who) {
			t.Fatalf("%v: Assign(%v, %v) = %v: somebody may not", u, l, hauls, who)
		}
		_, more, e := crew.Assign(u, append(slices.Clone(l), someDriver(r, usual)), hauls)
		if e != api.OK || more < done {
			t.Fatalf("%v: Assign(%v, %v) = %v, with a driver more %d, %v", u, l, hauls, who, more, e)
		}
		if more > done {
			seen["one more helps"]++
		}
		if done < len(hauls) && done > 0 {
			seen["some are done"]++
		}
		if !slices.IsSorted(who) {
			seen["in no order"]++
		}
		for i := range l {
			if len(slices.DeleteFunc(slices.Clone(who), func(n int) bool { return n != i })) > 1 {
				seen["several for one"]++
			}
		}
	}
	enough(t, 30, seen, "one more helps", "some are done", "in no order", "several for one")
}

// P9.5 and P9.13: a book is read from its drivers, and what is read is written as it was.
func TestTextsThereAndBack(t *testing.T) {
	r := rand.New(rand.NewSource(132))
	for range 500 {
		var l []api.Driver
		for range r.Intn(5) {
			d := someDriver(r, size{20, 150, 150, 50})
			d.Name = strings.Repeat(d.Name, 1+r.Intn(8))
			l = append(l, d)
		}
		text, e := crew.Write(l)
		again, row, e2 := crew.Read(text)
		if e != api.OK || e2 != api.OK || row != 0 || !equal(l, again) {
			t.Fatalf("%v is written as %q, %v, and read as %v, %d, %v", l, text, e, again, row, e2)
		}
	}
}

// The rows of a book.
var (
	driverRow = regexp.MustCompile(`^driver [^ ]+ (0|[1-9][0-9]{0,5})$`)
	turnRow   = regexp.MustCompile(`^turn( (0|[1-9][0-9]{0,5})){4}$`)
	endRow    = regexp.MustCompile(`^end (0|[1-9][0-9]{0,5})$`)
)

// wrongRow is the number of the first row of a text that is not as the document says, or that is the row end and has another number than that of the turns; 0 if there is none.
func wrongRow(text string) (row int, e api.Errno) {
	lines := strings.Split(text, "\n")
	last := len(lines) - 1 // what stands behind the last line feed
	drivers, turns := 0, 0
	for i, line := range lines[:last] {
		switch {
		case driverRow.MatchString(line):
			drivers++
		case drivers > 0 && turnRow.MatchString(line):
			turns++
		case endRow.MatchString(line) && (i < last-1 || lines[last] != ""):
			return i + 2, api.ErrForm
		case endRow.MatchString(line) && line != "end "+strconv.Itoa(turns):
			return i + 1, api.ErrClash
		case endRow.MatchString(line):
			return 0, api.OK
		default:
			return i + 1, api.ErrForm
		}
	}
	return last + 1, api.ErrForm
}

// P9.5 and P9.13: texts of which bytes are changed.
func TestChangedTexts(t *testing.T) {
	r := rand.New(rand.NewSource(133))
	letters := []byte("0123456789 \n-+adeinrtuv\x00\xff")
	seen := map[string]int{}
	for range 20000 {
		text, e := crew.Write([]api.Driver{someDriver(r, usual), someDriver(r, size{2, 400, 200, 9})}[r.Intn(2):])
		if e != api.OK {
			t.Fatal(e)
		}
		b := []byte(text)
		for range r.Intn(3) {
			i := r.Intn(len(b))
			switch r.Intn(3) {
			case 0:
				b[i] = letters[r.Intn(len(letters))]
			case 1:
				b = slices.Delete(b, i, i+1)
			case 2:
				b = slices.Insert(b, i, letters[r.Intn(len(letters))])
			}
		}
		text = string(b)
		l, row, e := crew.Read(text)
		if want, wrong := wrongRow(text); row != want || want > 0 && e != wrong {
			t.Fatalf("Read(%q) = %v, %d, %v, want %d, %v", text, l, row, e, want, wrong)
		}
		switch {
		case e == api.OK:
			if again, e := crew.Write(l); e != api.OK || again != text {
				t.Fatalf("%q is read, and written as %q, %v", text, again, e)
			}
			seen["read"]++
		case row > 0:
			seen[e.Error()]++
		default:
			seen["not valid"]++
		}
		if e != api.OK && len(l) > 0 {
			t.Fatalf("Read(%q) = %v beside %v", text, l, e)
		}
	}
	enough(t, 50, seen, "read", "not valid", api.ErrForm.Error(), api.ErrClash.Error())
}

// drive returns the minute in which a truck is off that is alone on a road and goes as it comes.
func drive(r *rand.Rand, c api.Convoy, fails bool) int {
	x := c.Trucks[0]
	slow := r.Intn(3)
	gone, minute := 0, x.Start
	for ; gone < c.Length; minute++ {
		n := gone + [...]int{x.Pace.Lo, x.Pace.Hi, x.Pace.Lo + r.Intn(x.Pace.Hi-x.Pace.Lo+1)}[slow]
		n = min(n, c.Length)
		for _, h := range x.Holds {
			if !fails && h.At >= gone && h.Until > minute {
				n = min(n, h.At)
				break
			}
		}
		gone = n
	}
	return minute
}

// T5: drivers whose turns go from the start of their trucks to the minutes in which these are off keep to the rules in each course if they are Sure, and in none if they are Never.
func TestDriversOfTrucks(t *testing.T) {
	r := rand.New(rand.NewSource(134))
	seen := map[string]int{}
	for range 1500 {
		d := api.Driver{Name: "ann"}
		var trucks []api.Convoy
		end := 0
		for range 1 + r.Intn(3) {
			c := api.Convoy{Length: 20 + r.Intn(60), Gap: 40, Fails: r.Intn(2)}
			x := api.Truck{Way: api.WayUp, Start: end + r.Intn(8), Pace: some(r, 8, 20, 6)}
			if r.Intn(3) == 0 {
				x.Holds = []api.Hold{{At: 1 + r.Intn(c.Length-1), Until: x.Start + r.Intn(12)}}
			}
			c.Trucks = []api.Truck{x}
			off, e := convoy.Off(c)
			if e != api.OK {
				t.Fatal(c, e)
			}
			d.Turns = append(d.Turns, api.Turn{From: one(x.Start), To: off})
			trucks = append(trucks, c)
			end = off.Hi
		}
		u := someRules(r, 14, 5, 40)
		v := legal(u, d)
		for range 10 {
			var is course
			for _, c := range trucks {
				is = is.with(c.Trucks[0].Start, drive(r, c, c.Fails > 0 && r.Intn(2) == 0))
			}
			if is.keeps(u) && v == api.Never || !is.keeps(u) && v == api.Sure {
				t.Fatalf("%v of %v is %d, but %v", d, u, v, is)
			}
		}
		seen[told(v)]++
	}
	enough(t, 100, seen, "Sure", "Never", "Open")
}
