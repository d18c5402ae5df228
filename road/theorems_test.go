package road_test

import (
	"fmt"
	"math/rand"
	"slices"
	"strconv"
	"strings"
	"testing"

	"sastrugi/api"
	"sastrugi/bear"
	"sastrugi/convoy"
	"sastrugi/crew"
	"sastrugi/fuel"
	"sastrugi/probe"
	"sastrugi/rescue"
	"sastrugi/road"
)

// enough fails unless there were so many of each kind.
func enough(t *testing.T, least int, seen map[string]int, kinds ...string) {
	t.Helper()
	for _, kind := range kinds {
		if seen[kind] < least {
			t.Error("too few of each kind:", seen)
			return
		}
	}
}

// kindOf is the verb of a line, with the first word of its reply, or with its error.
func kindOf(text, reply string) string {
	verb, _, _ := strings.Cut(text, " ")
	first, _, _ := strings.Cut(reply, " ")
	if first == "error" {
		first = reply
	}
	return verb + ": " + first
}

// P10.1, P10.2 and T7: replies, desks and reports are what the document says of the desk, word by word, by the layers.
func TestWordByWord(t *testing.T) {
	r := rand.New(rand.NewSource(137))
	seen := map[string]int{}
	for i := range 600 {
		lines, models := someDay(r, 60, []func(r *rand.Rand, m model) string{someLine, someLine, busyLine}[i%3])
		got := replies(t, models[0].r, lines...)
		for i, text := range lines {
			want, _ := models[i].line(text)
			if got[i] != want {
				t.Fatalf("%v\n%s\n%s: the reply is %q, want %q", models[0].r, sheet(lines[:i]...), text, got[i], want)
			}
			seen[kindOf(text, want)]++
		}
		last := models[len(lines)]
		if d := desk(t, last.r, lines...); shown(d) != shown(last.d) {
			t.Fatalf("%v\n%s: the desk is %v, want %v", last.r, sheet(lines...), d, last.d)
		}
		weight := r.Intn(9000)
		text, e := road.Report(last.r, sheet(lines...), weight)
		if want, we := last.report(weight); text != want || e != we || e != api.OK {
			t.Fatalf("%v\n%s: the report is %q, %v, want %q", last.r, sheet(lines...), text, e, want)
		}
		seen["report: "+strconv.Itoa(len(last.d.Trucks))]++
	}
	enough(t, 10, seen,
		": error 3", "wait: ok", "wait: error 3", "core: ok", "auger: ok", "radar: ok", "radar: error 7", "radar: error 11", "radar: error 12", "crack: ok", "crack: error 11", "ridge: ok", "seep: ok", "mend: ok", "mend: error 3",
		"shut: open", "shut: shut", "lasts: lasts", "lasts: shut", "storm: caught", "breakup: sure", "breakup: open", "breakup: never", "breakup: error 11", "next: next", "next: error 7", "move: ok", "move: error 3", "move: error 7", "move: error 12", "fuel: lost", "reach: sure", "reach: never", "reach: open", "reach: error 7",
		"go: go", "go: later", "go: shut", "go: error 3", "go: error 7", "go: error 10", "go: error 12", "go: error 13", "go: error 14", "report: 0", "report: 1", "report: 2", "report: 3")
}

// P10.3: the replies to the first lines do not depend on those that follow, and lines with errors can be left out.
func TestReplayed(t *testing.T) {
	r := rand.New(rand.NewSource(138))
	seen := map[string]int{}
	for range 150 {
		lines, models := someDay(r, 50, someLine)
		g := models[0].r
		all := replies(t, g, lines...)
		many := r.Intn(len(lines) + 1)
		if first := replies(t, g, lines[:many]...); !slices.Equal(first, all[:many]) {
			t.Fatalf("%v\n%s: the first %d replies are %q, want %q", g, sheet(lines...), many, first, all[:many])
		}
		var good, want []string
		for i, text := range lines {
			if strings.HasPrefix(all[i], "error") {
				seen["left out"]++
				continue
			}
			good, want = append(good, text), append(want, all[i])
		}
		if got := replies(t, g, good...); !slices.Equal(got, want) {
			t.Fatalf("%v\n%s: without errors the replies are %q, want %q", g, sheet(lines...), got, want)
		}
		if with, without := desk(t, g, lines...), desk(t, g, good...); shown(with) != shown(without) {
			t.Fatalf("%v\n%s: the desk is %v, without errors %v", g, sheet(lines...), with, without)
		}
		a, e1 := road.Report(g, sheet(lines...), 1000)
		b, e2 := road.Report(g, sheet(good...), 1000)
		if a != b || e1 != api.OK || e2 != api.OK {
			t.Fatalf("%v\n%s: the report is %q, %v, without errors %q, %v", g, sheet(lines...), a, e1, b, e2)
		}
	}
	enough(t, 500, seen, "left out")
}

// someIce is a course of the ice that fits looks, from the hour of a desk on: the least one that fits some more looks too, which lie within what is known.
func someIce(r *rand.Rand, m model, hours int) [][]int {
	looks, now := slices.Clone(m.d.Looks), m.d.Minute/60
	for range r.Intn(4) {
		at, hour := r.Intn(m.places()), now+r.Intn(hours)
		known, e := probe.Known(m.r.Survey, looks, at, hour)
		if e != api.OK {
			panic(e)
		}
		looks = append(looks, api.Look{Kind: api.LookCore, At: at, Hour: hour, Value: one(known.Lo + r.Intn(known.Hi-known.Lo+1))})
	}
	var course [][]int
	for i := range hours {
		var thick []int
		for place := range m.places() {
			known, e := probe.Known(m.r.Survey, looks, place, now+i)
			if e != api.OK {
				panic(e)
			}
			thick = append(thick, known.Lo)
		}
		course = append(course, thick)
	}
	if hour, place, e := probe.Breaks(m.r.Survey, m.d.Looks, now, course); hour >= 0 || place >= 0 || e != api.OK {
		panic("this is no course of the ice")
	}
	return course
}

// someDrive is where a truck is in each minute from its start on, up to the one in which it is off.
func someDrive(r *rand.Rand, m model, x api.Truck) []int {
	long := 100 * m.places()
	at, style := []int{0}, r.Intn(3)
	for gone := 0; gone < long; {
		step := x.Pace.Lo + r.Intn(x.Pace.Hi-x.Pace.Lo+1)
		switch style {
		case 1:
			step = x.Pace.Lo
		case 2:
			step = x.Pace.Hi
		}
		gone = min(gone+step, long)
		at = append(at, gone)
	}
	if x.Way == api.WayDown {
		for i := range at {
			at[i] = long - at[i]
		}
	}
	return at
}

// on is a truck that is on the lane.
type on struct{ at, weight int }

// onTheLane are the trucks that are on the lane in a minute.
func onTheLane(d api.Desk, drives [][]int, minute int) []on {
	var l []on
	for i, x := range d.Trucks {
		// The last metre of a drive is where the truck has arrived.
		if since := minute - x.Truck.Start; since >= 0 && since < len(drives[i])-1 {
			l = append(l, on{drives[i][since], x.Weight})
		}
	}
	return l
}

// distance is how far two trucks are apart.
func distance(x, y on) int { return max(x.at-y.at, y.at-x.at) }

// burdened is the burden at a truck, a million times.
func burdened(p api.Plate, l []on, x on) int {
	sum := 0
	for _, y := range l {
		part := 0
		for _, s := range p.Shares {
			if s.From <= distance(x, y) {
				part = s.Part
			}
		}
		sum += y.weight * part
	}
	return sum
}

// P10.4 and P10.5: in any course of the trucks from now on, and of the ice, the ice bears each truck on the lane, with all others, and no two trucks come too near each other.
func TestBorneAndApart(t *testing.T) {
	r := rand.New(rand.NewSource(139))
	seen := map[string]int{}
	for range 200 {
		lines, models := someDay(r, 50, busyLine)
		for i := range lines {
			// Whenever a truck went, and sometimes later.
			if len(models[i+1].d.Trucks) <= len(models[i].d.Trucks) && r.Intn(8) > 0 {
				continue
			}
			m := model{models[0].r, desk(t, models[0].r, lines[:i+1]...)}
			if _, e := convoy.Meets(m.convoy(m.trucks()...)); e != api.ErrMissing {
				t.Fatalf("%v\n%s: the convoy is not accepted: %v", m.r, sheet(lines[:i+1]...), e)
			}
			for range 2 * len(m.d.Trucks) {
				last := borne(t, r, m, seen)
				seen["in later hours"] += (last/60 - m.d.Minute/60 + 9) / 10
			}
			seen["trucks "+strconv.Itoa(len(m.d.Trucks))]++
		}
	}
	enough(t, 20, seen, "trucks 1", "trucks 2", "trucks 3", "in later hours", "alone", "nearly too heavy", "with others", "nearly too heavy with others")
}

// borne looks at one course, and returns its last minute.
func borne(t *testing.T, r *rand.Rand, m model, seen map[string]int) int {
	t.Helper()
	var drives [][]int
	last := m.d.Minute
	for _, x := range m.d.Trucks {
		drives = append(drives, someDrive(r, m, x.Truck))
		last = max(last, m.arrival(x.Truck).Hi)
	}
	ice := someIce(r, m, last/60-m.d.Minute/60+1)
	for minute := m.d.Minute; minute <= last; minute++ {
		l := onTheLane(m.d, drives, minute)
		for i, x := range l {
			for _, y := range l[:i] {
				if distance(x, y) < m.r.Gap {
					t.Fatalf("%v: in the minute %d trucks are at %d and %d", m, minute, x.at, y.at)
				}
			}
			// The last metre of the road belongs to its last place.
			thick := ice[minute/60-m.d.Minute/60][min(x.at/100, m.places()-1)]
			burden, strength := burdened(m.r.Plate, l, x), m.r.Plate.Strength.Lo*thick*thick
			if burden > strength {
				t.Fatalf("%v: in the minute %d the ice does not bear the truck at %d: it is %d thick", m, minute, x.at, thick)
			}
			kind := "alone"
			if burden > x.weight*api.Mil {
				kind = "with others"
			}
			seen[kind]++
			if burden > strength/10*9 {
				seen["nearly too heavy"]++
				if kind == "with others" {
					seen["nearly too heavy with others"]++
				}
			}
		}
	}
	return last
}

// exactly is a region with a scale that is not off: what is read is what a truck weighs.
func exactly(g api.Region) api.Region {
	g.Scale, g.Allow = api.Scale{}, api.Allow{Axle: 100000, Total: 100000}
	return g
}

// P10.6: what shut tells is what probe.Close says; after open a truck is not told shut for the same weight if it arrives in this hour, and after shut none goes.
func TestGates(t *testing.T) {
	r := rand.New(rand.NewSource(140))
	seen := map[string]int{}
	for i := range 300 {
		lines, models := someDay(r, 25, []func(r *rand.Rand, m model) string{someLine, busyLine}[i%2])
		m := models[len(lines)]
		m.r = exactly(m.r)
		m.d = desk(t, m.r, lines...)
		for range 8 {
			weight := 1 + r.Intn(9000)
			name, way := m.r.Drivers[r.Intn(len(m.r.Drivers))].Name, r.Intn(2)
			gate := fmt.Sprint("shut ", weight)
			enter := fmt.Sprintf("go %s %s %d", []string{"up", "down"}[way], name, weight)
			got := replies(t, m.r, append(lines, gate, enter)...)[len(lines):]
			need, e := bear.Need(m.r.Plate, weight, 0)
			if e != api.OK {
				t.Fatal(e)
			}
			closures, e := probe.Close(m.r.Survey, m.d.Looks, m.d.Marks, need, m.d.Minute/60)
			if e != api.OK || got[0] != gates(closures) {
				t.Fatalf("%v\n%s%s: the reply is %q, want %q, %v", m.r, sheet(lines...), gate, got[0], gates(closures), e)
			}
			off := m.arrival(api.Truck{Start: m.d.Minute, Pace: m.r.Pace})
			told, went := strings.HasPrefix(got[1], "shut"), strings.HasPrefix(got[1], "go")
			if got[0] == "open" && off.Hi/60 == m.d.Minute/60 && told || got[0] != "open" && went {
				t.Fatalf("%v\n%s%s: the replies are %q", m.r, sheet(lines...), enter, got)
			}
			// If it is this hour in which there are closures, they are what is told.
			if got[0] != "open" && told && got[1] != got[0] {
				t.Fatalf("%v\n%s%s: the replies are %q", m.r, sheet(lines...), enter, got)
			}
			kind, _, _ := strings.Cut(got[0], " ")
			switch {
			case told:
				kind += ", told shut"
			case went:
				kind += ", went"
			}
			seen[kind]++
		}
	}
	enough(t, 50, seen, "open", "open, told shut", "open, went", "shut", "shut, told shut")
}

// P10.7: after each line each driver is Sure, and so are they whatever the true minutes of their arrivals are.
func TestHours(t *testing.T) {
	r := rand.New(rand.NewSource(141))
	seen := map[string]int{}
	for range 60 {
		lines, models := someDay(r, 60, busyLine)
		g := models[0].r
		if r.Intn(2) == 0 {
			g.Rules = api.Rules{Drive: 60 + r.Intn(60), Rest: 1 + r.Intn(60), Day: 1 + r.Intn(600), Most: 60 + r.Intn(60)}
		}
		for i := range len(lines) + 1 {
			d := desk(t, g, lines[:i]...)
			for _, x := range d.Drivers {
				v, _, _, e := crew.Legal(g.Rules, x)
				if e != api.OK || v != api.Sure {
					t.Fatalf("%v\n%s: the verdict on %v is %d, %v", g, sheet(lines[:i]...), x, v, e)
				}
				for k, turn := range x.Turns {
					x.Turns[k].To = one(turn.To.Lo + r.Intn(turn.To.Hi-turn.To.Lo+1))
				}
				if v, _, _, e := crew.Legal(g.Rules, x); e != api.OK || v != api.Sure {
					t.Fatalf("%v\n%s: the verdict on %v is %d, %v", g, sheet(lines[:i]...), x, v, e)
				}
				seen["turns "+strconv.Itoa(min(len(x.Turns), 3))]++
			}
		}
		for i, reply := range replies(t, g, lines...) {
			seen[kindOf(lines[i], reply)]++
		}
	}
	enough(t, 30, seen, "turns 0", "turns 1", "turns 2", "turns 3", "go: error 13", "go: error 12")
}

// moves are the moves of lines whose replies are ok.
func moves(lines, replies []string) []api.Move {
	var l []api.Move
	for i, text := range lines {
		var m api.Move
		if n, _ := fmt.Sscanf(text, "move %d %d %d %d", &m.From, &m.To, &m.Litres.Lo, &m.Litres.Hi); n == 4 && replies[i] == "ok" {
			l = append(l, m)
		}
	}
	return l
}

// P10.8: the book after the lines is that of the region with the moves whose replies were ok, and it has a truth.
func TestLitres(t *testing.T) {
	r := rand.New(rand.NewSource(142))
	seen := map[string]int{}
	for range 200 {
		lines, models := someDay(r, 40, func(r *rand.Rand, m model) string {
			for {
				if text := someLine(r, m); strings.HasPrefix(text, "move") || r.Intn(20) == 0 {
					return text
				}
			}
		})
		g := models[0].r
		b, before := desk(t, g, lines...).Book, g.Book
		list := moves(lines, replies(t, g, lines...))
		if !slices.Equal(b.Accounts, before.Accounts) || !slices.Equal(b.Moves, append(slices.Clone(before.Moves), list...)) {
			t.Fatalf("%v\n%s: the book is %v", g, sheet(lines...), b)
		}
		// A truth is what one has whose spans have been narrowed to one number each, one after the other.
		narrow := func(s *api.Span, of func(b api.Book) api.Span) {
			refined, e := fuel.Refine(b)
			if e != api.OK {
				t.Fatalf("%v\n%s: the book %v has no truth: %v", g, sheet(lines...), b, e)
			}
			*s = one(of(refined).Lo)
		}
		for i := range b.Accounts {
			narrow(&b.Accounts[i].Open, func(b api.Book) api.Span { return b.Accounts[i].Open })
			narrow(&b.Accounts[i].Close, func(b api.Book) api.Span { return b.Accounts[i].Close })
		}
		for i := range b.Moves {
			narrow(&b.Moves[i].Litres, func(b api.Book) api.Span { return b.Moves[i].Litres })
		}
		truth := api.Truth{}
		for _, x := range b.Accounts {
			truth.Open, truth.Close = append(truth.Open, x.Open.Lo), append(truth.Close, x.Close.Lo)
		}
		for _, x := range b.Moves {
			truth.Moved = append(truth.Moved, x.Litres.Lo)
		}
		if _, e := fuel.Balance(b, truth); e != api.OK {
			t.Fatalf("%v\n%s: %v is no truth of %v: %v", g, sheet(lines...), truth, b, e)
		}
		seen["moves "+strconv.Itoa(min(len(list), 2))]++
	}
	enough(t, 50, seen, "moves 0", "moves 2")
}

// P10.9: in the hour in which a truck goes, and up to the one in which it arrives at the latest, no place is stale, thinner than its need may be, or may be covered by a mark.
func TestLookedAt(t *testing.T) {
	r := rand.New(rand.NewSource(143))
	seen := map[string]int{}
	for range 400 {
		lines, models := someDay(r, 40, someLine)
		g := models[0].r
		for i, reply := range replies(t, g, lines...) {
			if !strings.HasPrefix(reply, "go") {
				continue
			}
			d := desk(t, g, lines[:i+1]...)
			x := d.Trucks[len(d.Trucks)-1]
			need, e := bear.Need(g.Plate, x.Weight, 0)
			if e != api.OK {
				t.Fatal(e)
			}
			m := model{g, d}
			for hour := d.Minute / 60; hour <= m.arrival(x.Truck).Hi/60; hour++ {
				stale, e1 := probe.Stale(g.Survey, d.Looks, hour)
				cover, e2 := probe.Cover(g.Survey, d.Marks, hour)
				least, e3 := probe.Least(g.Survey, d.Looks, 0, m.places()-1, hour)
				never := []api.Patch{{From: 0, To: m.places() - 1, Verdict: api.Never}}
				if len(stale) > 0 || !slices.Equal(cover, never) || least.Lo < need || e1 != api.OK || e2 != api.OK || e3 != api.OK {
					t.Fatalf("%v\n%s: in the hour %d %v is stale, %v covered, and %v thick, not %d", g, sheet(lines[:i+1]...), hour, stale, cover, least, need)
				}
				if hour > d.Minute/60 {
					seen["later hours"]++
				}
			}
			seen["trucks"]++
			if len(d.Marks) > 0 {
				seen["with marks"]++
			}
		}
	}
	enough(t, 50, seen, "trucks", "with marks", "later hours")
}

// T7: if the last truck is surely off before the break-up, none is on its way in the first minute in which the ice may break up; if it never is, one is on its way in the minute before the last one.
func TestBreakUp(t *testing.T) {
	r := rand.New(rand.NewSource(144))
	seen := map[string]int{}
	for range 300 {
		lines, models := someDay(r, 30, busyLine)
		m := models[len(lines)]
		low := m.d.Minute + r.Intn(40)
		if n := len(m.d.Trucks); n > 0 && r.Intn(3) > 0 {
			low = m.arrival(m.d.Trucks[r.Intn(n)].Truck).Hi + r.Intn(3) - 1
		}
		high := low + r.Intn(20)
		if low < m.d.Minute || high > 3000 {
			continue
		}
		more := append(lines, fmt.Sprintf("breakup %d %d", low, high))
		verdict := replies(t, m.r, more...)[len(lines)]
		trucks := func(minute int) int {
			return len(desk(t, m.r, append(more, fmt.Sprint("wait ", minute-m.d.Minute))...).Trucks)
		}
		if verdict == "sure" && trucks(low) > 0 || verdict == "never" && high > m.d.Minute && trucks(high-1) == 0 {
			t.Fatalf("%v\n%s: the verdict is %s", m.r, sheet(more...), verdict)
		}
		seen[fmt.Sprint(verdict, len(m.d.Trucks) > 0)]++
		if verdict != "sure" && low > 0 && trucks(low) == 0 && len(m.d.Trucks) > 0 {
			// What is not sure may be: somebody may be off in the minute of the break-up itself, not before it.
			seen["in the last minute"]++
		}
	}
	enough(t, 5, seen, "suretrue", "surefalse", "nevertrue", "opentrue", "in the last minute")
}

// T7: a spot is surely reached in time just if the minute of the day is in none of its gaps.
func TestReachedAtAllMinutes(t *testing.T) {
	r := rand.New(rand.NewSource(145))
	seen := map[string]int{}
	for range 60 {
		g := someRegion(r)
		for spot := range g.Rescue.Spots {
			gaps, e := rescue.Gaps(g.Rescue, spot)
			if e != api.OK {
				t.Fatal(e)
			}
			var lines []string
			var minutes []int
			for now := 0; now < 3000 && len(lines) < 98; {
				// Often to an end of a gap, of this day or of one of the next ones.
				step := 1 + r.Intn(100)
				if len(gaps) > 0 && r.Intn(2) == 0 {
					edge := gaps[r.Intn(len(gaps))]
					to := []int{edge.Lo - 1, edge.Lo, edge.Hi, edge.Hi + 1}[r.Intn(4)]
					step = ((to-now)%1440 + 1440) % 1440
				}
				if now+step > 3000 {
					break
				}
				now += step
				lines, minutes = append(lines, fmt.Sprint("wait ", step), fmt.Sprint("reach ", spot)), append(minutes, now)
			}
			got := replies(t, g, lines...)
			for i, minute := range minutes {
				gap := slices.ContainsFunc(gaps, func(s api.Span) bool { return s.Lo <= minute%1440 && minute%1440 <= s.Hi })
				if reply := got[2*i+1]; (reply == "sure") == gap {
					t.Fatalf("%v: in the minute %d the reply for the spot %d is %s, its gaps are %v", g.Rescue, minute, spot, reply, gaps)
				}
				seen[fmt.Sprint(gap, minute/1440)]++
			}
		}
	}
	enough(t, 100, seen, "true 0", "true 1", "false 0", "false 1")
}

// T7: a truck that goes truly weighs no more than is written down, and than is allowed, and so does each axle.
func TestTrueWeights(t *testing.T) {
	r := rand.New(rand.NewSource(146))
	seen := map[string]int{}
	for range 1000 {
		g := exact(func(g *api.Region) {
			g.Scale = api.Scale{Zero: r.Intn(100), Part: r.Intn(50000)}
			g.Allow = api.Allow{Axle: 1000 + r.Intn(1000), Total: 2000 + r.Intn(1500)}
		})
		var readings []int
		text := "go down bob"
		for range 1 + r.Intn(3) {
			readings = append(readings, r.Intn(1800))
			text += fmt.Sprint(" ", readings[len(readings)-1])
		}
		lines := []string{"radar 1 600 600", text}
		reply := replies(t, g, lines...)[1]
		seen[reply]++
		if reply != "go 1" {
			continue
		}
		x := desk(t, g, lines...).Trucks[0]
		total := 0
		for _, reading := range readings {
			// The greatest weight that the scale may show so; one kilogram more it may not.
			weight := (reading + g.Scale.Zero) * 1000000 / (1000000 - g.Scale.Part)
			if weight > g.Allow.Axle {
				t.Fatalf("%v, %s: an axle may weigh %d", g, text, weight)
			}
			total += weight
		}
		if total != x.Weight || total > g.Allow.Total {
			t.Fatalf("%v, %s: the truck may weigh %d, and %d is written down", g, text, total, x.Weight)
		}
		seen["axles "+strconv.Itoa(len(readings))]++
	}
	enough(t, 100, seen, "go 1", "error 14", "axles 1", "axles 2")
}
