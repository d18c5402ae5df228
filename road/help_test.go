package road_test

import (
	"fmt"
	"math/rand"
	"regexp"
	"slices"
	"sort"
	"strconv"
	"strings"
	"testing"

	"sastrugi/api"
	"sastrugi/bear"
	"sastrugi/convoy"
	"sastrugi/crew"
	"sastrugi/fuel"
	"sastrugi/probe"
	"sastrugi/rescue"
	"sastrugi/road"
)

func span(low, high int) api.Span { return api.Span{Lo: low, Hi: high} }

func one(n int) api.Span { return span(n, n) }

// plate is the plate P of the chapter about what ice bears.
func plate() api.Plate {
	return api.Plate{
		Strength: span(40000, 50000),
		Shares:   []api.Share{{Part: 1000000}, {From: 20, Part: 500000}, {From: 100}},
		Creep:    []api.Share{{Part: 1000000}, {From: 60, Part: 640000}, {From: 600, Part: 250000}},
		Near:     5,
		Edge:     500000,
		Gravity:  98,
		Low:      640000,
		High:     1440000,
		Shore:    50,
		Wider:    250000,
	}
}

// region is the region L of the chapter's examples.
func region() api.Region {
	return api.Region{
		Survey: api.Survey{Reaches: []api.Reach{{Long: 3, Slope: 10, Thin: 1, Grow: 1, Every: 24}}, Sight: [3]int{0, 0, 2}},
		Plate:  plate(),
		Gap:    200,
		Pace:   one(100),
		Book: api.Book{Accounts: []api.Account{
			{Name: "rack", Kind: api.AccountTank, Open: one(1000), Close: span(900, 1000)},
			{Name: "camp", Kind: api.AccountTank, Close: span(0, 100)},
		}},
		Rescue: api.Rescue{
			Spots:  1,
			Posts:  []api.Post{{Ready: span(2, 3)}},
			Water:  []api.Span{span(0, 10)},
			Chills: []api.Chill{{Warm: -400, Minutes: span(10, 20)}},
		},
		Rules:   api.Rules{Drive: 60, Rest: 30, Day: 600, Most: 300},
		Drivers: []api.Driver{{Name: "ann", Skills: 1}, {Name: "bob", Skills: 1}},
		Scale:   api.Scale{Zero: 20, Part: 10000},
		Allow:   api.Allow{Axle: 5000, Total: 10000},
	}
}

// changed is L with a change.
func changed(change func(r *api.Region)) api.Region {
	r := region()
	change(&r)
	return r
}

// exact is L with a scale that is not off, and with a long time for driving.
func exact(change func(r *api.Region)) api.Region {
	r := region()
	r.Scale, r.Allow = api.Scale{}, api.Allow{Axle: 1000000, Total: 1000000}
	r.Rules = api.Rules{Drive: 3000, Rest: 1, Day: 3000, Most: 3000}
	change(&r)
	return r
}

// sheet is the sheet with some lines.
func sheet(lines ...string) string {
	text := ""
	for _, l := range lines {
		text += l + "\n"
	}
	return text
}

// replies are the replies to lines, which must be as many.
func replies(t *testing.T, r api.Region, lines ...string) []string {
	t.Helper()
	out, e := road.Run(r, sheet(lines...))
	if e != api.OK || strings.Count(out, "\n") != len(lines) || out != "" && !strings.HasSuffix(out, "\n") {
		t.Fatalf("the replies to %q are %q, %v", lines, out, e)
	}
	return strings.Split(out, "\n")[:len(lines)]
}

// dialogue checks replies to lines: each pair is a line and its reply.
func dialogue(t *testing.T, r api.Region, pairs ...string) {
	t.Helper()
	var lines []string
	for i := 0; i < len(pairs); i += 2 {
		lines = append(lines, pairs[i])
	}
	for i, reply := range replies(t, r, lines...) {
		if reply != pairs[2*i+1] {
			t.Errorf("the line %d, %s: the reply is %q, want %q", i+1, lines[i], reply, pairs[2*i+1])
		}
	}
}

// desk is the desk after some lines.
func desk(t *testing.T, r api.Region, lines ...string) api.Desk {
	t.Helper()
	d, e := road.Keep(r, sheet(lines...))
	if e != api.OK {
		t.Fatal(e)
	}
	return d
}

// shown is a desk as a text; of slices without anything it does not show whether they are nil.
func shown(d api.Desk) string { return fmt.Sprintf("%v", d) }

// What the document says, word by word.

// model is a dispatcher: a region and its desk.
type model struct {
	r api.Region
	d api.Desk
}

// begun is the model before the first line.
func begun(r api.Region) model {
	return model{r, api.Desk{Drivers: r.Drivers, Book: r.Book}}
}

// copied is a model that shares no memory with another one (but for the region).
func (m model) copied() model {
	d := m.d
	d.Looks, d.Marks, d.Trucks, d.Drivers = slices.Clone(d.Looks), slices.Clone(d.Marks), slices.Clone(d.Trucks), slices.Clone(d.Drivers)
	for i := range d.Drivers {
		d.Drivers[i].Turns = slices.Clone(d.Drivers[i].Turns)
	}
	d.Book.Accounts, d.Book.Moves = slices.Clone(d.Book.Accounts), slices.Clone(d.Book.Moves)
	return model{m.r, d}
}

// formed is a line as said, in which N is a number.
var formed = regexp.MustCompile("^(" + strings.ReplaceAll(strings.Join([]string{
	"(wait|shut|storm|reach) N", "(core|auger|radar|crack|ridge|seep) N N N", "(mend|lasts|breakup) N N", "go (up|down) [^ ]+( N)+", "next [^ ]+ N", "move N N N N", "fuel",
}, "|"), "N", "(0|[1-9][0-9]{0,8})") + ")$")

// line is the reply to a line, and the model behind it.
func (m model) line(text string) (string, model) {
	if !formed.MatchString(text) {
		return "error 3", m
	}
	words := strings.Split(text, " ")
	var numbers []int // what is none counts as 0
	for _, word := range words[1:] {
		n, _ := strconv.Atoi(word)
		numbers = append(numbers, n)
	}
	next := m.copied()
	if reply, e := next.do(words, numbers); e == api.OK {
		return reply, next
	} else {
		return fmt.Sprint("error ", int(e)), m
	}
}

// do does what a line says; n are the numbers behind the verb.
func (m *model) do(w []string, n []int) (string, api.Errno) {
	switch w[0] {
	case "wait":
		if m.d.Minute += n[0]; m.d.Minute > 3000 {
			return "", api.ErrRange
		}
		m.d.Trucks = slices.DeleteFunc(m.d.Trucks, func(x api.Rolling) bool { return m.d.Minute >= m.arrival(x.Truck).Hi })
		return "ok", api.OK
	case "core", "auger", "radar":
		kind := 1 + slices.Index([]string{"core", "auger", "radar"}, w[0])
		m.d.Looks = append(m.d.Looks, api.Look{Kind: kind, At: n[0], Hour: m.d.Minute / 60, Value: span(n[1], n[2])})
		return "ok", probe.CheckLooks(m.r.Survey, m.d.Looks)
	case "crack", "ridge", "seep", "mend":
		kind := 1 + slices.Index([]string{"crack", "ridge", "seep", "mend"}, w[0])
		n = append(n, 0)
		m.d.Marks = append(m.d.Marks, api.Mark{Kind: kind, From: n[0], To: n[1], Hour: m.d.Minute / 60, Speed: n[2]})
		return "ok", probe.CheckMarks(m.r.Survey, m.d.Marks)
	case "go":
		return m.letOn(w[1], w[2], n[2:])
	case "move":
		var e api.Errno
		m.d.Book, e = fuel.Post(m.d.Book, api.Move{From: n[0], To: n[1], Litres: span(n[2], n[3])})
		return "ok", e
	}
	return m.ask(w, n)
}

// ask does what a line says that changes nothing.
func (m *model) ask(w []string, n []int) (string, api.Errno) {
	switch w[0] {
	case "shut":
		closures, e := m.closures(n[0], m.d.Minute/60)
		return strings.TrimSpace(gates(closures)), e
	case "lasts":
		need, e := bear.Need(m.r.Plate, n[1], 0)
		if e != api.OK {
			return "", e
		}
		hour, e := probe.Lasts(m.r.Survey, m.d.Looks, m.d.Marks, need, m.d.Minute/60, n[0])
		if hour < 0 {
			return "shut", e
		}
		return fmt.Sprint("lasts ", hour), e
	case "storm":
		if m.d.Minute+n[0] > 3000 {
			return "", api.ErrRange
		}
		verdicts, e := convoy.Caught(m.convoy(m.trucks()...), span(m.d.Minute, m.d.Minute+n[0]))
		return strings.Join(append([]string{"caught"}, words(verdicts)...), " "), e
	case "breakup":
		verdict, e := convoy.Safe(m.convoy(m.trucks()...), span(n[0], n[1]))
		return word(verdict), e
	case "next":
		driver := m.driver(w[1])
		if driver < 0 {
			return "", api.ErrMissing
		}
		minute, e := crew.Next(m.r.Rules, m.d.Drivers[driver], m.d.Minute, n[1])
		return fmt.Sprint("next ", minute), e
	case "fuel":
		_, total, e := fuel.Losses(m.d.Book)
		reply := fmt.Sprintf("lost %d %d", total.Lo, total.Hi)
		verdicts, _ := fuel.Missing(m.d.Book)
		for i, x := range m.d.Book.Accounts {
			reply += " " + x.Name + " " + word(verdicts[i])
		}
		return reply, e
	}
	if n[0] >= m.r.Rescue.Spots { // reach
		return "", api.ErrMissing
	}
	minute := m.d.Minute
	for minute >= 1440 {
		minute -= 1440
	}
	verdicts, e := rescue.Cover(m.r.Rescue, minute)
	return word(verdicts[n[0]]), e
}

// letOn is the gate for a truck.
func (m *model) letOn(way, name string, readings []int) (string, api.Errno) {
	driver := m.driver(name)
	if driver < 0 {
		return "", api.ErrMissing
	}
	verdict, total, e := crew.Pass(m.r.Scale, readings, m.r.Allow)
	if e != api.OK {
		return "", e
	}
	if verdict != api.Sure {
		return "", api.ErrOver
	}
	need, e := bear.Need(m.r.Plate, total.Hi, 0)
	if e != api.OK {
		return "", e
	}
	if need > 3000 {
		return "", api.ErrOver
	}
	if len(m.d.Trucks) >= 20 {
		return "", api.ErrFull
	}
	x := api.Rolling{Driver: driver, Weight: total.Hi, Truck: api.Truck{Way: 1 + slices.Index([]string{"up", "down"}, way), Start: m.d.Minute, Pace: m.r.Pace}}
	off := m.arrival(x.Truck)
	verdict, e = crew.May(m.r.Rules, m.d.Drivers[driver], m.d.Minute, off.Hi-m.d.Minute)
	if e != api.OK {
		return "", e
	}
	if verdict != api.Sure {
		return "", api.ErrLate
	}
	for hour := m.d.Minute / 60; hour <= off.Hi/60; hour++ {
		if closures, e := m.closures(total.Hi, hour); e != api.OK || len(closures) > 0 {
			return strings.TrimSpace(gates(closures)), e
		}
	}
	if gap := m.rowGap(append(slices.Clone(m.d.Trucks), x)); gap < 0 || gap > m.r.Gap {
		return "", api.ErrOver
	}
	return m.go_(x, off)
}

// rowGap is the least gap of trucks in a row, of which each one weighs as much as the heaviest one, on the ice as thin as it may be when the last one arrives.
func (m *model) rowGap(trucks []api.Rolling) int {
	weight, last := 0, 0
	for _, x := range trucks {
		weight, last = max(weight, x.Weight), max(last, m.arrival(x.Truck).Hi)
	}
	thick := 3000
	for place := range m.places() {
		known, e := probe.Known(m.r.Survey, m.d.Looks, place, last/60)
		if e != api.OK {
			panic(e)
		}
		thick = min(thick, known.Lo)
	}
	gap, e := bear.Gap(m.r.Plate, thick, slices.Repeat([]api.Span{one(weight)}, len(trucks)))
	if e != api.OK {
		panic(e)
	}
	return gap
}

// go_ looks for the first minute with which the convoy is accepted; if it is this one, the truck goes.
func (m *model) go_(x api.Rolling, off api.Span) (string, api.Errno) {
	for minute := m.d.Minute; minute <= min(m.d.Minute+120, 3000); minute++ {
		next := x.Truck
		next.Start = minute
		_, e := convoy.Meets(m.convoy(append(m.trucks(), next)...))
		if e != api.ErrMissing {
			continue
		}
		if minute != m.d.Minute {
			return fmt.Sprint("later ", minute), api.OK
		}
		m.d.Trucks = append(m.d.Trucks, x)
		m.d.Drivers[x.Driver].Turns = append(m.d.Drivers[x.Driver].Turns, api.Turn{From: one(minute), To: off})
		return fmt.Sprint("go ", len(m.d.Trucks)), api.OK
	}
	return "", api.ErrState
}

// report is the report on the desk.
func (m *model) report(weight int) (string, api.Errno) {
	closures, e := m.closures(weight, m.d.Minute/60)
	if e != api.OK {
		return "", e
	}
	text := fmt.Sprintln("minute", m.d.Minute)
	if len(closures) == 0 {
		text += "open\n"
	}
	for _, x := range closures {
		text += gates([]api.Closure{x}) + "\n"
	}
	for _, x := range m.d.Trucks {
		text += fmt.Sprintln("truck", []string{"", "up", "down"}[x.Truck.Way], m.r.Drivers[x.Driver].Name, x.Weight, x.Truck.Start)
	}
	for _, x := range m.d.Drivers {
		verdict, _, _, _ := crew.Legal(m.r.Rules, x)
		text += fmt.Sprintln("driver", x.Name, word(verdict))
	}
	_, total, e := fuel.Losses(m.d.Book)
	return text + fmt.Sprintln("lost", total.Lo, total.Hi) + "end\n", e
}

// word is the word for a verdict.
func word(verdict int) string { return []string{"none", "sure", "never", "open"}[verdict] }

func words(verdicts []int) []string {
	var l []string
	for _, v := range verdicts {
		l = append(l, word(v))
	}
	return l
}

// gates are the words for closures.
func gates(l []api.Closure) string {
	if len(l) == 0 {
		return "open"
	}
	text := "shut"
	for _, x := range l {
		text += fmt.Sprintf(" %d %d %s", x.From, x.To, []string{"", "thin", "mark", "stale"}[x.Reason])
	}
	return text
}

// closures are the places that are shut for a weight in an hour.
func (m *model) closures(weight, hour int) ([]api.Closure, api.Errno) {
	need, e := bear.Need(m.r.Plate, weight, 0)
	if e != api.OK {
		return nil, e
	}
	return probe.Close(m.r.Survey, m.d.Looks, m.d.Marks, need, hour)
}

func (m *model) driver(name string) int {
	return slices.IndexFunc(m.d.Drivers, func(x api.Driver) bool { return x.Name == name })
}

func (m *model) places() int {
	n := 0
	for _, reach := range m.r.Survey.Reaches {
		n += reach.Long
	}
	return n
}

func (m *model) trucks() []api.Truck {
	var l []api.Truck
	for _, x := range m.d.Trucks {
		l = append(l, x.Truck)
	}
	return l
}

func (m *model) convoy(trucks ...api.Truck) api.Convoy {
	return api.Convoy{Length: 100 * m.places(), Gap: m.r.Gap, Fails: m.r.Fails, Trucks: trucks}
}

// arrival is when a truck is off that goes as fast, and as slowly, as it may: it needs so many minutes for the whole road, the last one perhaps not quite.
func (m *model) arrival(x api.Truck) api.Span {
	minutes := func(pace int) int { return (100*m.places() + pace - 1) / pace }
	return span(x.Start+minutes(x.Pace.Hi), x.Start+minutes(x.Pace.Lo))
}

// Regions and sheets of all kinds.

// some returns a span within bounds that has at most so many numbers more than one.
func some(r *rand.Rand, low, high, wide int) api.Span {
	a := low + r.Intn(high-low+1)
	return span(a, min(high, a+r.Intn(wide+1)))
}

// someRegion is a valid region with a road of a few places.
func someRegion(r *rand.Rand) api.Region {
	g := api.Region{Plate: plate(), Pace: some(r, 10, 120, 30), Fails: r.Intn(3)}
	if r.Intn(2) == 0 {
		g.Pace = some(r, 3, 9, 1)
	}
	for range 1 + r.Intn(3) {
		g.Survey.Reaches = append(g.Survey.Reaches, api.Reach{Long: 1 + r.Intn(6), Slope: r.Intn(60), Thin: r.Intn(20), Grow: r.Intn(20), Every: r.Intn(30)})
	}
	for i := range g.Survey.Sight {
		g.Survey.Sight[i] = r.Intn(5)
	}
	g.Plate.Strength = some(r, 20000, 80000, 5000)
	g.Plate.Shares[1].From, g.Plate.Shares[2].From = 5+r.Intn(30), 40+r.Intn(100)
	g.Gap = 2*g.Pace.Hi + r.Intn(2)*r.Intn(80)
	g.Book, g.Rescue = someBook(r), someRescue(r)
	g.Rules = api.Rules{Drive: 60 + r.Intn(600), Rest: 1 + r.Intn(60), Day: 1 + r.Intn(1440), Most: 60 + r.Intn(900)}
	for _, name := range []string{"ann", "bob", "cat", "dan"}[:1+max(r.Intn(4), r.Intn(4))] {
		g.Drivers = append(g.Drivers, api.Driver{Name: name, Skills: r.Intn(256)})
	}
	g.Scale = api.Scale{Zero: r.Intn(40), Part: r.Intn(20000)}
	g.Allow = api.Allow{Axle: 4000 + r.Intn(20000), Total: 6000 + r.Intn(30000)}
	return g
}

// someBook is a valid book of which less may be moved than there is.
func someBook(r *rand.Rand) api.Book {
	var b api.Book
	for _, name := range []string{"rack", "camp", "pit"}[:1+r.Intn(3)] {
		b.Accounts = append(b.Accounts, api.Account{Name: name, Kind: 1 + r.Intn(2), Open: some(r, 0, 400, 50), Close: some(r, 0, 300, 600)})
	}
	if fuel.Check(b) != api.OK {
		return someBook(r)
	}
	return b
}

// someRescue is a valid rescue with a few spots and posts.
func someRescue(r *rand.Rand) api.Rescue {
	s := api.Rescue{Spots: 1 + r.Intn(3), Chills: []api.Chill{{Warm: -400, Minutes: some(r, 5, 20, 10)}}}
	for spot := range s.Spots {
		s.Water = append(s.Water, some(r, -10, 50, 20))
		if spot > 0 {
			s.Paths = append(s.Paths, api.Path{A: r.Intn(spot), B: spot, Time: some(r, 1, 15, 5), Open: 1 + r.Intn(3)})
		}
	}
	for range 1 + r.Intn(3) {
		s.Posts = append(s.Posts, api.Post{Spot: r.Intn(s.Spots), Ready: some(r, 1, 10, 5), From: r.Intn(1440), To: r.Intn(1440)})
	}
	return s
}

// someLine is a line for a model; most often one that has no error.
func someLine(r *rand.Rand, m model) string {
	places := m.places()
	from := r.Intn(places)
	to := from + r.Intn(places-from)
	switch r.Intn(24) {
	case 0, 1:
		return fmt.Sprint("wait ", r.Intn(20))
	case 2:
		if r.Intn(4) > 0 {
			return "wait 5"
		}
		return fmt.Sprint("wait ", r.Intn(150))
	case 3, 4, 5, 6:
		known, e := probe.Known(m.r.Survey, m.d.Looks, from, m.d.Minute/60)
		if e != api.OK {
			panic(e)
		}
		low := known.Lo + r.Intn(known.Hi-known.Lo+1)
		if known.Lo < 350 && 700 < known.Hi && r.Intn(4) > 0 {
			low = 350 + r.Intn(350)
		}
		high := low + r.Intn(30)
		switch r.Intn(30) {
		case 0:
			low, high = high+1, low
		case 1:
			low, high = high+300, high+400
		case 2:
			from = places
		}
		return fmt.Sprintf("%s %d %d %d", []string{"core", "auger", "radar"}[r.Intn(3)], from, low, high)
	case 7:
		return fmt.Sprintf("%s %d %d %d", []string{"crack", "ridge", "seep"}[r.Intn(3)], from, to-r.Intn(4)/3, r.Intn(3))
	case 8:
		return fmt.Sprintf("mend %d %d", r.Intn(9)/8, places-1-r.Intn(2)*r.Intn(places))
	case 9, 10:
		return fmt.Sprintf("shut %d", r.Intn(9000))
	case 11:
		return fmt.Sprintf("lasts %d %d", from, r.Intn(6000))
	case 12:
		return fmt.Sprintf("storm %d", r.Intn(10))
	case 13:
		low := m.d.Minute + r.Intn(40)
		return fmt.Sprintf("breakup %d %d", low, low-1+r.Intn(20))
	case 14:
		return fmt.Sprintf("next %s %d", someName(r, m), r.Intn(100))
	case 15:
		accounts := len(m.r.Book.Accounts)
		return fmt.Sprintf("move %d %d %d %d", r.Intn(accounts+4)%(accounts+1), r.Intn(accounts), r.Intn(50), 20+r.Intn(90))
	case 16:
		return "fuel"
	case 17:
		return fmt.Sprintf("reach %d", r.Intn(m.r.Rescue.Spots+1))
	case 18:
		return []string{"", "fuel ", "go", "go up ann", "wait 01", "next  5", "Shut 5", "mend 0 0 0"}[r.Intn(8)]
	}
	text := "go " + someWay(r, m) + " " + someName(r, m)
	heavy := 2400
	if r.Intn(4) == 0 {
		heavy = 8000
	}
	for range 1 + r.Intn(3) {
		text += fmt.Sprint(" ", r.Intn(heavy))
	}
	return text
}

// someWay is most often the way of the last truck.
func someWay(r *rand.Rand, m model) string {
	if n := len(m.d.Trucks); n > 0 && r.Intn(4) > 0 {
		return []string{"", "up", "down"}[m.d.Trucks[n-1].Truck.Way]
	}
	return []string{"up", "down"}[r.Intn(2)]
}

// someName is most often the name of a driver.
func someName(r *rand.Rand, m model) string {
	if r.Intn(20) == 0 {
		return "eve"
	}
	return m.r.Drivers[r.Intn(len(m.r.Drivers))].Name
}

// busyLine is a line of a day on which there are no marks, and many trucks want to go; they often weigh as much as the ice bears.
func busyLine(r *rand.Rand, m model) string {
	for {
		text := someLine(r, m)
		switch verb, _, _ := strings.Cut(text, " "); verb {
		case "go":
			if r.Intn(4) > 0 {
				text = fmt.Sprintf("go %s %s %d", someWay(r, m), someName(r, m), heaviest(m, 1+r.Intn(3))-r.Intn(2)*r.Intn(500))
			}
			// Who may go later waits until then.
			reply, _ := m.line(text)
			if minute, ok := strings.CutPrefix(reply, "later "); ok && r.Intn(4) > 0 {
				n, _ := strconv.Atoi(minute)
				return fmt.Sprint("wait ", n-m.d.Minute)
			}
			return text
		case "wait", "core", "auger", "radar":
			return text
		}
	}
}

// heaviest is the reading of the heaviest truck of one axle of which the ice bears so many in a row with those on their way; 1,000 if it bears none.
func heaviest(m model, many int) int {
	fits := func(reading int) bool {
		w, e := crew.Weigh(m.r.Scale, reading)
		if e != api.OK {
			panic(e)
		}
		x := api.Rolling{Weight: w.Hi, Truck: api.Truck{Start: m.d.Minute, Pace: m.r.Pace}}
		gap := m.rowGap(slices.Concat(m.d.Trucks, slices.Repeat([]api.Rolling{x}, many)))
		return 0 <= gap && gap <= m.r.Gap
	}
	return max(1000, sort.Search(50000, func(reading int) bool { return !fits(reading) })-1)
}

// someDay is a region with a sheet, and the models before and after each line.
func someDay(r *rand.Rand, lines int, line func(r *rand.Rand, m model) string) (list []string, models []model) {
	g := someRegion(r)
	now := begun(g)
	models = append(models, now)
	add := func(text string) {
		_, now = now.line(text)
		list, models = append(list, text), append(models, now)
	}
	// Most often the ice is seen first, at each place.
	if r.Intn(8) > 0 {
		thick := 350 + r.Intn(350)
		for place := range now.places() {
			add(fmt.Sprintf("radar %d %d %d", place, thick, thick+20))
		}
	}
	for len(list) < lines {
		add(line(r, now))
	}
	return list, models
}
