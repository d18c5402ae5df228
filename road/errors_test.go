package road_test

import (
	"math"
	"slices"
	"strings"
	"testing"

	"sastrugi/api"
	"sastrugi/road"
)

// fault is a change that makes a region invalid.
type fault struct {
	name   string
	change func(r *api.Region)
	want   api.Errno
}

// gives checks that all functions return the error of a region, before any of the sheet.
func gives(t *testing.T, name string, r api.Region, want api.Errno) {
	t.Helper()
	if e := road.Check(r); e != want {
		t.Errorf("%s: Check = %v, want %v", name, e, want)
	}
	for _, c := range []struct {
		sheet string
		e     api.Errno
	}{{"", api.OK}, {"x", api.ErrForm}} {
		if want != api.OK {
			c.e = want
		}
		out, a := road.Run(r, c.sheet)
		d, b := road.Keep(r, c.sheet)
		text, f := road.Report(r, c.sheet, 0)
		if a != c.e || b != c.e || f != c.e {
			t.Errorf("%s: Run, Keep and Report of %q = %v, %v, %v, want %v", name, c.sheet, a, b, f, c.e)
		}
		if c.e != api.OK && (out != "" || text != "" || shown(d) != shown(api.Desk{})) {
			t.Errorf("%s: there is something beside the error", name)
		}
	}
}

// P10.1: regions that are valid, and those that are not.
func TestRegionErrors(t *testing.T) {
	for _, c := range []fault{
		{"as it is", func(r *api.Region) {}, api.OK},
		{"nothing", func(r *api.Region) { *r = api.Region{} }, api.ErrShort},
		{"no reaches", func(r *api.Region) { r.Survey.Reaches = nil }, api.ErrShort},
		{"too many reaches", func(r *api.Region) { r.Survey.Reaches = make([]api.Reach, 21) }, api.ErrFull},
		{"a reach of no places", func(r *api.Region) { r.Survey.Reaches[0].Long = 0 }, api.ErrRange},
		{"a reach of any length", func(r *api.Region) { r.Survey.Reaches[0].Long = math.MaxInt }, api.ErrRange},
		{"too many places", func(r *api.Region) { r.Survey.Reaches = slices.Repeat([]api.Reach{{Long: 1000}}, 2) }, api.ErrFull},
		{"an eye that sees too far", func(r *api.Region) { r.Survey.Sight[2] = 51 }, api.ErrRange},
		{"no strength", func(r *api.Region) { r.Plate.Strength = span(0, 1) }, api.ErrRange},
		{"no shares", func(r *api.Region) { r.Plate.Shares = nil }, api.ErrShort},
		{"no gravity", func(r *api.Region) { r.Plate.Gravity = 0 }, api.ErrRange},
		{"no gap", func(r *api.Region) { r.Gap = 0 }, api.ErrRange},
		{"the greatest gap", func(r *api.Region) { r.Gap = 100000 }, api.OK},
		{"too great a gap", func(r *api.Region) { r.Gap = 100001 }, api.ErrRange},
		{"fewer than no failures", func(r *api.Region) { r.Fails = -1 }, api.ErrRange},
		{"the most failures", func(r *api.Region) { r.Fails = 20 }, api.OK},
		{"too many failures", func(r *api.Region) { r.Fails = 21 }, api.ErrRange},
		{"no pace", func(r *api.Region) { r.Pace = one(0) }, api.ErrRange},
		{"too fast", func(r *api.Region) { r.Pace = span(1, 1001) }, api.ErrRange},
		{"a turned pace", func(r *api.Region) { r.Pace = span(2, 1) }, api.ErrOrder},
		{"a turned pace, before the gap", func(r *api.Region) { r.Pace, r.Gap = span(2, 1), 1 }, api.ErrOrder},
		{"the least gap for the pace", func(r *api.Region) { r.Pace = span(50, 100) }, api.OK},
		{"too small a gap for the pace", func(r *api.Region) { r.Pace = span(50, 101) }, api.ErrClash},
		{"the longest road for the pace", func(r *api.Region) { r.Survey.Reaches[0].Long, r.Pace = 100, one(10) }, api.OK},
		{"too long a road for the pace", func(r *api.Region) { r.Survey.Reaches[0].Long, r.Pace = 101, span(10, 11) }, api.ErrLate},
		{"too long a road of several reaches for the pace", func(r *api.Region) {
			r.Survey.Reaches, r.Pace = append(r.Survey.Reaches, api.Reach{Long: 98}), one(10)
		}, api.ErrLate},
		{"the longest road of all", func(r *api.Region) { r.Survey.Reaches[0].Long = 1000 }, api.OK},
		{"no accounts", func(r *api.Region) { r.Book.Accounts = nil }, api.ErrShort},
		{"a move of no account", func(r *api.Region) { r.Book.Moves = []api.Move{{To: 2}} }, api.ErrMissing},
		{"a book without a truth", func(r *api.Region) { r.Book.Accounts[1].Close = span(1, 5) }, api.ErrClash},
		{"no spots", func(r *api.Region) { r.Rescue.Spots = 0 }, api.ErrRange},
		{"no chills", func(r *api.Region) { r.Rescue.Chills = nil }, api.ErrShort},
		{"no posts", func(r *api.Region) { r.Rescue.Posts = nil }, api.OK},
		{"rules without a day", func(r *api.Region) { r.Rules.Day = 0 }, api.ErrRange},
		{"no drivers", func(r *api.Region) { r.Drivers = nil }, api.ErrShort},
		{"an empty list of drivers", func(r *api.Region) { r.Drivers = []api.Driver{} }, api.ErrShort},
		{"one driver", func(r *api.Region) { r.Drivers = r.Drivers[:1] }, api.OK},
		{"four drivers", func(r *api.Region) { r.Drivers = []api.Driver{{Name: "a"}, {Name: "b"}, {Name: "c"}, {Name: "d"}} }, api.OK},
		{"five drivers", func(r *api.Region) { r.Drivers = make([]api.Driver, 5) }, api.ErrFull},
		{"a great letter", func(r *api.Region) { r.Drivers[1].Name = "Bob" }, api.ErrForm},
		{"too many skills", func(r *api.Region) { r.Drivers[1].Skills = 256 }, api.ErrRange},
		{"a name twice", func(r *api.Region) { r.Drivers[1].Name = "ann" }, api.ErrExists},
		{"a name twice, with one between", func(r *api.Region) { r.Drivers = append(r.Drivers, api.Driver{Name: "ann"}) }, api.ErrExists},
		{"a turn", func(r *api.Region) { r.Drivers[1].Turns = []api.Turn{{}} }, api.ErrForm},
		{"an empty list of turns", func(r *api.Region) { r.Drivers[1].Turns = []api.Turn{} }, api.OK},
		{"a turn that is not valid", func(r *api.Region) { r.Drivers[1].Turns = []api.Turn{{From: one(-1)}} }, api.ErrRange},
		{"a turn, before a name twice", func(r *api.Region) {
			r.Drivers[1] = api.Driver{Name: "ann", Turns: []api.Turn{{}}}
		}, api.ErrForm},
		{"skills, before a turn", func(r *api.Region) {
			r.Drivers[1] = api.Driver{Name: "ann", Skills: -1, Turns: []api.Turn{{}}}
		}, api.ErrRange},
		{"a name twice, before a turn of the next one", func(r *api.Region) {
			r.Drivers = []api.Driver{{Name: "a"}, {Name: "a"}, {Name: "b", Turns: []api.Turn{{}}}}
		}, api.ErrExists},
		{"the zero is off the most", func(r *api.Region) { r.Scale.Zero = 1000 }, api.OK},
		{"the zero is off too far", func(r *api.Region) { r.Scale.Zero = 1001 }, api.ErrRange},
		{"a scale that is off by less than nothing", func(r *api.Region) { r.Scale.Part = -1 }, api.ErrRange},
		{"nothing is allowed", func(r *api.Region) { r.Allow = api.Allow{} }, api.OK},
		{"the most is allowed", func(r *api.Region) { r.Allow = api.Allow{Axle: 1000000, Total: 1000000} }, api.OK},
		{"too much is allowed", func(r *api.Region) { r.Allow.Total = 1000001 }, api.ErrRange},
		{"less than nothing is allowed", func(r *api.Region) { r.Allow.Axle = -1 }, api.ErrRange},
	} {
		gives(t, c.name, changed(c.change), c.want)
	}
}

// P10.1: of several errors of a region the first one is returned.
func TestFirstRegionError(t *testing.T) {
	faults := []fault{
		{"the survey", func(r *api.Region) { r.Survey.Reaches = nil }, api.ErrShort},
		{"the plate", func(r *api.Region) { r.Plate.Strength = span(2, 1) }, api.ErrOrder},
		{"the convoy", func(r *api.Region) { r.Gap = 199 }, api.ErrClash},
		{"the book", func(r *api.Region) { r.Book.Moves = []api.Move{{To: 2}} }, api.ErrMissing},
		{"the rescue", func(r *api.Region) { r.Rescue.Chills = nil }, api.ErrShort},
		{"the rules", func(r *api.Region) { r.Rules.Most = 0 }, api.ErrRange},
		{"the drivers", func(r *api.Region) { r.Drivers[1].Name = "ann" }, api.ErrExists},
		{"the scale", func(r *api.Region) { r.Scale.Zero = -1 }, api.ErrRange},
	}
	for i, first := range faults {
		for _, second := range faults[i:] {
			r := changed(first.change)
			second.change(&r)
			gives(t, first.name+" and "+second.name, r, first.want)
		}
	}
}

// P10.1 and P10.2: errors of sheets, in their order, and the greatest sheets.
func TestSheetErrors(t *testing.T) {
	for _, c := range []struct {
		name, sheet string
		want        api.Errno
	}{
		{"nothing", "", api.OK},
		{"an empty line", "\n", api.OK},
		{"no line feed", "fuel", api.ErrForm},
		{"none behind the last line", "fuel\nfuel", api.ErrForm},
		{"another one", "fuel\r", api.ErrForm},
		{"as many lines as may be", strings.Repeat("fuel\n", 100), api.OK},
		{"one more", strings.Repeat("fuel\n", 101), api.ErrFull},
		{"as many empty lines as may be", strings.Repeat("\n", 100), api.OK},
		{"one more empty line", strings.Repeat("\n", 101), api.ErrFull},
		{"too many lines, and something behind them", strings.Repeat("\n", 101) + "x", api.ErrForm},
		{"as many bytes as may be", strings.Repeat("x", 9999) + "\n", api.OK},
		{"one more", strings.Repeat("x", 10000) + "\n", api.ErrLong},
		{"too many bytes without a line feed", strings.Repeat("x", 10001), api.ErrLong},
		{"as many bytes as may be without a line feed", strings.Repeat("x", 10000), api.ErrForm},
		{"too many bytes and lines", strings.Repeat("\n", 10001), api.ErrLong},
		{"as many bytes as may be, in too many lines", strings.Repeat("\n", 10000), api.ErrFull},
	} {
		out, a := road.Run(region(), c.sheet)
		d, b := road.Keep(region(), c.sheet)
		text, f := road.Report(region(), c.sheet, 0)
		if a != c.want || b != c.want || f != c.want {
			t.Errorf("%s: %v, %v, %v, want %v", c.name, a, b, f, c.want)
		}
		if c.want == api.OK && strings.Count(out, "\n") != strings.Count(c.sheet, "\n") || c.want != api.OK && (out != "" || text != "" || shown(d) != shown(api.Desk{})) {
			t.Errorf("%s: %q, %q, %v", c.name, out, text, d)
		}
	}
}

// P10.2: the errors of a report, behind those of the region and of the sheet; in it, a weight for which places cannot be shut is one too.
func TestReportErrors(t *testing.T) {
	weak := changed(func(r *api.Region) { r.Plate.Strength = one(1) })
	for i, c := range []struct {
		r      api.Region
		sheet  string
		weight int
		want   api.Errno
	}{
		{region(), "", 0, api.OK}, {region(), "", 200000, api.OK}, {region(), "", 200001, api.ErrRange}, {region(), "", -1, api.ErrRange},
		{region(), "", math.MaxInt, api.ErrRange}, {region(), "", math.MinInt, api.ErrRange},
		{region(), "x", -1, api.ErrForm}, {region(), strings.Repeat("\n", 101), -1, api.ErrFull}, {api.Region{}, "x", -1, api.ErrShort},
		{weak, "", 9, api.OK}, {weak, "", 10, api.ErrRange}, {weak, "", 25, api.ErrRange}, {weak, "", 26, api.ErrOver},
	} {
		text, e := road.Report(c.r, c.sheet, c.weight)
		if e != c.want || (e == api.OK) != (text != "") {
			t.Errorf("%d: %q, %v, want %v", i, text, e, c.want)
		}
	}
}

// P10.1: lines that are not as said, and some that just are.
func TestLinesThatAreNotAsSaid(t *testing.T) {
	for _, line := range []string{
		"", " ", "  ", "sing", "error 3", "ok", "Fuel", "fuel ", " fuel", "fuel 1", "fuel\r", "fuel\t", "fue", "fuell",
		"wait", "wait ", "wait  1", "wait 1 ", "wait 1 2", "wait 01", "wait 00", "wait -1", "wait +1", "wait x", "wait 1x", "wait 1.", "wait 0x1", "wait 1_0", "wait 1234567890", "wait 0000000001", "wait ٣", "wait\t1", "wait\x001",
		"core", "core 0 1", "core 0 1 2 3", "core 0 1 x", "auger 0  1 2", "radar 0 1 -2", "Radar 0 1 2",
		"crack 0 1", "crack 0 1 2 3", "ridge 0 1", "seep 0 1 a", "mend", "mend 0", "mend 0 0 0", "mend 0 x",
		"shut", "shut 1 2", "shut x", "lasts", "lasts 1", "lasts 1 2 3",
		"go", "go up", "go down", "go up ann", "go up ann ", "go up  5", "go up ann 5 x", "go up ann x 5", "go up ann 5 ", "go up ann  5", "go up ann 05", "go up ann 1234567890", "go left ann 5", "go  ann 5", "go Up ann 5", "go ann 5", "go ann up 5", "go up ann bob 5",
		"next", "next ann", "next  5", "next ann 5 6", "next ann x", "next 5", "next ann -5", "next ann ",
		"move", "move 0 1 2", "move 0 1 2 3 4", "move rack camp 1 2", "reach", "reach 0 0", "reach x", "storm", "storm 1 1", "breakup 5", "breakup 5 6 7", "breakup", "\xff", "w\xffit 1",
	} {
		if got := replies(t, region(), line)[0]; got != "error 3" {
			t.Errorf("%q: the reply is %q", line, got)
		}
		if d := desk(t, region(), line); shown(d) != shown(desk(t, region())) {
			t.Errorf("%q changes the desk to %v", line, d)
		}
	}
	// Any word is a name, and numbers have up to nine digits.
	for _, name := range []string{"cat", "5", "-", "\xff", "é", "ann\r", "\t", "Ann", "up", "an", "annn", strings.Repeat("x", 4000)} {
		dialogue(t, region(), "go up "+name+" 5", "error 7", "next "+name+" 5", "error 7")
	}
	dialogue(t, region(), "go up ann 999999999", "error 2", "wait 999999999", "error 2", "next ann 999999999", "error 2", "reach 999999999", "error 7", "shut 999999999", "error 2", "lasts 999999999 0", "error 7", "core 999999999 0 0", "error 7", "storm 999999999", "error 2", "breakup 0 999999999", "error 2", "move 0 999999999 0 0", "error 7", "mend 0 999999999", "error 7")
}

// P10.1: of several errors of a truck that wants to go the first one is told; and shut, or later, only if there is none.
func TestFirstErrorOfATruck(t *testing.T) {
	many := func(n int) string { return strings.Repeat(" 1", n) }
	// Without a look all is shut.
	dialogue(t, region(),
		"go up cat 5 x", "error 3",
		"go up cat 100001", "error 7", "go up cat"+many(13), "error 7",
		"go up ann"+many(12), "shut 0 2 thin", "go up ann"+many(13), "error 8", "go up ann 100001"+many(12), "error 8", "go up ann 100000", "error 14", "go up ann 100001", "error 2", "go up ann 5000 100001", "error 2",
	)
	// Who is too heavy, of which there is an error of the need too.
	heavy := " 66667 66667 66667"
	total := exact(func(r *api.Region) { r.Allow.Total = 200000 })
	dialogue(t, total, "go up ann"+heavy, "error 14", "go up ann 66666 66667 66667", "shut 0 2 thin")
	dialogue(t, exact(func(r *api.Region) {}), "go up ann"+heavy, "error 2")
	// The need, and that the ice cannot be so thick, before the driver's turns and hours.
	weak := exact(func(r *api.Region) { r.Plate.Strength, r.Survey.Reaches[0].Slope = one(1), 0 })
	dialogue(t, weak, "radar 1 3000 3000", "ok", "go up ann 5", "go 1", "go up ann 5", "error 12", "go up ann 10", "error 14", "go up ann"+heavy, "error 2")
	weak.Rules.Drive = 2
	dialogue(t, weak, "go up ann 5", "error 13", "go up ann 10", "error 14", "go up ann 9", "error 13")
	// The driver's turns, before their hours; both before what is shut.
	short := changed(func(r *api.Region) { r.Rules.Drive = 2 })
	dialogue(t, short, "go up ann 1000", "error 13", "wait 2998", "ok", "go up ann 1000", "error 2")
	dialogue(t, region(), "radar 1 400 420", "ok", "go up ann 1000", "go 1", "crack 0 2 0", "ok", "go up ann 1000", "error 12", "go up bob 1000", "shut 0 2 mark")
	tired := changed(func(r *api.Region) { r.Rules.Drive = 3 })
	dialogue(t, tired, "radar 1 400 420", "ok", "go up ann 1000", "go 1", "wait 2", "ok", "go up ann 1000", "error 12", "wait 1", "ok", "go up ann 1000", "error 13")
	// What is shut before the row, and the row before who has to wait.
	near := exact(func(r *api.Region) { r.Gap, r.Pace = 40, one(20) })
	dialogue(t, near, "radar 1 400 420", "ok", "go up ann 4800", "go 1", "go up bob 4800", "error 14", "go down bob 4800", "error 14", "seep 1 1 0", "ok", "go up bob 4800", "shut 1 1 mark", "mend 1 1", "ok", "go up bob 4800", "error 14", "go up bob 1", "error 14")
	light := exact(func(r *api.Region) { r.Gap, r.Pace = 2, one(1) })
	dialogue(t, light, "radar 1 400 420", "ok", "go up ann 2900", "go 1", "go down bob 3000", "error 14", "go up bob 3000", "error 14", "go down bob 2900", "error 10", "go up bob 2900", "later 2")
}

// P10.1: a line with an error changes nothing.
func TestErrorsChangeNothing(t *testing.T) {
	r := exact(func(r *api.Region) { r.Gap, r.Pace = 40, one(20) })
	before := []string{"core 0 400 420", "radar 1 400 420", "go up ann 4000", "mend 0 0", "move 0 1 5 6", "wait 1"}
	want := shown(desk(t, r, before...))
	for line, reply := range map[string]string{
		"wait 3000": "error 2", "core 3 1 1": "error 7", "auger 1 5 4": "error 11", "radar 1 5 5": "error 12", "crack 2 1 0": "error 11", "ridge 0 3 0": "error 7", "seep 0 0 101": "error 2", "mend 2 1": "error 11",
		"go up ann 1": "error 12", "go up cat 1": "error 7", "go up bob 4100": "error 14", "move 0 1 2 1": "error 11", "move 0 0 1 1": "error 3", "move 0 1 101 101": "error 12", "storm 3000": "error 2", "sing": "error 3",
	} {
		if got := replies(t, r, append(before, line)...); got[len(before)] != reply {
			t.Errorf("%s: the reply is %s, want %s", line, got[len(before)], reply)
		}
		if d := desk(t, r, append(before, line)...); shown(d) != want {
			t.Errorf("%s: the desk is %v, want %s", line, d, want)
		}
	}
}
