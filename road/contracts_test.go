package road_test

import (
	"fmt"
	"slices"
	"testing"

	"sastrugi/api"
	"sastrugi/road"
)

// P10.1: the lines of the chapter's examples, one after the other.
func TestExamples(t *testing.T) {
	dialogue(t, region(),
		"shut 2000", "shut 0 2 thin",
		"radar 1 400 420", "ok",
		"shut 2000", "open",
		"shut 6000", "open",
		"shut 6200", "shut 0 0 thin 2 2 thin",
		"lasts 1 2000", "lasts 24",
		"go up ann 1000 1000", "go 1",
		"go up ann 1000", "error 12",
		"go up cat 1000", "error 7",
		"go up bob 6000", "error 14",
		"go down bob 1000", "later 3",
		"wait 3", "ok",
		"go down bob 1000", "go 1",
		"storm 2", "caught sure",
		"breakup 6 9", "open",
		"breakup 7 9", "sure",
		"next ann 58", "next 33",
		"next ann 57", "next 3",
		"move 0 1 50 60", "ok",
		"fuel", "lost 0 100 rack open camp open",
		"reach 0", "sure",
		"reach 1", "error 7",
		"reach", "error 3",
		"crack 2 2 1", "ok",
		"shut 2000", "shut 2 2 mark",
	)
}

// P10.1: the clock, and trucks that are taken out when they surely have arrived, not when they may have.
func TestWait(t *testing.T) {
	dialogue(t, region(), "wait 3001", "error 2", "wait 999999999", "error 2", "wait 2999", "ok", "wait 2", "error 2", "wait 1", "ok", "wait 1", "error 2", "wait 0", "ok")
	slow := changed(func(r *api.Region) { r.Pace = span(70, 100) }) // 3 to 5 minutes
	dialogue(t, slow, "radar 1 400 420", "ok", "go up ann 1000", "go 1", "wait 2", "ok", "storm 0", "caught sure", "wait 1", "ok", "storm 0", "caught open", "wait 1", "ok", "storm 0", "caught open", "wait 1", "ok", "storm 0", "caught")
	lines := []string{"radar 1 400 420", "wait 7", "go up ann 1000", "wait 4"}
	if d := desk(t, slow, lines...); d.Minute != 11 || len(d.Trucks) != 1 {
		t.Error(d)
	}
	if d := desk(t, slow, append(lines, "wait 1")...); d.Minute != 12 || len(d.Trucks) != 0 || len(d.Drivers[0].Turns) != 1 {
		t.Error(d)
	}
	// Of several trucks only those are taken out that have arrived.
	lines = []string{"radar 1 400 420", "go up ann 1000", "wait 2", "go up bob 1000", "wait 1"}
	if d := desk(t, region(), lines...); len(d.Trucks) != 1 || d.Trucks[0].Driver != 1 {
		t.Error(d)
	}
}

// P10.1: looks and marks of each kind are written down with the hour.
func TestLooksAndMarks(t *testing.T) {
	d := desk(t, region(), "core 0 400 410", "wait 59", "auger 1 405 407", "wait 1", "radar 2 300 500", "wait 2940", "core 2 0 3000")
	if want := []api.Look{{Kind: api.LookCore, Value: span(400, 410)}, {Kind: api.LookAuger, At: 1, Value: span(405, 407)}, {Kind: api.LookRadar, At: 2, Hour: 1, Value: span(300, 500)}, {Kind: api.LookCore, At: 2, Hour: 50, Value: span(0, 3000)}}; !slices.Equal(d.Looks, want) {
		t.Error(d.Looks)
	}
	d = desk(t, region(), "crack 0 1 100", "wait 119", "ridge 1 1 2", "seep 2 2 0", "mend 1 2", "wait 1", "crack 0 0 3")
	if want := []api.Mark{{Kind: api.MarkCrack, To: 1, Speed: 100}, {Kind: api.MarkRidge, From: 1, To: 1, Hour: 1, Speed: 2}, {Kind: api.MarkSeep, From: 2, To: 2, Hour: 1}, {Kind: api.MarkMend, From: 1, To: 2, Hour: 1}, {Kind: api.MarkCrack, Hour: 2, Speed: 3}}; !slices.Equal(d.Marks, want) {
		t.Error(d.Marks)
	}
	dialogue(t, region(),
		"core 3 0 1", "error 7", "core 0 0 3001", "error 2", "core 0 5 4", "error 11", "core 0 3002 3001", "error 2",
		"core 0 500 500", "ok", "core 1 511 511", "error 12", "auger 1 510 510", "ok", "radar 2 500 500", "ok", "radar 2 500 500", "ok", "radar 2 501 501", "error 12",
		"wait 60", "ok", "core 2 502 502", "error 12", "core 2 501 501", "ok",
		"crack 0 3 0", "error 7", "crack 3 0 0", "error 7", "crack 1 0 0", "error 11", "ridge 0 0 101", "error 2", "seep 0 0 100", "ok", "mend 0 3", "error 7", "mend 2 1", "error 11", "mend 0 2", "ok",
	)
}

// P10.1: what is shut, and why, for a weight and an hour; each reason, and several parts.
func TestShut(t *testing.T) {
	dialogue(t, region(),
		"shut 0", "shut 0 2 stale", "shut 1", "shut 0 2 thin", "shut 200001", "error 2",
		"core 1 400 400", "ok", "shut 0", "shut 0 0 stale 2 2 stale", "shut 6400", "shut 0 0 thin 2 2 thin", "shut 6401", "shut 0 2 thin", "shut 6084", "shut 0 0 stale 2 2 stale", "shut 6085", "shut 0 0 thin 2 2 thin",
		"seep 1 1 1", "ok", "shut 0", "shut 0 0 stale 1 1 mark 2 2 stale", "core 2 390 390", "ok", "shut 6084", "shut 0 0 stale 1 1 mark",
		"wait 60", "ok", "shut 0", "shut 0 2 mark", "mend 1 2", "ok", "shut 0", "shut 0 0 mark", "mend 0 0", "ok", "shut 0", "shut 0 0 stale",
		"wait 1439", "ok", "shut 0", "shut 0 0 stale", "wait 1", "ok", "shut 0", "shut 0 2 stale",
	)
	// Of what was mended in this hour, a mark that stands behind the mend covers it.
	dialogue(t, region(), "radar 1 400 400", "ok", "mend 0 2", "ok", "crack 0 2 0", "ok", "shut 0", "shut 0 2 mark", "mend 1 1", "ok", "shut 0", "shut 0 0 mark 2 2 mark")
	// 9 kilograms need 3,000 mm of the weakest ice, 10 need more than a place can be shut for, and 26 more than any ice.
	weak := changed(func(r *api.Region) { r.Plate.Strength = one(1) })
	dialogue(t, weak, "shut 9", "shut 0 2 thin", "shut 10", "error 2", "shut 25", "error 2", "shut 26", "error 14", "shut 200000", "error 14", "shut 200001", "error 2")
}

// P10.1: up to which hour a place stays open.
func TestLasts(t *testing.T) {
	dialogue(t, region(),
		"lasts 0 0", "shut", "lasts 3 0", "error 7", "lasts 3 200001", "error 2",
		"wait 120", "ok", "radar 1 400 420", "ok", "lasts 0 0", "lasts 26", "lasts 1 6400", "lasts 2", "lasts 1 6300", "lasts 5", "lasts 0 6300", "shut", "lasts 0 6084", "lasts 2", "lasts 2 6085", "shut",
		"crack 2 2 1", "ok", "lasts 0 0", "lasts 3", "lasts 1 0", "lasts 2", "lasts 2 0", "shut", "lasts 3 0", "error 7",
	)
	long := changed(func(r *api.Region) { r.Survey.Reaches[0].Every, r.Survey.Reaches[0].Thin = 10000, 0 })
	dialogue(t, long, "radar 1 400 420", "ok", "lasts 0 2000", "lasts 10000")
	weak := changed(func(r *api.Region) { r.Plate.Strength = one(1) })
	dialogue(t, weak, "lasts 0 9", "shut", "lasts 0 10", "error 2", "lasts 3 10", "error 2", "lasts 3 26", "error 14")
}

// P10.1: a truck that goes, with what is written down of it and of its driver.
func TestGoes(t *testing.T) {
	r := changed(func(r *api.Region) { r.Pace = span(70, 100) })
	d := desk(t, r, "radar 1 400 420", "go up bob 1000 970", "wait 61", "go down ann 0")
	if want := []api.Rolling{{Driver: 0, Weight: 20, Truck: api.Truck{Way: api.WayDown, Start: 61, Pace: span(70, 100)}}}; fmt.Sprint(d.Trucks) != fmt.Sprint(want) {
		t.Error(d.Trucks)
	}
	if len(d.Drivers) != 2 || !slices.Equal(d.Drivers[0].Turns, []api.Turn{{From: one(61), To: span(64, 66)}}) || !slices.Equal(d.Drivers[1].Turns, []api.Turn{{From: one(0), To: span(3, 5)}}) {
		t.Error(d.Drivers)
	}
	// 1000 and 970 kilograms may truly be 1030 and 1000.
	d = desk(t, r, "radar 1 400 420", "go up bob 1000 970")
	if want := []api.Rolling{{Driver: 1, Weight: 2030, Truck: api.Truck{Way: api.WayUp, Pace: span(70, 100)}}}; fmt.Sprint(d.Trucks) != fmt.Sprint(want) {
		t.Error(d.Trucks)
	}
}

// P10.1: what is allowed, and of what the ice can never be thick enough.
func TestWeighed(t *testing.T) {
	allow := func(axle, total int) api.Region {
		return changed(func(r *api.Region) { r.Allow = api.Allow{Axle: axle, Total: total} })
	}
	dialogue(t, allow(1030, 2060), "radar 1 400 420", "ok", "go up ann 1000 1000", "go 1")
	dialogue(t, allow(1030, 2059), "radar 1 400 420", "ok", "go up ann 1000 1000", "error 14", "go up ann 1000", "go 1")
	dialogue(t, allow(1029, 2060), "radar 1 400 420", "ok", "go up ann 1000 1000", "error 14", "go up ann 1001", "error 14", "go up ann 1100", "error 14", "go up ann 999 999", "go 1")
	// Ice of 3,000 mm that bears 9 kilograms.
	weak := exact(func(r *api.Region) {
		r.Plate.Strength, r.Survey.Reaches[0].Slope, r.Survey.Reaches[0].Thin = one(1), 0, 0
	})
	dialogue(t, weak, "radar 1 3000 3000", "ok", "go up ann 10", "error 14", "go up ann 9", "go 1", "go up ann 9", "error 12", "go up ann 10", "error 14", "go up ann 25", "error 14", "go up ann 26", "error 14", "go up ann 66666 66667 66667", "error 14", "go up ann 66667 66667 66667", "error 2", "go up ann 100000", "error 14", "go up ann 100001", "error 2")
}

// P10.1: who is on the way, or has been for too long, may not go.
func TestDrivers(t *testing.T) {
	slow := changed(func(r *api.Region) { r.Pace = span(70, 100) }) // 3 to 5 minutes
	dialogue(t, slow, "radar 1 400 420", "ok", "go up ann 1000", "go 1", "wait 4", "ok", "go up ann 1000", "error 12", "wait 1", "ok", "go up ann 1000", "go 1")
	// 60 minutes of driving, of which 60 are allowed without a rest, and then a rest of 30.
	hour := changed(func(r *api.Region) { r.Pace, r.Gap = one(5), 10 })
	dialogue(t, hour, "radar 1 400 420", "ok", "go up ann 1000", "go 1", "wait 60", "ok", "go up ann 1000", "error 13", "next ann 60", "next 90", "next ann 1", "next 90", "wait 29", "ok", "go up ann 1000", "error 13", "wait 1", "ok", "go up ann 1000", "go 1")
	hour.Rules.Drive = 59
	dialogue(t, hour, "radar 1 400 420", "ok", "go up ann 1000", "error 13", "go up bob 1000", "error 13", "next ann 60", "error 7", "next ann 59", "next 0")
	// It is the latest arrival that counts.
	unsure := changed(func(r *api.Region) { r.Pace, r.Gap, r.Rules.Drive = span(5, 6), 12, 59 })
	dialogue(t, unsure, "radar 1 400 420", "ok", "go up ann 1000", "error 13")
	unsure.Rules.Drive = 60
	dialogue(t, unsure, "radar 1 400 420", "ok", "go up ann 1000", "go 1")
	// The last drive ends with the clock.
	dialogue(t, region(), "wait 2997", "ok", "radar 1 400 420", "ok", "wait 1", "ok", "go up ann 1000", "error 2", "next ann 3", "error 7", "next ann 2", "next 2998")
	dialogue(t, region(), "wait 2997", "ok", "radar 1 400 420", "ok", "go up ann 1000", "go 1", "go down bob 1000", "later 3000", "wait 3", "ok", "storm 0", "caught", "go down bob 1000", "error 2")
}

// P10.1: a driver has no more turns than there may be.
func TestTurns(t *testing.T) {
	r := exact(func(r *api.Region) { r.Survey.Reaches[0].Long = 1 })
	lines := []string{"radar 0 400 420"}
	for range 20 {
		lines = append(lines, "go up ann 1000", "wait 1")
	}
	got := replies(t, r, append(lines, "go up ann 1000", "next ann 1", "next ann 0", "go up bob 1000")...)
	if want := []string{"error 8", "error 8", "error 2", "go 1"}; !slices.Equal(got[len(lines):], want) || got[len(lines)-2] != "go 1" {
		t.Error(got)
	}
	if d := desk(t, r, lines...); len(d.Drivers[0].Turns) != 20 || d.Drivers[0].Turns[19] != (api.Turn{From: one(19), To: one(20)}) {
		t.Error(d.Drivers)
	}
}

// P10.1 and P10.9: the road has to be open in each hour of the way, and what is told are the closures of the first hour that has some.
func TestOpenUntilArrival(t *testing.T) {
	// 150 minutes. Ice of 400 mm, and 10 less at both ends, thins by 30 in an hour; 5,329 kilograms need 365.
	thaw := exact(func(r *api.Region) { r.Pace, r.Gap, r.Survey.Reaches[0].Thin = one(2), 4, 30 })
	dialogue(t, thaw, "radar 1 400 420", "ok", "shut 5329", "open", "go up ann 5329", "shut 0 0 thin 2 2 thin", "wait 60", "ok", "shut 5329", "shut 0 0 thin 2 2 thin", "wait 60", "ok", "shut 5329", "shut 0 2 thin")
	// It arrives in the minutes 59, 60 and 61, and the places are stale from 60 on.
	old := changed(func(r *api.Region) { r.Survey.Reaches[0].Every = 0 })
	dialogue(t, old, "radar 1 400 420", "ok", "wait 56", "ok", "go up ann 1000", "go 1")
	dialogue(t, old, "radar 1 400 420", "ok", "wait 57", "ok", "shut 1030", "open", "go up ann 1000", "shut 0 2 stale")
	dialogue(t, old, "radar 1 400 420", "ok", "wait 58", "ok", "go up ann 1000", "shut 0 2 stale")
	// What may be later than it surely is counts.
	old.Pace = span(70, 100)
	dialogue(t, old, "radar 1 400 420", "ok", "wait 54", "ok", "go up ann 1000", "go 1")
	dialogue(t, old, "radar 1 400 420", "ok", "wait 55", "ok", "go up ann 1000", "shut 0 2 stale")
	dialogue(t, region(), "radar 1 400 420", "ok", "ridge 1 1 0", "ok", "go up ann 1000", "shut 1 1 mark", "mend 1 1", "ok", "go up ann 1000", "go 1")
	// After a closure nothing is written down.
	if d := desk(t, old, "wait 5", "go up ann 1000"); len(d.Trucks) != 0 || len(d.Drivers[0].Turns) != 0 {
		t.Error(d)
	}
}

// P10.1 and P10.4: the ice has to bear all trucks in a row with the region's gap.
func TestRow(t *testing.T) {
	// Trucks count for half from 20 metres on, and not at all from 40 on: with a gap of 20, two of them count for one and a half, three and more for two.
	dense := exact(func(r *api.Region) {
		r.Gap, r.Pace, r.Plate.Shares[2].From, r.Survey.Reaches[0].Slope = 20, one(10), 40, 0
		r.Survey.Reaches[0].Thin = 0
		r.Drivers = append(r.Drivers, api.Driver{Name: "cat"}, api.Driver{Name: "dan"})
	})
	// 400 mm bear 6,400 kilograms.
	dialogue(t, dense, "core 0 400 400", "ok", "radar 1 400 400", "ok", "go up ann 4266", "go 1", "go down bob 4267", "error 14", "wait 2", "ok", "go up bob 4267", "error 14", "go up bob 4266", "go 2", "wait 2", "ok", "go up cat 3201", "error 14", "go up cat 1", "error 14")
	dialogue(t, dense, "radar 1 400 400", "ok", "go up ann 3200", "go 1", "wait 2", "ok", "go up bob 3200", "go 2", "wait 2", "ok", "go up cat 3201", "error 14", "go up cat 3200", "go 3", "wait 2", "ok", "go up dan 3201", "error 14", "go up dan 3200", "go 4")
	// With a gap of a metre less two trucks count for two.
	near := dense
	near.Gap, near.Pace = 19, one(9)
	dialogue(t, near, "radar 1 400 400", "ok", "go up ann 3200", "go 1", "wait 3", "ok", "go up bob 3201", "error 14", "go up bob 3200", "go 2")
	// A heavy truck that was on its way no longer counts when it has arrived.
	dialogue(t, dense, "radar 1 400 400", "ok", "go up ann 6400", "go 1", "wait 29", "ok", "go up bob 10", "error 14", "wait 1", "ok", "go up bob 4266", "go 1", "wait 5", "ok", "go up ann 4266", "go 2")
	// The ice counts that there is when the last one arrives: it thins by 10 in each hour, and the second truck arrives in the second one.
	thaw := exact(func(r *api.Region) {
		r.Gap, r.Pace, r.Plate.Shares[2].From = 20, one(10), 40
		r.Survey.Reaches[0].Slope, r.Survey.Reaches[0].Thin = 0, 10
	})
	dialogue(t, thaw, "radar 1 400 400", "ok", "wait 27", "ok", "go up ann 4266", "go 1", "wait 2", "ok", "go up bob 4266", "go 2")
	dialogue(t, thaw, "radar 1 400 400", "ok", "wait 28", "ok", "go up ann 4266", "go 1", "wait 2", "ok", "go up bob 4266", "error 14", "go up bob 1", "error 14", "radar 1 400 400", "ok", "go up bob 4266", "error 14")
	dialogue(t, thaw, "radar 1 400 400", "ok", "wait 28", "ok", "go up ann 4056", "go 1", "wait 2", "ok", "go up bob 4056", "go 2")
	// It is the thinnest place that counts.
	uneven := exact(func(r *api.Region) { r.Gap, r.Pace, r.Plate.Shares[2].From = 20, one(10), 40 })
	dialogue(t, uneven, "radar 1 400 400", "ok", "go up ann 4057", "go 1", "wait 2", "ok", "go up bob 4057", "error 14")
	dialogue(t, uneven, "radar 1 400 400", "ok", "go up ann 4056", "go 1", "wait 2", "ok", "go up bob 4056", "go 2")
	// There is no gap at all with which two trucks of such a weight are borne, if half of the other one counts everywhere.
	far := exact(func(r *api.Region) { r.Plate.Shares = r.Plate.Shares[:2] })
	dialogue(t, far, "radar 1 400 400", "ok", "go up ann 4057", "go 1", "wait 2", "ok", "go up bob 1", "error 14", "wait 1", "ok", "go up bob 4057", "go 1")
}

// P10.1 and P10.5: who has to wait for others, up to 120 minutes.
func TestRelease(t *testing.T) {
	dialogue(t, region(), "radar 1 400 420", "ok", "go up ann 1000", "go 1", "go up bob 1000", "later 2", "go down bob 1000", "later 3", "wait 1", "ok", "go up bob 1000", "later 2", "go down bob 1000", "later 3", "wait 1", "ok", "go down bob 1000", "later 3", "go up bob 1000", "go 2")
	dialogue(t, region(), "radar 1 400 420", "ok", "wait 100", "ok", "go down ann 1000", "go 1", "go up bob 1000", "later 103", "wait 3", "ok", "go up bob 1000", "go 1")
	// A truck that takes 300 minutes, and another one from the other end.
	slow := exact(func(r *api.Region) { r.Pace, r.Gap = one(1), 2 })
	dialogue(t, slow, "radar 1 400 420", "ok", "go up ann 1000", "go 1", "go down bob 1000", "error 10", "wait 1", "ok", "go up bob 1000", "later 2", "wait 178", "ok", "go down bob 1000", "error 10", "wait 1", "ok", "go down bob 1000", "later 300", "wait 119", "ok", "go down bob 1000", "later 300", "wait 1", "ok", "go down bob 1000", "go 1")
	// Nothing is written down of whom has to wait.
	for _, line := range []string{"go down bob 1000", "go up bob 1000"} {
		if d := desk(t, slow, "radar 1 400 420", "go up ann 1000", line); len(d.Trucks) != 1 || len(d.Drivers[1].Turns) != 0 {
			t.Error(d)
		}
	}
}

// P10.1: who is caught in a storm.
func TestStorm(t *testing.T) {
	dialogue(t, region(), "storm 0", "caught", "storm 3000", "caught", "storm 3001", "error 2", "wait 2999", "ok", "storm 1", "caught", "storm 2", "error 2")
	// The first truck is off in the minutes 3 to 5, the second one in 7 to 9.
	unsure := changed(func(r *api.Region) { r.Pace = span(70, 100) })
	dialogue(t, unsure, "radar 1 400 420", "ok", "go up ann 1000", "go 1", "wait 4", "ok", "storm 1", "caught open", "go up bob 1000", "go 2", "storm 0", "caught open sure", "wait 1", "ok", "storm 0", "caught sure", "wait 2", "ok", "storm 2993", "caught open", "storm 2994", "error 2")
	three := changed(func(r *api.Region) { r.Pace, r.Gap = span(9, 10), 60 }) // 30 to 34 minutes
	dialogue(t, three, "radar 1 400 420", "ok", "go up ann 1000", "go 1", "wait 10", "ok", "go up bob 1000", "go 2", "storm 0", "caught sure sure", "wait 19", "ok", "storm 5", "caught sure sure", "wait 1", "ok", "storm 5", "caught open sure", "wait 3", "ok", "storm 9", "caught open sure", "wait 1", "ok", "storm 0", "caught sure", "wait 6", "ok", "storm 0", "caught open")
}

// P10.1: whether all are off before the break-up.
func TestSafe(t *testing.T) {
	dialogue(t, region(), "breakup 0 0", "sure", "breakup 0 30000", "sure", "breakup 0 30001", "error 2", "breakup 5 4", "error 11", "breakup 30002 30001", "error 2", "breakup 999999999 0", "error 2")
	unsure := changed(func(r *api.Region) { r.Pace = span(70, 100) })
	dialogue(t, unsure, "radar 1 400 420", "ok", "go up ann 1000", "go 1", "breakup 6 6", "sure", "breakup 6 30000", "sure", "breakup 5 6", "open", "breakup 0 4", "open", "breakup 0 3", "never", "breakup 3 3", "never", "wait 5", "ok", "breakup 0 3", "sure")
}

// P10.1: when somebody may drive, from now on.
func TestNext(t *testing.T) {
	dialogue(t, region(), "next ann 1", "next 0", "next bob 60", "next 0", "next bob 61", "error 7", "next cat 1", "error 7", "next cat 0", "error 7", "next Ann 1", "error 7", "next annann 1", "error 7", "next ann 0", "error 2", "next ann 3001", "error 2", "wait 17", "ok", "next ann 60", "next 17", "wait 2983", "ok", "next ann 1", "error 7")
	dialogue(t, region(), "radar 1 400 420", "ok", "go up bob 1000", "go 1", "next bob 57", "next 3", "next bob 58", "next 33", "next ann 58", "next 0", "wait 20", "ok", "next bob 57", "next 20", "next bob 58", "next 33", "next bob 60", "next 33")
}

// P10.1: litres that are moved, and those that are missing.
func TestMoves(t *testing.T) {
	dialogue(t, region(),
		"fuel", "lost 0 100 rack open camp never", "move 0 2 1 1", "error 7", "move 2 0 1 1", "error 7", "move 0 0 1 1", "error 3", "move 0 1 60 50", "error 11", "move 0 1 0 999999999", "ok", "move 0 1 101 101", "error 12",
		"move 0 1 40 60", "ok", "fuel", "lost 0 100 rack open camp open", "move 1 0 0 0", "ok",
	)
	d := desk(t, region(), "move 0 1 5 6", "move 0 0 1 1", "move 1 0 0 3")
	if want := []api.Move{{To: 1, Litres: span(5, 6)}, {From: 1, Litres: span(0, 3)}}; !slices.Equal(d.Book.Moves, want) || !slices.Equal(d.Book.Accounts, region().Book.Accounts) {
		t.Error(d.Book)
	}
	// Each verdict, and a region whose book has a move.
	spill := changed(func(r *api.Region) {
		r.Book.Accounts[0].Close = span(900, 949)
		r.Book.Accounts = append(r.Book.Accounts, api.Account{Name: "ground", Kind: api.AccountGround, Close: span(0, 5)})
		r.Book.Moves = []api.Move{{From: 0, To: 1, Litres: span(20, 30)}}
	})
	dialogue(t, spill, "fuel", "lost 21 100 rack sure camp open ground never", "move 0 2 3 9", "ok", "fuel", "lost 16 97 rack sure camp open ground never")
	if d := desk(t, spill, "move 0 2 3 9"); len(d.Book.Moves) != 2 || d.Book.Moves[1] != (api.Move{To: 2, Litres: span(3, 9)}) {
		t.Error(d.Book)
	}
	// A greatest number of litres, and of moves.
	rich := changed(func(r *api.Region) {
		r.Book.Accounts[0].Open, r.Book.Accounts[1].Close = one(1000000000), span(0, 1000000000)
	})
	pairs := slices.Repeat([]string{"move 0 1 0 999999999", "ok"}, 30)
	dialogue(t, rich, append(pairs, "move 0 1 0 0", "error 8", "fuel", "lost 0 999999100 rack open camp open")...)
}

// P10.1: who is reached in time, in each minute of the day.
func TestReach(t *testing.T) {
	day := changed(func(r *api.Region) {
		r.Rescue = api.Rescue{
			Spots:  2,
			Paths:  []api.Path{{B: 1, Time: span(8, 20), Open: api.Sure}},
			Posts:  []api.Post{{Ready: span(2, 3), From: 360, To: 1080}},
			Water:  []api.Span{one(0), one(0)},
			Chills: []api.Chill{{Warm: -400, Minutes: span(10, 20)}},
		}
	})
	dialogue(t, day,
		"reach 0", "never", "reach 1", "never", "reach 2", "error 7", "wait 359", "ok", "reach 0", "never", "wait 1", "ok", "reach 0", "sure", "reach 1", "open", "wait 719", "ok", "reach 0", "sure", "wait 1", "ok", "reach 0", "never",
		"wait 360", "ok", "reach 0", "never", "wait 360", "ok", "reach 0", "sure", "wait 720", "ok", "reach 0", "never", "wait 360", "ok", "reach 1", "never", "wait 120", "ok", "reach 0", "never",
	)
	// Two days and more are over, and the post is manned from the minute 0 on.
	day.Rescue.Posts[0].From, day.Rescue.Posts[0].To = 0, 1
	dialogue(t, day, "reach 0", "sure", "wait 1", "ok", "reach 0", "never", "wait 1438", "ok", "reach 0", "never", "wait 1", "ok", "reach 0", "sure", "wait 1440", "ok", "reach 0", "sure", "wait 1", "ok", "reach 0", "never")
}

// P10.2: reports with each kind of row.
func TestReport(t *testing.T) {
	slow := changed(func(r *api.Region) { r.Pace, r.Gap, r.Rules.Drive = span(9, 10), 60, 34 })
	lines := "radar 1 400 420\ngo up bob 1000\nwait 10\ngo up ann 100 200\nmove 0 1 50 60\n"
	for i, c := range []struct {
		r      api.Region
		sheet  string
		weight int
		want   string
	}{
		{region(), "", 0, "minute 0\nshut 0 2 stale\ndriver ann sure\ndriver bob sure\nlost 0 100\nend\n"},
		{region(), "", 1, "minute 0\nshut 0 2 thin\ndriver ann sure\ndriver bob sure\nlost 0 100\nend\n"},
		{region(), "radar 1 400 420\ngo up ann 1000 1000\ncrack 2 2 1\nwait 2\nmove 0 1 50 60\nfly\n", 2000, "minute 2\nshut 2 2 mark\ntruck up ann 2060 0\ndriver ann sure\ndriver bob sure\nlost 0 100\nend\n"},
		{region(), "radar 1 400 420\nwait 61\ngo down bob 1000\n", 2000, "minute 61\nopen\ntruck down bob 1030 61\ndriver ann sure\ndriver bob sure\nlost 0 100\nend\n"},
		{region(), "core 0 400 400\nseep 2 2 0\n", 5000, "minute 0\nshut 1 1 stale\nshut 2 2 mark\ndriver ann sure\ndriver bob sure\nlost 0 100\nend\n"},
		{region(), "core 0 400 400\nseep 2 2 0\nwait 3000\n", 5600, "minute 3000\nshut 0 2 thin\ndriver ann sure\ndriver bob sure\nlost 0 100\nend\n"},
		{slow, lines, 6084, "minute 10\nopen\ntruck up bob 1030 0\ntruck up ann 343 10\ndriver ann sure\ndriver bob sure\nlost 0 100\nend\n"},
		{slow, lines + "wait 24\n", 6085, "minute 34\nshut 0 0 thin\nshut 2 2 thin\ntruck up ann 343 10\ndriver ann sure\ndriver bob sure\nlost 0 100\nend\n"},
		{changed(func(r *api.Region) { r.Book.Accounts[0].Close, r.Drivers = one(930), r.Drivers[1:] }), "move 0 1 0 50\n", 0, "minute 0\nshut 0 2 stale\ndriver bob sure\nlost 20 70\nend\n"},
	} {
		got, e := road.Report(c.r, c.sheet, c.weight)
		if e != api.OK || got != c.want {
			t.Errorf("%d: the report is %q, %v, want %q", i, got, e, c.want)
		}
	}
}
