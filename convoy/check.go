package convoy

import (
	"sastrugi/api"
	"sastrugi/check"
)

// lastMinute is the last minute that may be asked about.
const lastMinute = 3 * api.MaxMinute

// Check returns the first error of a convoy, otherwise OK.
func Check(c api.Convoy) api.Errno {
	return check.First(
		check.Number(c.Length, 1, api.MaxRoad),
		check.Number(c.Gap, 1, api.MaxRoad),
		check.Number(c.Fails, 0, api.MaxTrucks),
		check.List(c.Trucks, api.MaxTrucks, func(_ int, x api.Truck) api.Errno { return checkTruck(c, x) }),
	)
}

// checkTruck returns the first error of a truck of a convoy.
func checkTruck(c api.Convoy, x api.Truck) api.Errno {
	return check.First(
		check.Kind(x.Way, api.WayDown),
		check.Number(x.Start, 0, api.MaxMinute),
		check.Span(x.Pace, 1, api.MaxPace),
		check.Late(c.Length <= api.MaxDrive*x.Pace.Lo),
		check.Clash(c.Gap >= 2*x.Pace.Hi),
		checkHolds(trip{x, c.Length}),
	)
}

// checkHolds returns the first error of a truck's holds.
func checkHolds(x trip) api.Errno {
	return check.List(x.Holds, api.MaxHolds, func(i int, h api.Hold) api.Errno {
		return check.First(
			check.Number(h.At, 1, x.length-1),
			check.Number(h.Until, 0, api.MaxMinute),
			check.Order(i == 0 || x.turn(h.At) > x.turn(x.Holds[i-1].At)),
		)
	})
}

// checkMinutes returns the first error of a storm, or of a time of a break-up.
func checkMinutes(s api.Span) api.Errno { return check.Span(s, 0, lastMinute) }
