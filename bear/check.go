package bear

import (
	"sastrugi/api"
	"sastrugi/check"
)

// longPlace is how many metres a place has.
const longPlace = 100

// lastMetre is the last metre that a crack may be at, and the farthest that a shore may be away.
const lastMetre = longPlace * api.MaxBeds

// Check returns the first error of a plate, otherwise OK.
func Check(p api.Plate) api.Errno {
	return check.First(
		check.Span(p.Strength, 1, api.MaxStrength),
		checkTable(p.Shares),
		checkTable(p.Creep),
		check.Number(p.Near, 0, api.MaxFar),
		check.Number(p.Edge, 0, api.Mil),
		check.Number(p.Gravity, 1, api.MaxGravity),
		check.Span(api.Span{Lo: p.Low, Hi: p.High}, 1, api.MaxBand),
		check.Number(p.Shore, 0, api.MaxFar),
		check.Number(p.Wider, 0, api.Mil),
	)
}

// checkTable returns the first error of a table.
func checkTable(table []api.Share) api.Errno {
	return check.First(
		check.Some(len(table)),
		check.List(table, api.MaxEntries, func(i int, s api.Share) api.Errno {
			if i == 0 {
				return checkFirst(s)
			}
			return checkNext(s, table[i-1])
		}),
	)
}

// checkFirst returns the first error of the first entry of a table.
func checkFirst(s api.Share) api.Errno {
	return check.First(
		check.Number(s.From, 0, api.MaxFar),
		check.Order(s.From == 0),
		check.Number(s.Part, 0, api.Mil),
		check.Form(s.Part == api.Mil),
	)
}

// checkNext returns the first error of an entry of a table behind another one.
func checkNext(s, before api.Share) api.Errno {
	return check.First(
		check.Number(s.From, 0, api.MaxFar),
		check.Order(s.From > before.From),
		check.Number(s.Part, 0, api.Mil),
		check.Order(s.Part <= before.Part),
	)
}

// checkRoad returns the first error of a plate, ice and cracks.
func checkRoad(p api.Plate, ice, cracks []api.Span) api.Errno {
	return check.First(
		Check(p),
		check.List(ice, api.MaxBeds, func(_ int, thick api.Span) api.Errno { return check.Span(thick, 0, api.MaxThick) }),
		check.List(cracks, api.MaxCracks, func(_ int, at api.Span) api.Errno { return check.Span(at, 0, lastMetre) }),
	)
}

// checkLoads returns the first error of loads on ice of so many places.
func checkLoads(loads []api.Load, places int) api.Errno {
	return check.List(loads, api.MaxLoads, func(_ int, x api.Load) api.Errno {
		return check.First(
			check.Index(x.At, longPlace*places),
			checkWeight(x.Weight),
			checkStand(x.Stands),
		)
	})
}

func checkWeight(weight api.Span) api.Errno { return check.Span(weight, 0, api.MaxWeight) }

func checkStand(minutes int) api.Errno { return check.Number(minutes, 0, api.MaxStand) }

func checkThick(thick int) api.Errno { return check.Number(thick, 0, api.MaxThick) }

// checkWaves returns the first error of a plate, depths, and how far away the shore is.
func checkWaves(p api.Plate, depth api.Span, shore int) api.Errno {
	return check.First(
		Check(p),
		check.Span(depth, 0, api.MaxDepth),
		check.Number(shore, 0, lastMetre),
	)
}
