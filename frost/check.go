package frost

import (
	"sastrugi/api"
	"sastrugi/check"
)

// Check returns the first error of a law, otherwise OK.
func Check(l api.Frost) api.Errno {
	return check.First(
		check.Number(l.Growth, 0, api.MaxGrowth),
		check.Number(l.Latent, 1, api.MaxLatent),
		checkCovers(l.Covers),
		check.Span(l.Melt, 0, api.MaxMelt),
		check.Number(l.Soak, 0, api.Mil),
		check.Span(l.White, 0, api.Mil),
	)
}

// checkCovers returns the first error of a law's covers.
func checkCovers(covers []api.Cover) api.Errno {
	if e := check.First(check.Some(len(covers)), check.Most(len(covers), api.MaxCovers)); e != api.OK {
		return e
	}
	if e := checkCover(covers[0], covers[0].Depth == 0, api.Span{Lo: api.Mil, Hi: api.Mil}); e != api.OK {
		return e
	}
	for i, c := range covers[1:] {
		before := covers[i]
		if e := checkCover(c, c.Depth > before.Depth, before.Part); e != api.OK {
			return e
		}
	}
	return api.OK
}

// checkCover returns the first error of a cover: whether it is as deep as its turn asks for is told, and neither number of its part may be above that of most.
func checkCover(c api.Cover, turn bool, most api.Span) api.Errno {
	return check.First(
		check.Number(c.Depth, 0, api.MaxThick),
		check.Order(turn),
		check.Span(c.Part, 0, api.Mil),
		check.Order(c.Part.Lo <= most.Lo && c.Part.Hi <= most.Hi),
	)
}

// CheckIce returns the first error of ice, otherwise OK.
func CheckIce(x api.Ice) api.Errno {
	for _, s := range known(x) {
		if e := check.Span(s, 0, api.MaxThick); e != api.OK {
			return e
		}
	}
	return api.OK
}

// checkDays returns the first error of a list of days.
func checkDays(days []api.Weather) api.Errno {
	return check.List(days, api.MaxSeason, func(_ int, d api.Weather) api.Errno {
		return check.First(
			check.Span(d.Cold, -api.MaxCold, api.MaxCold),
			check.Span(d.Fall, 0, api.MaxFall),
			check.Number(d.Water, 0, api.MaxWater),
		)
	})
}

// checkAll returns the first error of a law, ice and days.
func checkAll(l api.Frost, x api.Ice, days []api.Weather) api.Errno {
	return check.First(Check(l), CheckIce(x), checkDays(days))
}
