package rescue

import (
	"slices"

	"sastrugi/api"
	"sastrugi/check"
)

// Check returns the first error of a rescue, otherwise OK.
func Check(r api.Rescue) api.Errno {
	return check.First(
		check.Number(r.Spots, 1, api.MaxSpots),
		check.List(r.Paths, api.MaxTracks, func(_ int, p api.Path) api.Errno { return checkPath(p, r.Spots) }),
		check.List(r.Posts, api.MaxPosts, func(_ int, p api.Post) api.Errno { return checkPost(p, r.Spots) }),
		checkSpans(r.Water, r.Spots, -api.MaxWarm, api.MaxWarm),
		check.Some(len(r.Chills)),
		check.List(r.Chills, api.MaxChills, func(i int, _ api.Chill) api.Errno { return checkChill(r.Chills, i) }),
	)
}

// checkMinutes returns the first error of a time.
func checkMinutes(s api.Span) api.Errno { return check.Span(s, 0, api.MaxGo) }

// checkMinute returns the first error of a rescue, then of a minute of the day.
func checkMinute(r api.Rescue, minute int) api.Errno {
	return check.First(Check(r), ofDay(minute))
}

// ofDay returns ErrRange unless a minute is one of the day.
func ofDay(minute int) api.Errno { return check.Number(minute, 0, api.MaxDay-1) }

// checkPath returns the first error of a path between two of so many spots.
func checkPath(p api.Path, spots int) api.Errno {
	return check.First(
		check.Index(p.A, spots),
		check.Index(p.B, spots),
		check.Clash(p.A != p.B),
		checkMinutes(p.Time),
		check.Kind(p.Open, api.Open),
	)
}

// checkPost returns the first error of a post at one of so many spots.
func checkPost(p api.Post, spots int) api.Errno {
	return check.First(
		check.Index(p.Spot, spots),
		checkMinutes(p.Ready),
		ofDay(p.From),
		ofDay(p.To),
		checkFlights(p, spots),
	)
}

// checkFlights returns the first error of whether, and for how long, a post flies to so many spots.
func checkFlights(p api.Post, spots int) api.Errno {
	if p.Flies == 0 {
		return check.Form(len(p.Air) == 0)
	}
	return check.First(check.Kind(p.Flies, api.Open), checkSpans(p.Air, spots, 0, api.MaxGo))
}

// checkSpans returns ErrForm unless there are as many spans as spots, otherwise the first error of one of them.
func checkSpans(list []api.Span, spots, low, high int) api.Errno {
	return check.First(
		check.Form(len(list) == spots),
		check.List(list, spots, func(_ int, s api.Span) api.Errno { return check.Span(s, low, high) }),
	)
}

// checkChill returns the first error of the chill i, before which all are valid.
func checkChill(list []api.Chill, i int) api.Errno {
	c, before := list[i], list[max(i-1, 0)]
	return check.First(
		check.Number(c.Warm, -api.MaxWarm, api.MaxWarm),
		check.Order(i > 0 || c.Warm == -api.MaxWarm),
		check.Order(i == 0 || c.Warm > before.Warm),
		checkMinutes(c.Minutes),
		check.Order(c.Minutes.Lo >= before.Minutes.Lo && c.Minutes.Hi >= before.Minutes.Hi),
	)
}

// checkSites returns the first error of a rescue, then of sites and of the time to get ready there.
func checkSites(r api.Rescue, sites []int, ready api.Span) api.Errno {
	return check.First(
		Check(r),
		check.List(sites, api.MaxSites, func(i, spot int) api.Errno {
			return check.First(check.Index(spot, r.Spots), check.New(!slices.Contains(sites[:i], spot)))
		}),
		checkMinutes(ready),
	)
}
