package probe

import (
	"sastrugi/api"
	"sastrugi/check"
)

// Check returns the first error of a survey, otherwise OK.
func Check(s api.Survey) api.Errno {
	if e := check.First(check.Some(len(s.Reaches)), check.Most(len(s.Reaches), api.MaxReaches)); e != api.OK {
		return e
	}
	long := 0
	for _, r := range s.Reaches {
		if e := checkReach(r); e != api.OK {
			return e
		}
		long += r.Long
	}
	if e := check.Most(long, api.MaxPlaces); e != api.OK {
		return e
	}
	for _, far := range s.Sight {
		if e := check.Number(far, 0, api.MaxSight); e != api.OK {
			return e
		}
	}
	return api.OK
}

func checkReach(r api.Reach) api.Errno {
	return check.First(
		check.Number(r.Long, 1, api.MaxPlaces),
		check.Number(r.Slope, 0, api.MaxIce),
		check.Number(r.Thin, 0, api.MaxChange),
		check.Number(r.Grow, 0, api.MaxChange),
		check.Number(r.Every, 0, api.MaxHour),
	)
}

// CheckLooks returns the first error of a survey, then that of the looks, otherwise OK.
func CheckLooks(s api.Survey, l []api.Look) api.Errno {
	if e := Check(s); e != api.OK {
		return e
	}
	r := lay(s)
	e := check.List(l, api.MaxLooks, func(_ int, x api.Look) api.Errno { return checkLook(x, r.long()) })
	if e != api.OK {
		return e
	}
	return r.clash(l)
}

// checkLook returns the first error of a look on a road of so many places.
func checkLook(x api.Look, long int) api.Errno {
	return check.First(
		check.Kind(x.Kind, api.LookRadar),
		check.Index(x.At, long),
		checkHour(x.Hour),
		check.Span(x.Value, 0, api.MaxIce),
	)
}

// CheckMarks returns the first error of a survey, then that of the marks, otherwise OK.
func CheckMarks(s api.Survey, m []api.Mark) api.Errno {
	if e := Check(s); e != api.OK {
		return e
	}
	long := lay(s).long()
	return check.List(m, api.MaxMarks, func(_ int, x api.Mark) api.Errno { return checkMark(x, long) })
}

// checkMark returns the first error of a mark on a road of so many places.
func checkMark(x api.Mark, long int) api.Errno {
	return check.First(
		check.Kind(x.Kind, api.MarkMend),
		check.Index(x.From, long),
		check.Index(x.To, long),
		check.Order(x.From <= x.To),
		checkHour(x.Hour),
		check.Number(x.Speed, 0, api.MaxSpread),
	)
}

func checkHour(hour int) api.Errno { return check.Number(hour, 0, api.MaxHour) }

// checkTrack returns the first error of a track.
func checkTrack(t api.Track) api.Errno {
	return check.First(check.Span(t.Speed, 1, fastest), check.List(t.Echoes, api.MaxLooks, checkEcho))
}

// checkEcho returns the first error of an echo.
func checkEcho(_ int, x api.Echo) api.Errno {
	return check.First(
		check.Number(x.At, 0, api.MaxPlaces-1),
		checkHour(x.Hour),
		check.Span(x.Time, 0, api.MaxEcho),
	)
}
