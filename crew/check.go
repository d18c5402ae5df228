package crew

import (
	"strings"

	"sastrugi/api"
	"sastrugi/check"
)

// A name has at most so many letters, each of which is one of these.
const (
	longestName = 8
	letters     = "abcdefghijklmnopqrstuvwxyz"
)

// CheckRules returns the error of rules, otherwise OK.
func CheckRules(u api.Rules) api.Errno {
	return check.First(
		check.Number(u.Drive, 1, api.MaxClock),
		check.Number(u.Rest, 1, api.MaxClock),
		check.Number(u.Day, 1, api.MaxClock),
		check.Number(u.Most, 1, api.MaxClock),
	)
}

// Check returns the first error of a driver, otherwise OK.
func Check(d api.Driver) api.Errno {
	return check.First(
		check.Form(isName(d.Name)),
		checkSkills(d.Skills),
		check.List(d.Turns, api.MaxTurns, func(i int, t api.Turn) api.Errno { return checkTurn(d.Turns[:i], t) }),
	)
}

// isName tells whether a word may be the name of a driver.
func isName(word string) bool {
	return 1 <= len(word) && len(word) <= longestName && strings.Trim(word, letters) == ""
}

// checkSkills returns ErrRange unless a number is one of skills.
func checkSkills(n int) api.Errno { return check.Number(n, 0, api.MaxSkill) }

// checkTurn returns the first error of a turn behind others.
func checkTurn(before []api.Turn, t api.Turn) api.Errno {
	e := check.First(
		check.Span(t.From, 0, api.MaxClock),
		check.Span(t.To, 0, api.MaxClock),
		check.Order(t.From.Hi <= t.To.Lo),
	)
	if e != api.OK || len(before) == 0 {
		return e
	}
	return check.Clash(t.From.Lo >= before[len(before)-1].To.Hi)
}

// checkTime returns ErrRange unless a drive from a minute on takes at least so many minutes, and is over before the clock ends.
func checkTime(at, long, least int) api.Errno {
	return check.First(check.Number(at, 0, api.MaxClock), check.Number(long, least, api.MaxClock-at))
}

// checkRoom returns ErrFull unless a driver may have a turn more.
func checkRoom(d api.Driver) api.Errno { return check.Most(len(d.Turns)+1, api.MaxTurns) }

// checkDrivers returns ErrFull for too many drivers, otherwise the first error of one of them.
func checkDrivers(l []api.Driver) api.Errno {
	return check.List(l, api.MaxDrivers, func(_ int, d api.Driver) api.Errno { return Check(d) })
}

// checkHauls returns the first error of hauls.
func checkHauls(hauls []api.Haul) api.Errno {
	return check.List(hauls, api.MaxHauls, func(_ int, h api.Haul) api.Errno {
		return check.First(checkTime(h.From, h.Long, 1), checkSkills(h.Skills))
	})
}

// checkScale returns the error of a scale.
func checkScale(s api.Scale) api.Errno {
	return check.First(check.Number(s.Zero, 0, api.MaxZero), check.Number(s.Part, 0, api.MaxError))
}

// checkReading returns ErrRange unless a number is a reading.
func checkReading(n int) api.Errno { return check.Number(n, 0, api.MaxReading) }

// checkAllow returns ErrRange unless both numbers may be allowed.
func checkAllow(a api.Allow) api.Errno {
	return check.First(check.Number(a.Axle, 0, api.MaxTotal), check.Number(a.Total, 0, api.MaxTotal))
}
