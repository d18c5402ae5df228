package road

import (
	"strings"

	"sastrugi/api"
	"sastrugi/bear"
	"sastrugi/check"
	"sastrugi/convoy"
	"sastrugi/crew"
	"sastrugi/fuel"
	"sastrugi/probe"
	"sastrugi/rescue"
)

// Check returns the first error of a region, otherwise OK.
func Check(r api.Region) api.Errno {
	// How long the road is, the convoy can only be told if the survey is valid.
	if e := check.First(probe.Check(r.Survey), bear.Check(r.Plate)); e != api.OK {
		return e
	}
	return check.First(
		convoy.Check(convoyOf(r, api.Truck{Way: api.WayUp, Pace: r.Pace})),
		fuel.Check(r.Book),
		rescue.Check(r.Rescue),
		crew.CheckRules(r.Rules),
		check.Some(len(r.Drivers)),
		check.List(r.Drivers, api.MaxDrivers, func(i int, x api.Driver) api.Errno { return checkDriver(r.Drivers[:i], x) }),
		checkScale(r),
	)
}

// checkDriver returns the first error of a driver, who is behind others.
func checkDriver(before []api.Driver, x api.Driver) api.Errno {
	_, known := find(before, x.Name)
	return check.First(crew.Check(x), check.Form(len(x.Turns) == 0), check.New(!known))
}

// checkScale returns the error of the scale, then of what is allowed.
func checkScale(r api.Region) api.Errno {
	_, _, e := crew.Pass(r.Scale, nil, r.Allow)
	return e
}

// checkSheet returns the error of a sheet.
func checkSheet(sheet string) api.Errno {
	switch {
	case len(sheet) > api.MaxPaper:
		return api.ErrLong
	case sheet != "" && !strings.HasSuffix(sheet, "\n"):
		return api.ErrForm
	}
	return check.Most(strings.Count(sheet, "\n"), api.MaxDesk)
}
