package build

import (
	"slices"

	"sastrugi/api"
	"sastrugi/check"
	"sastrugi/frost"
)

// Check returns the first error of a job, otherwise OK.
func Check(j api.Job) api.Errno {
	return check.First(
		check.List(j.Machines, api.MaxMachines, func(_ int, m api.Machine) api.Errno { return checkMachine(m) }),
		check.List(j.Tasks, api.MaxTasks, func(i int, x api.Task) api.Errno { return checkTask(x, i, len(j.Machines)) }),
	)
}

// checkMachine returns the first error of a machine.
func checkMachine(m api.Machine) api.Errno {
	return check.First(
		check.Span(api.Span{Lo: m.Mild, Hi: m.Hard}, -api.MaxCold, api.MaxCold),
		check.Number(m.Shift, 1, dayLong),
	)
}

// checkTask returns the first error of the task with the number i of a job with so many machines.
func checkTask(x api.Task, i, machines int) api.Errno {
	return check.First(
		check.Index(x.Machine, machines),
		check.Span(x.Hours, 0, api.MaxHours),
		check.Span(x.Wait, 0, api.MaxHours),
		check.Span(x.From, 0, api.MaxHours),
		checkAfter(x.After, i),
	)
}

// checkAfter returns the first error of the numbers of the tasks before the task i. (No list of them is too long: if there are more than i, one of them is wrong.)
func checkAfter(after []int, i int) api.Errno {
	return check.List(after, len(after), func(k, before int) api.Errno {
		return check.First(check.Index(before, i), check.New(!slices.Contains(after[:k], before)))
	})
}

// checkDays returns the first error of a list of days.
func checkDays(days []api.Weather) api.Errno {
	_, e := frost.Index(days)
	return e
}

// CheckNet returns the first error of a net, otherwise OK.
func CheckNet(n api.Net) api.Errno {
	return check.First(
		check.Number(n.Nodes, 1, api.MaxNodes),
		check.List(n.Legs, api.MaxLegs, func(_ int, x api.Leg) api.Errno { return checkLeg(x, n.Nodes) }),
	)
}

// checkLeg returns the first error of a leg of a net with so many nodes.
func checkLeg(x api.Leg, nodes int) api.Errno {
	return check.First(
		check.Index(x.A, nodes),
		check.Index(x.B, nodes),
		check.Clash(x.A != x.B),
		check.Number(x.Long, 1, api.MaxLong),
		check.Number(x.Cost, 0, api.MaxCost),
		check.Kind(x.Open, api.Open),
	)
}
