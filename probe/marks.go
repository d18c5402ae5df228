package probe

import (
	"slices"

	"sastrugi/api"
	"sastrugi/check"
)

// Cover returns the whole road as patches: where marks surely cover it in an hour, where they may, and where they do not.
func Cover(s api.Survey, m []api.Mark, hour int) ([]api.Patch, api.Errno) {
	if e := check.First(CheckMarks(s, m), checkHour(hour)); e != api.OK {
		return nil, e
	}
	r := lay(s)
	covered := r.covered(pastMarks(m, hour), hour)
	return runs(r.long(), func(place int) int { return covered[place] }, func(from, to, verdict int) api.Patch {
		return api.Patch{From: from, To: to, Verdict: verdict}
	}), api.OK
}

// pastMarks returns the marks up to an hour in the order of their hours. So each mend takes its places out of the marks that stand before it, and of no others.
func pastMarks(m []api.Mark, hour int) []api.Mark {
	return past(m, hour, func(x api.Mark) int { return x.Hour })
}

// covered returns for each place the verdict on whether a mark covers it in an hour. The marks are past ones, in the order of their hours.
func (r road) covered(m []api.Mark, hour int) []int {
	verdicts := slices.Repeat([]int{api.Never}, r.long())
	set := func(list []api.Span, verdict int) {
		for _, s := range list {
			for place := s.Lo; place <= s.Hi; place++ {
				verdicts[place] = verdict
			}
		}
	}
	for i, x := range m {
		set(r.reached(x, m[i+1:], hour), api.Open)
	}
	for i, x := range m {
		// What a mark surely covers is what it would cover if it did not spread.
		x.Speed = 0
		set(r.reached(x, m[i+1:], hour), api.Sure)
	}
	return verdicts
}

// reached returns the places that a mark may cover in an hour, as Spans, ascending and apart; later are the marks that stand behind it in the order of their hours. A mend covers nothing.
func (r road) reached(mark api.Mark, later []api.Mark, hour int) []api.Span {
	if mark.Kind == api.MarkMend {
		return nil
	}
	list, now := []api.Span{{Lo: mark.From, Hi: mark.To}}, mark.Hour
	for _, x := range later {
		if x.Kind == api.MarkMend {
			list = without(r.spread(list, mark.Speed*(x.Hour-now)), x.From, x.To)
			now = x.Hour
		}
	}
	return r.spread(list, mark.Speed*(hour-now))
}

// spread returns the places that are in a list of Spans, or at most so many places beside one of them. Spans that meet become one, so that the list stays short.
func (r road) spread(list []api.Span, by int) []api.Span {
	var wide []api.Span
	for _, s := range list {
		s = both(api.Span{Lo: s.Lo - by, Hi: s.Hi + by}, api.Span{Lo: 0, Hi: r.long() - 1})
		if last := len(wide) - 1; last >= 0 && s.Lo <= wide[last].Hi {
			wide[last].Hi = s.Hi
			continue
		}
		wide = append(wide, s)
	}
	return wide
}

// without returns a list of Spans without the places from from to to.
func without(list []api.Span, from, to int) []api.Span {
	var rest []api.Span
	for _, s := range list {
		for _, side := range [...]api.Span{both(s, api.Span{Lo: s.Lo, Hi: from - 1}), both(s, api.Span{Lo: to + 1, Hi: s.Hi})} {
			if side.Lo <= side.Hi {
				rest = append(rest, side)
			}
		}
	}
	return rest
}
