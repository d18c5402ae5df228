package bear

import "sastrugi/api"

// side is one side of what may truly be: the worst of it, or the best.
type side struct{ best bool }

// more returns the end of a span of which a greater number lets the ice bear more.
func (s side) more(x api.Span) int {
	if s.best {
		return x.Hi
	}
	return x.Lo
}

// less returns the end of a span of which a greater number lets the ice bear less.
func (s side) less(x api.Span) int {
	if s.best {
		return x.Lo
	}
	return x.Hi
}

// truth is a plate with the worst, or the best, of what may truly be.
type truth struct {
	side
	plate api.Plate
}

func worst(p api.Plate) truth { return truth{side{best: false}, p} }

func best(p api.Plate) truth { return truth{side{best: true}, p} }

// upTo returns the last entry of a table that begins at n or before it. (The first one does: it begins at 0, and n is never below that.)
func upTo[T any](table []T, n int, from func(T) int) T {
	last := table[0]
	for _, x := range table[1:] {
		if from(x) > n {
			break
		}
		last = x
	}
	return last
}

// part returns the part of a table for a number.
func part(table []api.Share, n int) int {
	return upTo(table, n, func(s api.Share) int { return s.From }).Part
}

// limit returns the burden that ice of a thickness bears at a load that has stood for so many minutes, times Mil times Mil. (With the greatest numbers this is 25 times 10^17, so it fits into an int.)
func (t truth) limit(thick, minutes int) int {
	return t.more(t.plate.Strength) * thick * thick * part(t.plate.Creep, minutes)
}

// burden returns the burden at a metre, times Mil.
func (t truth) burden(loads []api.Load, at int) int {
	sum := 0
	for _, x := range loads {
		sum += t.less(x.Weight) * part(t.plate.Shares, max(at-x.At, x.At-at))
	}
	return sum
}

// bears tells whether ice of a thickness bears one of the loads. (With the greatest numbers the burden of all loads, times Mil times Mil, is 6 times 10^18, so it fits into an int.)
func (t truth) bears(thick int, loads []api.Load, x api.Load) bool {
	return t.burden(loads, x.At)*api.Mil <= t.limit(thick, x.Stands)
}

// thick returns how thick the ice is at a metre.
func (t truth) thick(ice, cracks []api.Span, at int) int {
	h := t.more(ice[at/longPlace])
	if t.near(cracks, at) {
		return h * t.plate.Edge / api.Mil
	}
	return h
}

// near tells whether a crack is near a metre.
func (t truth) near(cracks []api.Span, at int) bool {
	for _, c := range cracks {
		if t.more(away(c, at)) <= t.plate.Near {
			return true
		}
	}
	return false
}

// away returns between how many metres a crack is away from a metre.
func away(crack api.Span, at int) api.Span {
	return api.Span{
		Lo: max(0, crack.Lo-at, at-crack.Hi),
		Hi: max(crack.Hi-at, at-crack.Lo),
	}
}
