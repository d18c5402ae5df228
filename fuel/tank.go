package fuel

import (
	"slices"
	"sort"

	"sastrugi/api"
)

// fraction returns a fraction of numbers that are not below 0, rounded down and rounded up.
func fraction(above, below int) api.Span {
	return api.Span{Lo: above / below, Hi: (above + below - 1) / below}
}

// contents returns what is in a tank at one of its heights, rounded down and rounded up.
func contents(t api.Tank, height int) api.Span {
	// The height is above that of each end before this one: the line to it is the one on which it lies.
	end := 1 + sort.Search(len(t.Heights)-2, func(i int) bool { return t.Heights[i+1] >= height })
	start := end - 1
	rise := fraction(
		(height-t.Heights[start])*(t.Litres[end]-t.Litres[start]),
		t.Heights[end]-t.Heights[start],
	)
	return api.Span{Lo: t.Litres[start] + rise.Lo, Hi: t.Litres[start] + rise.Hi}
}

// standard returns between which numbers litres at a temperature are standard litres. What a litre shrinks by is a product of two numbers, so it is least and greatest at ends of their spans; it is less than a litre, so more litres are more standard litres.
func standard(litres, beta, temp api.Span) api.Span {
	ends := []int{
		shrinks(beta.Lo, temp.Lo),
		shrinks(beta.Lo, temp.Hi),
		shrinks(beta.Hi, temp.Lo),
		shrinks(beta.Hi, temp.Hi),
	}
	return api.Span{
		Lo: fraction(litres.Lo*(api.Mil-slices.Max(ends)), api.Mil).Lo,
		Hi: fraction(litres.Hi*(api.Mil-slices.Min(ends)), api.Mil).Hi,
	}
}

// shrinks returns by how many millionths a litre shrinks until it has the temperature at which litres are counted.
func shrinks(beta, temp int) int { return beta * (temp - api.Norm) }
