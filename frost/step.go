package frost

import (
	"math/bits"

	"sastrugi/api"
)

// The layers of ice, in the order in which api.Ice has them.
const (
	black = iota
	white
	wet
	snow
	layers
)

// box is what is known of ice: for each layer the numbers that it may have, whatever the others have.
type box [layers]api.Span

func known(x api.Ice) box {
	return box{black: x.Black, white: x.White, wet: x.Wet, snow: x.Snow}
}

func (b box) ice() api.Ice {
	return api.Ice{Black: b[black], White: b[white], Wet: b[wet], Snow: b[snow]}
}

// pick takes one end of a span.
type pick func(s api.Span) int

func low(s api.Span) int { return s.Lo }

func high(s api.Span) int { return s.Hi }

// ends returns the least span that has each value of a number. What becomes of ice never falls with some of the numbers that it follows from, and never rises with the others; so its ends are reached where each of these has one of its own ends: rises picks it for the former, falls for the latter.
func ends(number func(rises, falls pick) int) api.Span {
	return api.Span{Lo: number(low, high), Hi: number(high, low)}
}

// Root returns the square root of n, rounded down (0 for numbers below 0).
func Root(n int) int {
	if n < 1 {
		return 0
	}
	// Newton's steps from above fall until the root is reached.
	root := 1 << ((bits.Len(uint(n)) + 1) / 2)
	for {
		next := (root + n/root) / 2
		if next >= root {
			return root
		}
		root = next
	}
}

// roots returns the square root of n, rounded down and rounded up.
func roots(n int) api.Span {
	root := Root(n)
	if root*root < n {
		return api.Span{Lo: root, Hi: root + 1}
	}
	return api.Span{Lo: root, Hi: root}
}

// shares returns numbers that are not below 0 times a rate per Mil, rounded outwards.
func shares(n, rate api.Span) api.Span {
	return api.Span{Lo: n.Lo * rate.Lo / api.Mil, Hi: (n.Hi*rate.Hi + api.Mil - 1) / api.Mil}
}

// step returns what is known after a day.
func step(l api.Frost, x api.Ice, d api.Weather) api.Ice {
	b := cover(l, known(x), d)
	cold := api.Span{Lo: max(d.Cold.Lo, 0), Hi: d.Cold.Hi}
	warmth := api.Span{Lo: max(-d.Cold.Hi, 1), Hi: -d.Cold.Lo}
	if d.Cold.Hi < 0 {
		return melt(l, b, warmth).ice()
	}
	if d.Cold.Lo >= 0 {
		return freeze(l, b, cold).ice()
	}
	return join(freeze(l, b, cold), melt(l, b, warmth)).ice()
}

// join returns what is known if it is one or the other.
func join(b, other box) box {
	for i, s := range other {
		b[i] = api.Span{Lo: min(b[i].Lo, s.Lo), Hi: max(b[i].Hi, s.Hi)}
	}
	return b
}

// cover returns what is known when the snow of a day is cleared and has fallen, and its water is pumped.
func cover(l api.Frost, b box, d api.Weather) box {
	if d.Clear {
		b[snow] = api.Span{}
	}
	b[snow] = ends(func(rises, _ pick) int { return rises(b[snow]) + rises(d.Fall) })
	if d.Water > 0 {
		b[wet] = ends(func(rises, _ pick) int {
			return rises(b[wet]) + d.Water + rises(b[snow])*l.Soak/api.Mil
		})
		b[snow] = api.Span{}
	}
	return b
}

// through returns the cold that gets through snow. (Deeper snow never lets through more.)
func through(covers []api.Cover, depth, cold api.Span) api.Span {
	return shares(cold, ends(func(rises, falls pick) int { return rises(part(covers, falls(depth))) }))
}

// part returns the part of the cold that gets through snow of a depth.
func part(covers []api.Cover, depth int) api.Span {
	last := covers[0].Part
	for _, c := range covers {
		if c.Depth <= depth {
			last = c.Part
		}
	}
	return last
}

// freeze returns what is known after the cold of a day.
func freeze(l api.Frost, b box, cold api.Span) box {
	got := through(l.Covers, b[snow], cold)
	after := b
	after[black] = ends(func(rises, falls pick) int { return grown(l, b, got, rises, falls) })
	after[white] = ends(func(rises, _ pick) int {
		return rises(b[white]) + frozen(l, rises(b[wet]), rises(got))
	})
	after[wet] = ends(func(rises, falls pick) int {
		water := rises(b[wet])
		return water - frozen(l, water, falls(got))
	})
	return after
}

// frozen returns how much of the water freezes.
func frozen(l api.Frost, water, cold int) int { return min(water, cold/l.Latent) }

// grown returns an end of the black ice after the cold that got through. It grows with what is left of the cold, by less the more ice it grows below, and not at all below water.
func grown(l api.Frost, b box, got api.Span, rises, falls pick) int {
	ice, above, water, cold := rises(b[black]), falls(b[white]), falls(b[wet]), rises(got)
	z := frozen(l, water, cold)
	if z < water {
		return ice
	}
	above += z
	thick := ice + above
	return rises(roots(thick*thick+l.Growth*(cold-z*l.Latent))) - above
}

// melt returns what is known after the warmth of a day: it melts the layers from above. The water stays.
func melt(l api.Frost, b box, warmth api.Span) box {
	rest := shares(warmth, l.Melt)
	for _, i := range [...]int{snow, white, black} {
		was := b[i]
		b[i] = ends(func(rises, falls pick) int { return max(0, rises(was)-falls(rest)) })
		rest = ends(func(rises, falls pick) int { return max(0, rises(rest)-falls(was)) })
	}
	return b
}
