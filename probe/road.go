package probe

import (
	"iter"
	"math"

	"sastrugi/api"
)

// road is a survey as it lies, place by place.
type road struct {
	sight [3]int
	of    []api.Reach // the reach of each place
	rise  []int       // by how much the ice at each place differs at most from that at the place 0 in the same hour
	parts []stretch   // one for each reach
}

// stretch is a reach with the rise of its first and of its last place.
type stretch struct {
	api.Reach
	first, last int
}

// walk hands out the places of a survey, each with its reach.
func walk(s api.Survey) iter.Seq2[int, api.Reach] {
	return func(yield func(int, api.Reach) bool) {
		place := 0
		for _, reach := range s.Reaches {
			for range reach.Long {
				if !yield(place, reach) {
					return
				}
				place++
			}
		}
	}
}

// lay returns the road of a survey.
func lay(s api.Survey) road {
	r := road{sight: s.Sight}
	sum := 0
	for _, reach := range walk(s) {
		r.of = append(r.of, reach)
		r.rise = append(r.rise, sum)
		sum += reach.Slope
	}
	first := 0
	for _, reach := range s.Reaches {
		behind := first + reach.Long
		r.parts = append(r.parts, stretch{reach, r.rise[first], r.rise[behind-1]})
		first = behind
	}
	return r
}

// long returns how many places the road has.
func (r road) long() int { return len(r.of) }

// drift returns between how much less and how much more the ice has at a place than it had at another one so many hours before. (Hours below 0 are those by which the place comes before the other one.)
//
// What bounds it is the shortest way from the one to the other: along the road within an hour, where a step is as long as the slope, and from hour to hour at a place, where it is as long as what may thin or grow there. No step is below 0, so the way never turns back in time, and it goes through all hours at one place, where they change least. In each reach no place is better for this than the one nearest to the direct way along the road, to which the way makes a detour, there and back. So one place of each reach is tried.
func (r road) drift(from, to, hours int) api.Span {
	low, high := r.rise[min(from, to)], r.rise[max(from, to)]
	count := max(hours, -hours)
	thins, grows := math.MaxInt, math.MaxInt
	for _, p := range r.parts {
		way := high - low + 2*max(0, low-p.last, p.first-high)
		thins = min(thins, way+p.Thin*count)
		grows = min(grows, way+p.Grow*count)
	}
	if hours < 0 {
		// Ice that thins was thicker, and ice that grows was thinner.
		thins, grows = grows, thins
	}
	return api.Span{Lo: -thins, Hi: grows}
}

// bounds returns what is known in an hour, as a function of the place.
func (r road) bounds(l []api.Look, hour int) func(place int) api.Span {
	return func(place int) api.Span {
		known := api.Span{Lo: 0, Hi: api.MaxIce}
		for _, x := range l {
			d := r.drift(x.At, place, hour-x.Hour)
			known = both(known, api.Span{Lo: x.Value.Lo + d.Lo, Hi: x.Value.Hi + d.Hi})
		}
		return known
	}
}

// both returns the numbers that lie in two spans; there is none if its Lo is above its Hi.
func both(s, t api.Span) api.Span {
	return api.Span{Lo: max(s.Lo, t.Lo), Hi: min(s.Hi, t.Hi)}
}

// clash returns ErrClash if no course fits the looks. Of looks that contradict each other there are always two that do, so each one is held against those before it.
func (r road) clash(l []api.Look) api.Errno {
	for i, x := range l {
		if known := r.bounds(l[:i+1], x.Hour)(x.At); known.Lo > known.Hi {
			return api.ErrClash
		}
	}
	return api.OK
}
