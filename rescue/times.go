package rescue

import (
	"iter"
	"slices"

	"sastrugi/api"
)

// The two ends of all that may truly be: no time is less than at the one, and none is greater than at the other.
const (
	least = iota
	greatest
)

// ends returns the number of a span at each end.
func ends(s api.Span) [2]int { return [...]int{least: s.Lo, greatest: s.Hi} }

// holds tells at each end whether something of which there is a verdict is so.
func holds(verdict int) [2]bool {
	return [...]bool{least: verdict != api.Never, greatest: verdict == api.Sure}
}

// next hands out the spots to which open paths lead from a spot at one of the ends, with the times of these paths.
func next(paths []api.Path, here, end int) iter.Seq2[int, int] {
	return func(yield func(there, time int) bool) {
		for _, p := range paths {
			if p.A != here && p.B != here || !holds(p.Open)[end] {
				continue
			}
			if there := p.A + p.B - here; !yield(there, ends(p.Time)[end]) {
				return
			}
		}
	}
}

// drives returns, at one of the ends, the least sum of times from a spot to each one to which there is a way.
func drives(paths []api.Path, from, end int) map[int]int {
	known := map[int]int{}
	for ahead := map[int]int{from: 0}; len(ahead) > 0; {
		// No way to the nearest spot goes over one that is farther away: its sum cannot become less.
		here := nearest(ahead)
		known[here] = ahead[here]
		delete(ahead, here)
		for there, time := range next(paths, here, end) {
			if _, done := known[there]; done {
				continue
			}
			sum := known[here] + time
			if now, seen := ahead[there]; !seen || sum < now {
				ahead[there] = sum
			}
		}
	}
	return known
}

// nearest returns the spot with the least sum of times, of several ones the first; -1 if there is none.
func nearest(sums map[int]int) int {
	first := -1
	for spot, sum := range sums {
		if first < 0 || sum < sums[first] || sum == sums[first] && spot < first {
			first = spot
		}
	}
	return first
}

// ways returns, at one of the ends, how long a post is on its way to each spot to which it can go.
func ways(r api.Rescue, p api.Post, end int) map[int]int {
	if p.Flies == 0 {
		return drives(r.Paths, p.Spot, end)
	}
	flights := map[int]int{}
	if holds(p.Flies)[end] {
		for spot, air := range p.Air {
			flights[spot] = ends(air)[end]
		}
	}
	return flights
}

// arrives returns, at one of the ends, a post's time to each spot.
func arrives(r api.Rescue, p api.Post, end int) []int {
	list := slices.Repeat([]int{api.Beyond}, r.Spots)
	for spot, way := range ways(r, p, end) {
		list[spot] = ends(p.Ready)[end] + way
	}
	return list
}

// times returns what is known of a post's time to each spot.
func times(r api.Rescue, p api.Post) []api.Span {
	early, late := arrives(r, p, least), arrives(r, p, greatest)
	var list []api.Span
	for spot := range r.Spots {
		list = append(list, api.Span{Lo: early[spot], Hi: late[spot]})
	}
	return list
}

// manned tells whether a post is manned in a minute of the day.
func manned(p api.Post, minute int) bool {
	if p.From < p.To {
		return p.From <= minute && minute < p.To
	}
	return p.From <= minute || minute < p.To
}

// soonest returns what is known of the least of some times. All of them may be as small as they can be at once, and as great.
func soonest(times ...api.Span) api.Span {
	first := api.Span{Lo: api.Beyond, Hi: api.Beyond}
	for _, t := range times {
		first.Lo, first.Hi = min(first.Lo, t.Lo), min(first.Hi, t.Hi)
	}
	return first
}

// reached returns what is known of after how many minutes each spot is reached in a minute of the day.
func reached(r api.Rescue, minute int) []api.Span {
	list := slices.Repeat([]api.Span{soonest()}, r.Spots)
	for _, p := range r.Posts {
		if !manned(p, minute) {
			continue
		}
		for spot, time := range times(r, p) {
			list[spot] = soonest(list[spot], time)
		}
	}
	return list
}
