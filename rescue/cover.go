package rescue

import (
	"math/bits"

	"sastrugi/api"
)

// lives returns what is known of for how many minutes one lives at each spot.
func lives(r api.Rescue) []api.Span {
	var list []api.Span
	for _, w := range r.Water {
		list = append(list, api.Span{Lo: livesIn(r.Chills, w.Lo).Lo, Hi: livesIn(r.Chills, w.Hi).Hi})
	}
	return list
}

// livesIn returns for how many minutes one lives in water that is so warm.
func livesIn(chills []api.Chill, warm int) api.Span {
	var last api.Span
	for _, c := range chills {
		if c.Warm <= warm {
			last = c.Minutes
		}
	}
	return last
}

// inTime returns the verdict on whether one is reached in time, by what is known of the time to the spot, and of the minutes for which one lives there.
func inTime(time, life api.Span) int {
	switch {
	case time.Hi <= life.Lo:
		return api.Sure
	case time.Lo > life.Hi:
		return api.Never
	}
	return api.Open
}

// spotSet is a set of spots, with a bit for each.
type spotSet uint64

func (s spotSet) has(spot int) bool { return s>>spot&1 == 1 }

// count returns how many spots there are.
func (s spotSet) count() int { return bits.OnesCount64(uint64(s)) }

// saves returns the spots at which one surely is reached in time by a post, if it is manned.
func saves(r api.Rescue, p api.Post) spotSet {
	var set spotSet
	life := lives(r)
	for spot, time := range times(r, p) {
		if inTime(time, life[spot]) == api.Sure {
			set |= 1 << spot
		}
	}
	return set
}

// savingPosts returns the posts by which one surely is reached in time at a spot, if they are manned.
func savingPosts(r api.Rescue, spot int) []api.Post {
	var list []api.Post
	for _, p := range r.Posts {
		if saves(r, p).has(spot) {
			list = append(list, p)
		}
	}
	return list
}

// gaps returns the minutes of the day in which none of some posts is manned, as spans as long as can be.
func gaps(posts []api.Post) []api.Span {
	var list []api.Span
minutes:
	for minute := range api.MaxDay {
		for _, p := range posts {
			if manned(p, minute) {
				continue minutes
			}
		}
		if last := len(list) - 1; last >= 0 && list[last].Hi == minute-1 {
			list[last].Hi = minute
		} else {
			list = append(list, api.Span{Lo: minute, Hi: minute})
		}
	}
	return list
}
