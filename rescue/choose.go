package rescue

import (
	"iter"
	"slices"

	"sastrugi/api"
	"sastrugi/choose"
)

// none stands for no post.
const none = -1

// savers are for each call the posts that save it, ascending.
type savers [][]int

// saversOf returns for each call the manned posts that save it.
func saversOf(r api.Rescue, minute int, calls []int) savers {
	list := make(savers, len(calls))
	for post, p := range r.Posts {
		if !manned(p, minute) {
			continue
		}
		saved := saves(r, p)
		for i, spot := range calls {
			if saved.has(spot) {
				list[i] = append(list[i], post)
			}
		}
	}
	return list
}

// follow hands out the posts that may go to the call behind those of a list, then none.
func (s savers) follow(list []int) iter.Seq[int] {
	return func(yield func(int) bool) {
		for _, post := range s[len(list)] {
			if !slices.Contains(list, post) && !yield(post) {
				return
			}
		}
		yield(none)
	}
}

// send returns which post goes to which call, and how many calls are saved.
func (s savers) send() (posts []int, saved int) {
	full := 0 // the calls that any post saves
	for _, of := range s {
		full += min(len(of), 1)
	}
	return choose.Best(choose.Lists(len(s), s.follow), sent, full)
}

// sent returns how many posts there are in a list.
func sent(posts []int) int {
	n := 0
	for _, post := range posts {
		if post != none {
			n++
		}
	}
	return n
}

// places are for each site the spots at which one surely is reached in time from there.
type places []spotSet

// placesOf returns the places of sites with a time to get ready.
func placesOf(r api.Rescue, sites []int, ready api.Span) places {
	var list places
	for _, spot := range sites {
		// From and To are equal: it is manned the whole day.
		list = append(list, saves(r, api.Post{Spot: spot, Ready: ready}))
	}
	return list
}

// follow hands out the places behind those of a list.
func (p places) follow(list []int) iter.Seq[int] {
	first := 0
	if len(list) > 0 {
		first = list[len(list)-1] + 1
	}
	return func(yield func(int) bool) {
		for place := first; place < len(p) && yield(place); place++ {
		}
	}
}

// covered returns at how many spots one surely is reached in time from some of the places.
func (p places) covered(list []int) int {
	var all spotSet
	for _, place := range list {
		all |= p[place]
	}
	return all.count()
}

// most returns so many places from which most of the spots are covered, and how many.
func (p places) most(many, spots int) (list []int, covered int) {
	return choose.Best(choose.Lists(many, p.follow), p.covered, spots)
}

// pick returns the sites at some places of a list.
func pick(sites, list []int) []int {
	var some []int
	for _, place := range list {
		some = append(some, sites[place])
	}
	return some
}
