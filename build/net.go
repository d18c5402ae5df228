package build

import (
	"cmp"
	"iter"
	"slices"

	"sastrugi/api"
)

// net is a net of which some legs may be used: those with a verdict for which usable is true.
type net struct {
	api.Net
	usable func(verdict int) bool
}

// from hands out the legs that may be used from a node, and the nodes to which they lead.
func (n net) from(node int) iter.Seq2[int, int] {
	return func(yield func(leg, there int) bool) {
		for i, x := range n.Legs {
			if !n.usable(x.Open) {
				continue
			}
			if x.A == node && !yield(i, x.B) || x.B == node && !yield(i, x.A) {
				return
			}
		}
	}
}

// distance is how far a node is from another one: how long the best path is, and how many legs it has.
type distance struct{ long, legs int }

// nowhere is longer than each path.
const nowhere = api.MaxNodes * api.MaxLong

// behind returns the distance with one more leg.
func (d distance) behind(x api.Leg) distance { return distance{d.long + x.Long, d.legs + 1} }

// less tells whether a distance is shorter than another one, or as short with fewer legs.
func (d distance) less(other distance) bool {
	return cmp.Or(cmp.Compare(d.long, other.long), cmp.Compare(d.legs, other.legs)) < 0
}

// distances returns how far each node is from one of them; nowhere if no path leads there.
func (n net) distances(to int) []distance {
	list := slices.Repeat([]distance{{long: nowhere}}, n.Nodes)
	list[to] = distance{}
	// A best path has each node once, so that after as many rounds as nodes there is no better one.
	for range n.Nodes {
		for node := range list {
			for i, there := range n.from(node) {
				if d := list[node].behind(n.Legs[i]); d.less(list[there]) {
					list[there] = d
				}
			}
		}
	}
	return list
}

// shortest returns the best path from a node to another one, and its length; -1 if there is none.
func (n net) shortest(from, to int) (path []int, long int) {
	far := n.distances(to)
	if far[from].long == nowhere {
		return nil, -1
	}
	for here := from; here != to; {
		i, there := n.next(far, here)
		path = append(path, i)
		here = there
	}
	return path, far[from].long
}

// next returns the first leg with which a best path may go on from a node, and the node to which it leads. (There always is one, but for the node to which all are so far.)
func (n net) next(far []distance, here int) (leg, there int) {
	for i, there := range n.from(here) {
		if far[there].behind(n.Legs[i]) == far[here] {
			return i, there
		}
	}
	return 0, here
}

// groups says of each node in which group of nodes it is that are joined.
type groups map[int]int

// join makes one group of those of two nodes, and tells whether there were two.
func (g groups) join(a, b int) bool {
	into, from := g[a], g[b]
	if into == from {
		return false
	}
	for node, group := range g {
		if group == from {
			g[node] = into
		}
	}
	return true
}

// cheapest returns the legs that join as many nodes as can be with the least cost, ascending.
func (n net) cheapest() []int {
	joined := groups{}
	for node := range n.Nodes {
		joined[node] = node
	}
	var legs []int
	for _, i := range n.byCost() {
		if x := n.Legs[i]; n.usable(x.Open) && joined.join(x.A, x.B) {
			legs = append(legs, i)
		}
	}
	slices.Sort(legs)
	return legs
}

// byCost returns the numbers of all legs by their cost, then by their number.
func (n net) byCost() []int {
	var list []int
	for i := range n.Legs {
		list = append(list, i)
	}
	slices.SortStableFunc(list, func(i, k int) int { return cmp.Compare(n.Legs[i].Cost, n.Legs[k].Cost) })
	return list
}
