package bear_test

import (
	"math/rand"
	"slices"

	"sastrugi/api"
)

func span(low, high int) api.Span { return api.Span{Lo: low, Hi: high} }

func one(n int) api.Span { return span(n, n) }

// plate is the plate P of the chapter's examples: it surely bears 4 / 100 kilograms times the square of the thickness, and at most 5 / 100.
func plate() api.Plate {
	return api.Plate{
		Strength: span(40000, 50000),
		Shares:   []api.Share{{From: 0, Part: 1000000}, {From: 20, Part: 500000}, {From: 100, Part: 0}},
		Creep:    []api.Share{{From: 0, Part: 1000000}, {From: 60, Part: 640000}, {From: 600, Part: 250000}},
		Near:     5,
		Edge:     500000,
		Gravity:  98,
		Low:      640000,
		High:     1440000,
		Shore:    50,
		Wider:    250000,
	}
}

// table returns a table with so many entries.
func table(n int) []api.Share {
	list := []api.Share{{Part: 1000000}}
	for i := 1; i < n; i++ {
		list = append(list, api.Share{From: i, Part: 1000000 - i})
	}
	return list[:n]
}

// ice returns ice of so many places with one thickness.
func ice(places, thick int) []api.Span { return slices.Repeat([]api.Span{one(thick)}, places) }

// moving returns loads of one weight that move at some metres.
func moving(weight api.Span, at ...int) []api.Load {
	var list []api.Load
	for _, m := range at {
		list = append(list, api.Load{At: m, Weight: weight})
	}
	return list
}

func standing(weight, minutes int) []api.Load {
	return []api.Load{{At: 50, Weight: one(weight), Stands: minutes}}
}

// row is a row of trucks with a gap.
func row(weights []api.Span, gap int) []api.Load {
	var list []api.Load
	for i, w := range weights {
		list = append(list, api.Load{At: gap * i, Weight: w})
	}
	return list
}

// some returns a span of at most so many numbers within others.
func some(r *rand.Rand, low, high, wide int) api.Span {
	a := low + r.Intn(high-low+1)
	return span(a, min(high, a+r.Intn(wide)))
}

// inside returns a span within another one.
func inside(r *rand.Rand, s api.Span) api.Span {
	a := s.Lo + r.Intn(s.Hi-s.Lo+1)
	return span(a, a+r.Intn(s.Hi-a+1))
}

func insideAll(r *rand.Rand, list []api.Span) []api.Span {
	list = slices.Clone(list)
	for i, s := range list {
		list[i] = inside(r, s)
	}
	return list
}

// someTable returns a table with entries up to some number; its last part is 0 now and then.
func someTable(r *rand.Rand, most int) []api.Share {
	list := []api.Share{{Part: api.Mil}}
	for from := 1 + r.Intn(most/2); from <= most && len(list) < 5; from += 1 + r.Intn(most/2) {
		part := list[len(list)-1].Part
		list = append(list, api.Share{From: from, Part: part - r.Intn(part/2+1)})
	}
	if len(list) > 1 && r.Intn(2) == 0 {
		list[len(list)-1].Part = 0
	}
	return list
}

// somePlate returns a plate whose tables have parts up to 60 metres and 60 minutes.
func somePlate(r *rand.Rand) api.Plate {
	p := plate()
	p.Strength = some(r, 30000, 60000, 3)
	if r.Intn(2) == 0 {
		p.Strength.Hi += r.Intn(9000)
	}
	p.Shares, p.Creep = someTable(r, 60), someTable(r, 60)
	p.Near, p.Edge = r.Intn(9), r.Intn(api.Mil+1)
	return p
}

// scene is what Holds is asked.
type scene struct {
	p           api.Plate
	ice, cracks []api.Span
	loads       []api.Load
}

// someScene returns a scene in which few things are not known: all that may truly be can be gone through.
func someScene(r *rand.Rand) scene {
	s := scene{p: somePlate(r)}
	s.p.Strength.Hi = min(s.p.Strength.Hi, s.p.Strength.Lo+r.Intn(4))
	for range 1 + r.Intn(2) {
		s.ice = append(s.ice, some(r, 30, 70, 6))
	}
	for range r.Intn(3) {
		s.cracks = append(s.cracks, some(r, 0, 100*len(s.ice), 7))
	}
	for range 1 + r.Intn(3) {
		s.loads = append(s.loads, someLoad(r, s))
	}
	return s
}

// someLoad returns a load on the ice of a scene, often not far from a crack.
func someLoad(r *rand.Rand, s scene) api.Load {
	last := 100*len(s.ice) - 1
	x := api.Load{At: r.Intn(last + 1), Weight: some(r, 0, 100, 9), Stands: r.Intn(2) * r.Intn(70)}
	if len(s.cracks) > 0 && r.Intn(2) == 0 {
		x.At = max(0, min(s.cracks[0].Lo+r.Intn(26)-10, last))
	}
	return x
}

// true numbers of a scene.
type truth struct {
	strength             int
	ice, cracks, weights []int
}

// truths goes through all that may truly be of a scene.
func (s scene) truths(each func(truth)) {
	known := append([]api.Span{s.p.Strength}, s.ice...)
	known = append(known, s.cracks...)
	for _, x := range s.loads {
		known = append(known, x.Weight)
	}
	now := make([]int, len(known))
	for i, k := range known {
		now[i] = k.Lo
	}
	loads := 1 + len(s.ice) + len(s.cracks)
	for i := 0; i < len(now); {
		if i == 0 {
			each(truth{now[0], now[1 : 1+len(s.ice)], now[1+len(s.ice) : loads], now[loads:]})
		}
		if now[i] < known[i].Hi {
			now[i]++
			i = 0
		} else {
			now[i] = known[i].Lo
			i++
		}
	}
}

func apart(a, b int) int { return max(a-b, b-a) }

// partFor is the part of a table for a number.
func partFor(table []api.Share, n int) int {
	for _, s := range slices.Backward(table) {
		if s.From <= n {
			return s.Part
		}
	}
	panic("a table begins at 0")
}

// bears tells whether the ice truly bears a load, word by word as the document has it.
func (s scene) bears(t truth, load int) bool {
	x := s.loads[load]
	h := t.ice[x.At/100]
	if slices.ContainsFunc(t.cracks, func(c int) bool { return apart(c, x.At) <= s.p.Near }) {
		h = h * s.p.Edge / 1000000
	}
	burden := 0
	for i, y := range s.loads {
		burden += t.weights[i] * partFor(s.p.Shares, apart(x.At, y.At))
	}
	return burden*1000000 <= t.strength*h*h*partFor(s.p.Creep, x.Stands)
}

// critical tells whether a speed is critical at a depth, word by word as the document has it.
func critical(p api.Plate, depth, shore, v int) bool {
	low, high := p.Low, p.High
	if shore < p.Shore {
		low = low * (1000000 - p.Wider) / 1000000
		high = (high*(1000000+p.Wider) + 999999) / 1000000
	}
	return low*p.Gravity*depth <= v*v*1000000 && v*v*1000000 <= high*p.Gravity*depth
}

// someWaves returns a plate with waves that are critical here and there.
func someWaves(r *rand.Rand) api.Plate {
	p := plate()
	p.Gravity = 1 + r.Intn([...]int{3, 100, 1000}[r.Intn(3)])
	p.Low = 1 + r.Intn([...]int{3, 1000000, 4000000}[r.Intn(3)])
	p.High = min(p.Low+r.Intn([...]int{1, 100000, 4000000}[r.Intn(3)]), api.MaxBand)
	p.Shore, p.Wider = r.Intn(100), [...]int{0, r.Intn(api.Mil), api.Mil}[r.Intn(3)]
	return p
}

// someDepth returns depths, shallow ones more often.
func someDepth(r *rand.Rand) api.Span {
	return some(r, 0, [...]int{3, 60, 10000}[r.Intn(3)], [...]int{1, 9, 300}[r.Intn(3)])
}
