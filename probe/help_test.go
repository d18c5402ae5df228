package probe_test

import (
	"math/rand"
	"slices"

	"sastrugi/api"
)

func span(low, high int) api.Span { return api.Span{Lo: low, Hi: high} }

// survey is the survey S of the chapter's examples: five places.
func survey() api.Survey {
	return api.Survey{
		Reaches: []api.Reach{
			{Long: 3, Slope: 10, Thin: 2, Grow: 1, Every: 24},
			{Long: 2, Slope: 50, Thin: 5, Grow: 0, Every: 12},
		},
		Sight: [3]int{0, 1, 2},
	}
}

// flat is a road of one reach.
func flat(long int) api.Survey {
	return api.Survey{Reaches: []api.Reach{{Long: long}}, Sight: [3]int{0, 1, 2}}
}

func core(at, hour, low, high int) api.Look {
	return api.Look{Kind: api.LookCore, At: at, Hour: hour, Value: span(low, high)}
}

func radar(at, hour, low, high int) api.Look {
	return api.Look{Kind: api.LookRadar, At: at, Hour: hour, Value: span(low, high)}
}

// looks are the looks L of the chapter's examples.
func looks() []api.Look { return []api.Look{core(0, 10, 500, 500)} }

func mark(kind, from, to, hour, speed int) api.Mark {
	return api.Mark{Kind: kind, From: from, To: to, Hour: hour, Speed: speed}
}

func crack(from, to, hour, speed int) api.Mark { return mark(api.MarkCrack, from, to, hour, speed) }

func mend(from, to, hour int) api.Mark { return mark(api.MarkMend, from, to, hour, 0) }

// reaches returns the reach of each place.
func reaches(s api.Survey) []api.Reach {
	var list []api.Reach
	for _, r := range s.Reaches {
		list = append(list, slices.Repeat([]api.Reach{r}, r.Long)...)
	}
	return list
}

// within tells whether s lies within t.
func within(s, t api.Span) bool { return t.Lo <= s.Lo && s.Hi <= t.Hi }

// someSurvey returns a short road.
func someSurvey(r *rand.Rand) api.Survey {
	s := api.Survey{Sight: [3]int{r.Intn(2), r.Intn(3), r.Intn(4)}}
	for range 1 + r.Intn(4) {
		s.Reaches = append(s.Reaches, api.Reach{Long: 1 + r.Intn(3), Slope: r.Intn(12), Thin: r.Intn(8), Grow: r.Intn(8), Every: r.Intn(8)})
	}
	return s
}

// hours is how many hours the looks and marks of the tests have.
const hours = 10

// someLooks returns looks at ice that is thin, thick, or between; they may clash.
func someLooks(r *rand.Rand, s api.Survey, n int) []api.Look {
	base := [...]int{0, 5, 1000, api.MaxIce - 60}[r.Intn(4)]
	var l []api.Look
	for range n {
		low := base + r.Intn(40)
		l = append(l, api.Look{Kind: 1 + r.Intn(3), At: r.Intn(len(reaches(s))), Hour: r.Intn(hours), Value: span(low, min(low+r.Intn(20), api.MaxIce))})
	}
	return l
}

// someMarks returns marks of which half are mends.
func someMarks(r *rand.Rand, s api.Survey, n int) []api.Mark {
	var m []api.Mark
	for range n {
		from := r.Intn(len(reaches(s)))
		x := mark(1+r.Intn(3), from, from+r.Intn(len(reaches(s))-from), r.Intn(hours), r.Intn(3))
		if r.Intn(2) == 0 {
			x.Kind = api.MarkMend
		}
		m = append(m, x)
	}
	return m
}

// upTo are the looks up to an hour.
func upTo(l []api.Look, hour int) []api.Look {
	return slices.DeleteFunc(slices.Clone(l), func(x api.Look) bool { return x.Hour > hour })
}

// grid is what is known at each place in each of the hours, by going from each place to those beside it, and from each hour to the next one and the last one, until nothing changes.
type grid [hours][]api.Span

// known returns the grid of looks, and whether a course fits them.
func known(s api.Survey, l []api.Look) (g grid, fits bool) {
	of := reaches(s)
	for h := range g {
		g[h] = slices.Repeat([]api.Span{span(0, api.MaxIce)}, len(of))
	}
	for _, x := range l {
		narrow(&g[x.Hour][x.At], x.Value, 0, 0)
	}
	for changed := true; changed; {
		changed = false
		for h := range g {
			for p := range of {
				was := g[h][p]
				g.look(of, h, p)
				changed = changed || g[h][p] != was
				if g[h][p].Lo > g[h][p].Hi {
					return g, false
				}
			}
		}
	}
	return g, true
}

// look bounds a place in an hour by what is beside it.
func (g *grid) look(of []api.Reach, h, p int) {
	here := &g[h][p]
	if p > 0 {
		narrow(here, g[h][p-1], of[p-1].Slope, of[p-1].Slope)
	}
	if p+1 < len(of) {
		narrow(here, g[h][p+1], of[p].Slope, of[p].Slope)
	}
	if h > 0 {
		narrow(here, g[h-1][p], of[p].Thin, of[p].Grow)
	}
	if h+1 < hours {
		narrow(here, g[h+1][p], of[p].Grow, of[p].Thin)
	}
}

// narrow bounds s by numbers of t that become so much less or more.
func narrow(s *api.Span, t api.Span, less, more int) {
	*s = span(max(s.Lo, t.Lo-less), min(s.Hi, t.Hi+more))
}

// covered goes hour by hour through what marks cover, word by word as the document has it: for each place the verdict.
func covered(s api.Survey, m []api.Mark, hour int) []int {
	list := slices.Repeat([]int{api.Never}, len(reaches(s)))
	for i, x := range m {
		if x.Kind == api.MarkMend || x.Hour > hour {
			continue
		}
		may, sure := covers(m, i, len(list), hour)
		for p := range list {
			if sure[p] {
				list[p] = api.Sure
			} else if may[p] && list[p] == api.Never {
				list[p] = api.Open
			}
		}
	}
	return list
}

// covers returns the places that a mark of a list may cover in an hour, and those that it surely covers.
func covers(m []api.Mark, mark, long, hour int) (may, sure []bool) {
	x := m[mark]
	may, sure = make([]bool, long), make([]bool, long)
	for p := x.From; p <= x.To; p++ {
		may[p], sure[p] = true, true
	}
	for h := x.Hour; h <= hour; h++ {
		if h > x.Hour {
			was := slices.Clone(may)
			for p := range was {
				for q := max(0, p-x.Speed); was[p] && q <= min(long-1, p+x.Speed); q++ {
					may[q] = true
				}
			}
		}
		for j, y := range m {
			if y.Kind == api.MarkMend && y.Hour == h && (h > x.Hour || j > mark) {
				for p := y.From; p <= y.To; p++ {
					may[p], sure[p] = false, false
				}
			}
		}
	}
	return may, sure
}

// stale returns for each place whether it is stale in an hour, look by look.
func stale(s api.Survey, l []api.Look, hour int) []bool {
	var list []bool
	for p, r := range reaches(s) {
		list = append(list, !slices.ContainsFunc(l, func(x api.Look) bool {
			far := s.Sight[x.Kind-1]
			return x.At-far <= p && p <= x.At+far && hour-r.Every <= x.Hour && x.Hour <= hour
		}))
	}
	return list
}

// groups returns the first and the last place of each group of places with equal values one behind the other.
func groups[T comparable](list []T) []api.Span {
	var all []api.Span
	for p := range list {
		if p > 0 && list[p] == list[p-1] {
			all[len(all)-1].Hi = p
		} else {
			all = append(all, span(p, p))
		}
	}
	return all
}
