package convoy

import "sastrugi/api"

// whoFails is which of two trucks fail: neither, the first one alone, the second one alone, both.
var whoFails = [...][2]int{{told, told}, {failed, told}, {told, failed}, {failed, failed}}

// rule says how far apart trucks on the lane have to be, and how many of them fail at most.
type rule struct{ gap, fails int }

func ruleOf(c api.Convoy) rule { return rule{c.Gap, c.Fails} }

// near tells whether two trucks on the lane may be too near each other of which the one may be anywhere in x, and the other one in y.
func (r rule) near(x, y api.Span) bool {
	return !none(x) && !none(y) && x.Lo-y.Hi < r.gap && y.Lo-x.Hi < r.gap
}

// first returns the first meeting of trucks, and whether there is one.
func (r rule) first(trucks []paths) (api.Meeting, bool) {
	now := make([][2]api.Span, len(trucks))
	for minute := range latest(trucks) {
		for i, x := range trucks {
			for does, p := range x {
				now[i][does] = p.at(minute).lane
			}
		}
		if m, met := r.firstNow(now); met {
			m.Minute = minute
			return m, true
		}
	}
	return api.Meeting{}, false
}

// firstNow returns the first meeting of a minute, and whether there is one. Each truck may be on the lane in one of two spans: if it does what it is told, and if it fails.
func (r rule) firstNow(now [][2]api.Span) (api.Meeting, bool) {
	for i, x := range now {
		for j := i + 1; j < len(now); j++ {
			if m, met := r.meet(x, now[j]); met {
				m.First, m.Second = i, j
				return m, true
			}
		}
	}
	return api.Meeting{}, false
}

// meet returns the first meeting of two trucks in a minute, and whether there is one.
func (r rule) meet(x, y [2]api.Span) (api.Meeting, bool) {
	for _, who := range whoFails {
		a, b := x[who[0]], y[who[1]]
		if who[0]+who[1] > r.fails || !r.near(a, b) {
			continue
		}
		at := max(a.Lo, b.Lo-r.gap+1)
		return api.Meeting{
			FirstFails:  who[0] == failed,
			SecondFails: who[1] == failed,
			At:          at,
			Other:       max(b.Lo, at-r.gap+1),
		}, true
	}
	return api.Meeting{}, false
}
