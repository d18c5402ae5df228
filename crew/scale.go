package crew

import "sastrugi/api"

// weight returns the least span that has all true weights that a scale may show as a reading. (A greater weight is shown as no less, so the ends are where the reading is the greatest one, and the least one, that may be shown.)
func weight(s api.Scale, reading int) api.Span {
	least, most := api.Mil-s.Part, api.Mil+s.Part // what a million kilograms are shown as, apart from the zero
	light, heavy := max(reading-s.Zero, 0)*api.Mil, (reading+s.Zero)*api.Mil
	return api.Span{Lo: (light + most - 1) / most, Hi: heavy / least}
}

// truck is between which numbers the weight of the heaviest axle of a truck is, and that of all of them together.
type truck struct{ axle, total api.Span }

// truckOf returns the truck of which the axles have these readings.
func truckOf(s api.Scale, readings []int) truck {
	var t truck
	for _, reading := range readings {
		w := weight(s, reading)
		t.axle = api.Span{Lo: max(t.axle.Lo, w.Lo), Hi: max(t.axle.Hi, w.Hi)}
		t.total = api.Span{Lo: t.total.Lo + w.Lo, Hi: t.total.Hi + w.Hi}
	}
	return t
}

// verdict returns the verdict on whether a truck weighs no more than is allowed.
func (t truck) verdict(a api.Allow) int {
	switch {
	case t.axle.Hi <= a.Axle && t.total.Hi <= a.Total:
		return api.Sure
	case t.axle.Lo > a.Axle || t.total.Lo > a.Total:
		return api.Never
	}
	return api.Open
}
