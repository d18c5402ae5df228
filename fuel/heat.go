package fuel

import "sastrugi/api"

// burnt returns between which numbers of litres a camp burns on a day of some cold, whatever it truly is.
func burnt(burn []api.Burn, cold api.Span) api.Span {
	all := api.Span{Lo: api.MaxLitres}
	for i, x := range burn {
		if from, to := lasting(burn, i); from <= cold.Hi && cold.Lo <= to {
			all.Lo, all.Hi = min(all.Lo, x.Litres.Lo), max(all.Hi, x.Litres.Hi)
		}
	}
	return all
}

// lasting returns from which to which cold an entry of a burn counts: the first one below its own, too.
func lasting(burn []api.Burn, i int) (from, to int) {
	from, to = -api.MaxTenths, api.MaxTenths
	if i > 0 {
		from = burn[i].Cold
	}
	if i+1 < len(burn) {
		to = burn[i+1].Cold - 1
	}
	return from, to
}

// days returns on how many days, from the first one on, litres are enough for what is burnt.
func days(litres int, cold []api.Span, burns func(c api.Span) int) int {
	for n, c := range cold {
		litres -= burns(c)
		if litres < 0 {
			return n
		}
	}
	return len(cold)
}
