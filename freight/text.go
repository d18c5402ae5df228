package freight

import (
	"strings"

	"sastrugi/api"
	"sastrugi/rows"
)

// digits is how many digits a number of a season file has at most.
const digits = 9

// The words of a season file.
const (
	wordSeason = "season"
	wordCap    = "cap"
	wordOrder  = "order"
)

// Write returns the season file of a freight.
func Write(f api.Freight) (string, api.Errno) {
	if e := Check(f); e != api.OK {
		return "", e
	}
	var text strings.Builder
	text.WriteString(rows.Write(wordSeason, f.First.Lo, f.First.Hi, f.Last.Lo, f.Last.Hi))
	for _, units := range f.Caps {
		text.WriteString(rows.Write(wordCap, units.Lo, units.Hi))
	}
	for _, o := range f.Orders {
		text.WriteString(rows.Write(wordOrder, o.Units, o.Due, o.Late, o.Lost))
	}
	return text.String(), api.OK
}

// Read returns the freight of a season file; with ErrForm the number of the first row (from 1 on) that is not as it has to be.
func Read(text string) (f api.Freight, row int, e api.Errno) {
	if len(text) > api.MaxSeasonText {
		return api.Freight{}, 0, api.ErrLong
	}
	season := func(words []string) bool {
		return rows.Read(words, wordSeason, digits, &f.First.Lo, &f.First.Hi, &f.Last.Lo, &f.Last.Hi)
	}
	row = rows.Headed(text, season, func(words []string) bool { return readCap(&f, words) || readOrder(&f, words) })
	if row > 0 {
		return api.Freight{}, row, api.ErrForm
	}
	if e := Check(f); e != api.OK {
		return api.Freight{}, 0, e
	}
	return f, 0, api.OK
}

// readCap reads the row of a day, which becomes the last one of a freight that has no orders yet, and tells whether it is one.
func readCap(f *api.Freight, words []string) bool {
	var units api.Span
	if len(f.Orders) > 0 || !rows.Read(words, wordCap, digits, &units.Lo, &units.Hi) {
		return false
	}
	f.Caps = append(f.Caps, units)
	return true
}

// readOrder reads the row of an order, which becomes the last one of a freight, and tells whether it is one.
func readOrder(f *api.Freight, words []string) bool {
	var o api.Order
	if !rows.Read(words, wordOrder, digits, &o.Units, &o.Due, &o.Late, &o.Lost) {
		return false
	}
	f.Orders = append(f.Orders, o)
	return true
}
