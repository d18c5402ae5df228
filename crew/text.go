package crew

import (
	"strings"

	"sastrugi/api"
	"sastrugi/rows"
)

// digits is how many digits a number of a book has at most.
const digits = 6

// The words of a book.
const (
	wordDriver = "driver"
	wordTurn   = "turn"
	wordEnd    = "end"
)

// Write returns the book of drivers.
func Write(l []api.Driver) (string, api.Errno) {
	if e := checkDrivers(l); e != api.OK {
		return "", e
	}
	var text strings.Builder
	turns := 0
	for _, d := range l {
		text.WriteString(rows.Write(wordDriver+" "+d.Name, d.Skills))
		for _, t := range d.Turns {
			text.WriteString(rows.Write(wordTurn, t.From.Lo, t.From.Hi, t.To.Lo, t.To.Hi))
		}
		turns += len(d.Turns)
	}
	text.WriteString(rows.Write(wordEnd, turns))
	return text.String(), api.OK
}

// Read returns the drivers of a book; with ErrForm, and with ErrClash of the row end, the number of the row (from 1 on) that is not as it has to be, or 0 if only a driver is not.
func Read(text string) (l []api.Driver, row int, e api.Errno) {
	if len(text) > api.MaxBook {
		return nil, 0, api.ErrLong
	}
	var b book
	if row := rows.Each(text, b.take); row > 0 {
		return nil, row, api.ErrForm
	}
	if !b.ended {
		return nil, b.rows + 1, api.ErrForm
	}
	if b.told != b.turns {
		return nil, b.rows, api.ErrClash
	}
	if e := checkDrivers(b.drivers); e != api.OK {
		return nil, 0, e
	}
	return b.drivers, 0, api.OK
}

// book is what is read of a book up to some row.
type book struct {
	drivers []api.Driver
	rows    int  // how many rows there were,
	turns   int  // and how many of them turns
	ended   bool // whether one was the row end,
	told    int  // and how many turns it tells of
}

// take reads a row, and tells whether it is one that may be there.
func (b *book) take(words []string) bool {
	kinds := map[string]func(b *book, words []string) bool{
		wordDriver: (*book).takeDriver,
		wordTurn:   (*book).takeTurn,
		wordEnd:    (*book).takeEnd,
	}
	b.rows++
	kind, known := kinds[words[0]]
	return known && !b.ended && kind(b, words)
}

// takeDriver reads the row of a driver, which becomes the last one.
func (b *book) takeDriver(words []string) bool {
	if len(words) != 3 || words[1] == "" {
		return false
	}
	skills, ok := rows.Natural(words[2], digits)
	b.drivers = append(b.drivers, api.Driver{Name: words[1], Skills: skills})
	return ok
}

// takeTurn reads the row of a turn of the last driver.
func (b *book) takeTurn(words []string) bool {
	var t api.Turn
	if len(b.drivers) == 0 || !rows.Read(words, wordTurn, digits, &t.From.Lo, &t.From.Hi, &t.To.Lo, &t.To.Hi) {
		return false
	}
	last := &b.drivers[len(b.drivers)-1]
	last.Turns = append(last.Turns, t)
	b.turns++
	return true
}

// takeEnd reads the row that ends a book.
func (b *book) takeEnd(words []string) bool {
	b.ended = true
	return rows.Read(words, wordEnd, digits, &b.told)
}
