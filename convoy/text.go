package convoy

import (
	"strings"

	"sastrugi/api"
	"sastrugi/rows"
)

// digits is how many digits a number of a timetable has at most.
const digits = 9

// The words of a timetable.
const (
	wordRoad  = "road"
	wordTruck = "truck"
	wordHold  = "hold"
	wordUp    = "up"
	wordDown  = "down"
)

// Write returns the timetable of a convoy. (With as many trucks and holds as there may be it has less than 4,000 bytes, so it is never longer than MaxTimetable.)
func Write(c api.Convoy) (string, api.Errno) {
	if e := Check(c); e != api.OK {
		return "", e
	}
	var text strings.Builder
	text.WriteString(rows.Write(wordRoad, c.Length, c.Gap, c.Fails))
	for _, x := range c.Trucks {
		text.WriteString(rows.Write(wordTruck+" "+wayWord(x.Way), x.Start, x.Pace.Lo, x.Pace.Hi))
		for _, h := range x.Holds {
			text.WriteString(rows.Write(wordHold, h.At, h.Until))
		}
	}
	return text.String(), api.OK
}

// wayWord returns the word for the way of a truck.
func wayWord(way int) string {
	if way == api.WayDown {
		return wordDown
	}
	return wordUp
}

// Read returns the convoy of a timetable; with ErrForm the number of the first row (from 1 on) that is not as it has to be.
func Read(text string) (c api.Convoy, row int, e api.Errno) {
	if len(text) > api.MaxTimetable {
		return api.Convoy{}, 0, api.ErrLong
	}
	row = rows.Headed(text,
		func(words []string) bool { return rows.Read(words, wordRoad, digits, &c.Length, &c.Gap, &c.Fails) },
		func(words []string) bool { return readTruck(&c, words) || readHold(&c, words) },
	)
	if row > 0 {
		return api.Convoy{}, row, api.ErrForm
	}
	if e := Check(c); e != api.OK {
		return api.Convoy{}, 0, e
	}
	return c, 0, api.OK
}

// readTruck reads the row of a truck, which becomes the last one of a convoy, and tells whether it is one.
func readTruck(c *api.Convoy, words []string) bool {
	if words[0] != wordTruck {
		return false
	}
	for _, way := range [...]int{api.WayUp, api.WayDown} {
		x := api.Truck{Way: way}
		if rows.Read(words[1:], wayWord(way), digits, &x.Start, &x.Pace.Lo, &x.Pace.Hi) {
			c.Trucks = append(c.Trucks, x)
			return true
		}
	}
	return false
}

// readHold reads the row of a hold of the last truck of a convoy, and tells whether it is one.
func readHold(c *api.Convoy, words []string) bool {
	var h api.Hold
	if len(c.Trucks) == 0 || !rows.Read(words, wordHold, digits, &h.At, &h.Until) {
		return false
	}
	last := &c.Trucks[len(c.Trucks)-1]
	last.Holds = append(last.Holds, h)
	return true
}
