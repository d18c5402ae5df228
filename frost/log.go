package frost

import (
	"strconv"
	"strings"

	"sastrugi/api"
	"sastrugi/rows"
)

// digits is how many digits a number of a log has at most.
const digits = 6

// The words of a log.
const (
	wordDay   = "day"
	wordClear = "clear"
	wordSnow  = "snow"
)

// Write returns the log of days.
func Write(days []api.Weather) (string, api.Errno) {
	if e := checkDays(days); e != api.OK {
		return "", e
	}
	var text strings.Builder
	for _, d := range days {
		text.WriteString(rows.Line(words(d)))
	}
	return text.String(), api.OK
}

// words returns the row of a day.
func words(d api.Weather) []string {
	list := []string{wordDay}
	for _, n := range [...]int{d.Cold.Lo, d.Cold.Hi, d.Fall.Lo, d.Fall.Hi, d.Water} {
		list = append(list, strconv.Itoa(n))
	}
	if d.Clear {
		return append(list, wordClear)
	}
	return append(list, wordSnow)
}

// Read returns the days of a log; with ErrForm the number of the first row (from 1 on) that is not as it has to be.
func Read(text string) (days []api.Weather, row int, e api.Errno) {
	if len(text) > api.MaxDaily {
		return nil, 0, api.ErrLong
	}
	row = rows.Each(text, func(list []string) bool {
		d, ok := weather(list)
		days = append(days, d)
		return ok
	})
	if row > 0 {
		return nil, row, api.ErrForm
	}
	if e := checkDays(days); e != api.OK {
		return nil, 0, e
	}
	return days, 0, api.OK
}

// weather reads the row of a day.
func weather(list []string) (api.Weather, bool) {
	var n [5]int
	if len(list) != len(n)+2 || list[0] != wordDay {
		return api.Weather{}, false
	}
	for i := range n {
		var ok bool
		if n[i], ok = rows.Integer(list[i+1], digits); !ok {
			return api.Weather{}, false
		}
	}
	sky := list[len(n)+1]
	return api.Weather{
		Cold:  api.Span{Lo: n[0], Hi: n[1]},
		Fall:  api.Span{Lo: n[2], Hi: n[3]},
		Water: n[4],
		Clear: sky == wordClear,
	}, sky == wordClear || sky == wordSnow
}
