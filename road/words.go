package road

import (
	"iter"
	"strconv"
	"strings"

	"sastrugi/api"
	"sastrugi/check"
	"sastrugi/rows"
)

// digits is how many digits a number of a line has at most.
const digits = 9

// The ways, as words.
const (
	wordUp   = "up"
	wordDown = "down"
)

// The verdicts, by their numbers in package api.
const (
	_ = iota // none has the number 0
	sure
	never
	open
)

// tell returns the word for a verdict.
func tell(verdict int) string {
	return [...]string{sure: "sure", never: "never", open: "open"}[verdict]
}

// why returns the word for the reason for which places are shut.
func why(reason int) string {
	return [...]string{api.ReasonThin: "thin", api.ReasonMark: "mark", api.ReasonStale: "stale"}[reason]
}

// The words for a road that has no closures, and for one that has some.
const (
	wordOpen = "open"
	wordShut = "shut"
)

// gate returns the words for a part of the road that is shut.
func gate(x api.Closure) line {
	return line{strconv.Itoa(x.From), strconv.Itoa(x.To), why(x.Reason)}
}

// wayWord returns the word for the way of a truck.
func wayWord(way int) string {
	return [...]string{api.WayUp: wordUp, api.WayDown: wordDown}[way]
}

// line is the words of a line, or of a reply.
type line []string

// read returns the words of a line. There is at least one, which may be empty.
func read(text string) line {
	var l line
	for word := range words(text) {
		l = append(l, word)
	}
	return l
}

// words hands out the words of a text, which are separated by one blank.
func words(text string) iter.Seq[string] {
	return func(yield func(string) bool) {
		rest, more := text, true
		for more {
			var word string
			word, rest, more = strings.Cut(rest, " ")
			if !yield(word) {
				return
			}
		}
	}
}

// numbers reads the words behind the first one. It returns ErrForm unless they are as many numbers as it is given.
func (l line) numbers(list ...*int) api.Errno {
	return check.Form(rows.Read(l, l[0], digits, list...))
}

// named reads the words behind the first one, which are a name and numbers. It returns ErrForm unless they are that.
func (l line) named(list ...*int) (string, api.Errno) {
	if len(l) < 2 || l[1] == "" {
		return "", api.ErrForm
	}
	return l[1], l[1:].numbers(list...)
}

// request is what a line says of a truck that wants to go on.
type request struct {
	way      int
	name     string // of the driver
	readings []int  // of the axles
}

// request reads the words behind the first one, which are a way, a name, and one reading or more. It returns ErrForm unless they are that.
func (l line) request() (request, api.Errno) {
	if len(l) < 4 || l[2] == "" {
		return request{}, api.ErrForm
	}
	way, known := map[string]int{wordUp: api.WayUp, wordDown: api.WayDown}[l[1]]
	var readings []int
	for _, word := range l[3:] {
		reading, ok := rows.Natural(word, digits)
		known = known && ok
		readings = append(readings, reading)
	}
	return request{way, l[2], readings}, check.Form(known)
}
