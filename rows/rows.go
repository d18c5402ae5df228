// Package rows reads texts that consist of rows of words, with one blank between two words and a line feed behind each row.
package rows

import (
	"strconv"
	"strings"
)

// Each hands the words of each row to take, in order, and returns the number of the first row (from 1 on) that take does not accept, or that has no line feed; 0 if there is none.
func Each(text string, take func(words []string) bool) int {
	for row := 1; text != ""; row++ {
		line, rest, ended := strings.Cut(text, "\n")
		if !ended || !take(strings.Split(line, " ")) {
			return row
		}
		text = rest
	}
	return 0
}

// Headed does what Each does for a text that has a first row of its own: head takes it, and take takes the others. If it is missing, its number, 1, is returned.
func Headed(text string, head, take func(words []string) bool) int {
	if text == "" {
		return 1
	}
	now := head
	return Each(text, func(words []string) bool {
		ok := now(words)
		now = take
		return ok
	})
}

// Line returns words as a row.
func Line(words []string) string { return strings.Join(words, " ") + "\n" }

// Words returns the words of a row that has a name and numbers.
func Words(name string, numbers ...int) []string {
	words := []string{name}
	for _, n := range numbers {
		words = append(words, strconv.Itoa(n))
	}
	return words
}

// Write returns a row that has a name and numbers.
func Write(name string, numbers ...int) string { return Line(Words(name, numbers...)) }

// Read reads the words of a row that has a name and numbers, each as Natural does, and tells whether it is one.
func Read(words []string, name string, digits int, numbers ...*int) bool {
	if len(words) != len(numbers)+1 || words[0] != name {
		return false
	}
	for i, n := range numbers {
		var ok bool
		if *n, ok = Natural(words[i+1], digits); !ok {
			return false
		}
	}
	return true
}

// Natural reads a number without a sign and without needless zeros that has at most so many digits (which must fit into an int).
func Natural(word string, digits int) (int, bool) {
	if word == "" || len(word) > digits || word[0] == '0' && word != "0" {
		return 0, false
	}
	n := 0
	for i := range len(word) {
		if word[i] < '0' || word[i] > '9' {
			return 0, false
		}
		n = 10*n + int(word[i]-'0')
	}
	return n, true
}

// Integer reads a number as Natural does, but with a - if it is below 0.
func Integer(word string, digits int) (int, bool) {
	rest, below := strings.CutPrefix(word, "-")
	n, ok := Natural(rest, digits)
	if !below {
		return n, ok
	}
	return -n, ok && n > 0
}
