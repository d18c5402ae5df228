package rows

import (
	"slices"
	"strings"
	"testing"
)

func TestEachHandsOutRowsUntilOneIsWrong(t *testing.T) {
	for _, c := range []struct {
		text string
		row  int
		took string
	}{
		{"", 0, ""},
		{"a b\nc\n", 0, "a,b|c|"},
		{"a b\nc", 2, "a,b|"},
		{"a\nbad\nc\n", 2, "a|bad|"},
		{"\n", 0, "|"},
		{"a  b\n b \n", 0, "a,,b|,b,|"},
		{"bad", 1, ""},
	} {
		took := ""
		row := Each(c.text, func(words []string) bool {
			took += strings.Join(words, ",") + "|"
			return !slices.Contains(words, "bad")
		})
		if row != c.row || took != c.took {
			t.Errorf("Each(%q) = %d, took %q, want %d, %q", c.text, row, took, c.row, c.took)
		}
	}
}

func TestHeadedHandsTheFirstRowToHead(t *testing.T) {
	for _, c := range []struct {
		text string
		row  int
		took string
	}{
		{"", 1, ""},
		{"a", 1, ""},
		{"a b\n", 0, "head a,b|"},
		{"a b\nc\nd e\n", 0, "head a,b|c|d,e|"},
		{"bad\nc\n", 1, "head bad|"},
		{"a\nbad\nc\n", 2, "head a|bad|"},
		{"a\nc\n\nd", 4, "head a|c||"},
	} {
		took := ""
		take := func(words []string) bool {
			took += strings.Join(words, ",") + "|"
			return !slices.Contains(words, "bad")
		}
		row := Headed(c.text, func(words []string) bool {
			took += "head "
			return take(words)
		}, take)
		if row != c.row || took != c.took {
			t.Errorf("Headed(%q) = %d, took %q, want %d, %q", c.text, row, took, c.row, c.took)
		}
	}
}

func TestLineIsWhatEachReads(t *testing.T) {
	text := Line([]string{"day", "1"}) + Line([]string{"x"})
	if text != "day 1\nx\n" {
		t.Errorf("%q", text)
	}
}

func TestRowsOfANameAndNumbers(t *testing.T) {
	if row := Write("echo", 1, -20, 0); row != "echo 1 -20 0\n" {
		t.Errorf("%q", row)
	}
	if row := Write("end"); row != "end\n" {
		t.Errorf("%q", row)
	}
	for _, c := range []struct {
		row string
		ok  bool
	}{
		{"echo 1 20", true},
		{"echo 0 99", true},
		{"echo 1", false},
		{"echo 1 2 3", false},
		{"radar 1 20", false},
		{"echo 1 02", false},
		{"echo 1 -2", false},
		{"echo 100 2", false},
		{"echo 1 ", false},
		{"", false},
	} {
		var a, b int
		words := strings.Split(c.row, " ")
		if ok := Read(words, "echo", 2, &a, &b); ok != c.ok || ok && Write("echo", a, b) != c.row+"\n" {
			t.Errorf("Read(%q) = %v: %d %d", c.row, ok, a, b)
		}
	}
	if !Read([]string{"end"}, "end", 2) || Read(nil, "end", 2) {
		t.Error("a row without numbers is read wrongly")
	}
}

func TestNumbers(t *testing.T) {
	for _, c := range []struct {
		word             string
		n                int
		natural, integer bool
	}{
		{"0", 0, true, true},
		{"7", 7, true, true},
		{"123456", 123456, true, true},
		{"-123456", -123456, false, true},
		{"-1", -1, false, true},
		{"1234567", 0, false, false},
		{"-1234567", 0, false, false},
		{"", 0, false, false},
		{"-", 0, false, false},
		{"-0", 0, false, false},
		{"00", 0, false, false},
		{"01", 0, false, false},
		{"-01", 0, false, false},
		{"--1", 0, false, false},
		{"+1", 0, false, false},
		{"1x", 0, false, false},
		{"1/", 0, false, false},
		{"1:", 0, false, false},
		{"١", 0, false, false},
	} {
		if n, ok := Natural(c.word, 6); ok != c.natural || ok && n != c.n || !ok && n != 0 {
			t.Errorf("Natural(%q) = %d, %v", c.word, n, ok)
		}
		if n, ok := Integer(c.word, 6); ok != c.integer || ok && n != c.n || !ok && n != 0 {
			t.Errorf("Integer(%q) = %d, %v", c.word, n, ok)
		}
	}
	if n, ok := Natural("999999999999999999", 18); n != 999999999999999999 || !ok {
		t.Error(n, ok)
	}
}

func TestWordsAreThoseOfTheRow(t *testing.T) {
	for _, c := range []struct {
		name    string
		numbers []int
		want    string
	}{{"a", nil, "a"}, {"a", []int{0, -5, 12}, "a,0,-5,12"}} {
		words := Words(c.name, c.numbers...)
		if strings.Join(words, ",") != c.want || Write(c.name, c.numbers...) != Line(words) {
			t.Errorf("Words(%s, %v) = %v, want %s", c.name, c.numbers, words, c.want)
		}
	}
}
