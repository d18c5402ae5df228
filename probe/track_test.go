package probe_test

import (
	"math/rand"
	"slices"
	"strings"
	"testing"

	"sastrugi/api"
	"sastrugi/probe"
)

const trackText = "radar 160 170\necho 2 9 6000 6001\necho 999 10000 0 1000000\n"

// P2.8: the text of a track.
func TestWrite(t *testing.T) {
	x := api.Track{Speed: span(160, 170), Echoes: []api.Echo{{At: 2, Hour: 9, Time: span(6000, 6001)}, {At: 999, Hour: 10000, Time: span(0, 1000000)}}}
	if text, e := probe.Write(x); text != trackText || e != api.OK {
		t.Errorf("Write = %q, %v", text, e)
	}
	if text, e := probe.Write(api.Track{Speed: span(1, 1000)}); text != "radar 1 1000\n" || e != api.OK {
		t.Errorf("Write = %q, %v", text, e)
	}
}

// P2.8: what is read, and the first row that is not as it has to be.
func TestRead(t *testing.T) {
	full := "radar 1 1\n" + strings.Repeat("echo 1 2 3 4\n", 200)
	most := "radar 1 1\n" + strings.Repeat("echo 0 0 0 0\n", 1537) + "echo 0 0 0\n" // 10 + 19981 + 11 bytes
	for i, c := range []struct {
		text string
		row  int
		e    api.Errno
	}{
		{trackText, 0, api.OK},
		{full, 0, api.OK},
		{full + "echo 1 2 3 4\n", 0, api.ErrFull},
		{"radar 1 1\n", 0, api.OK},
		{"", 1, api.ErrForm},
		{"\n", 1, api.ErrForm},
		{"radar 1 1", 1, api.ErrForm},
		{"radar 1\n", 1, api.ErrForm},
		{"radar 1 1 1\n", 1, api.ErrForm},
		{"radar 1 1 \n", 1, api.ErrForm},
		{" radar 1 1\n", 1, api.ErrForm},
		{"radar  1 1\n", 1, api.ErrForm},
		{"radar\t1 1\n", 1, api.ErrForm},
		{"radar 1 1\r\n", 1, api.ErrForm},
		{"Radar 1 1\n", 1, api.ErrForm},
		{"radar 1 01\n", 1, api.ErrForm},
		{"radar 1 -1\n", 1, api.ErrForm},
		{"radar +1 1\n", 1, api.ErrForm},
		{"radar 1 1000000000\n", 1, api.ErrForm},
		{"radar 1 999999999\n", 0, api.ErrRange},
		{"radar 0 1\n", 0, api.ErrRange},
		{"radar 2 1\n", 0, api.ErrOrder},
		{"echo 1 2 3 4\n", 1, api.ErrForm},
		{"echo 1 2\n", 1, api.ErrForm},
		{"radar 1 1\nradar 1 1\n", 2, api.ErrForm},
		{"radar 1 1\n\n", 2, api.ErrForm},
		{"radar 1 1\necho 1 2 3\n", 2, api.ErrForm},
		{"radar 1 1\necho 1 2 3 4 5\n", 2, api.ErrForm},
		{"radar 1 1\necho 1 2 3 4\n\n", 3, api.ErrForm},
		{"radar 1 1\necho 1 2 3 4", 2, api.ErrForm},
		{"radar 1 1\necho 1 2 3 4\n ", 3, api.ErrForm},
		{"radar 1 1\necho 1 2 3 1234567890\n", 2, api.ErrForm},
		{"radar 1 1\necho 1 2 3 123456789\n", 0, api.ErrRange},
		{"radar 1 1\necho 1 2 4 3\n", 0, api.ErrOrder},
		{"radar 2 1\necho 1 2 3\n", 2, api.ErrForm}, // the form comes first
		{most[:20000], 1539, api.ErrForm},
		{most[:20001], 0, api.ErrLong},
	} {
		x, row, e := probe.Read(c.text)
		if row != c.row || e != c.e || e != api.OK && (x.Speed != span(0, 0) || len(x.Echoes) > 0) {
			t.Errorf("%d: Read = %v, %d, %v, want %d, %v", i, x, row, e, c.row, c.e)
		}
	}
}

// P2.16: a track is read from its text, and what is read is written as it was.
func TestTracks(t *testing.T) {
	r := rand.New(rand.NewSource(1))
	for range 300 {
		low := 1 + r.Intn(1000)
		x := api.Track{Speed: span(low, low+r.Intn(1001-low))}
		for range r.Intn(201) {
			low := r.Intn(1000001)
			x.Echoes = append(x.Echoes, api.Echo{At: r.Intn(1000), Hour: r.Intn(10001), Time: span(low, low+r.Intn(1000001-low))})
		}
		text, e := probe.Write(x)
		if e != api.OK {
			t.Fatal(e)
		}
		y, row, e := probe.Read(text)
		if y.Speed != x.Speed || !slices.Equal(y.Echoes, x.Echoes) || row != 0 || e != api.OK {
			t.Fatalf("%v was read as %v, %d, %v", x, y, row, e)
		}
		if again, e := probe.Write(y); again != text || e != api.OK {
			t.Fatalf("%q was written as %q, %v", text, again, e)
		}
	}
}

// P2.16 for texts near to those of tracks: what is read is written as it was, or there is an error.
func TestTextsNearTracks(t *testing.T) {
	r := rand.New(rand.NewSource(2))
	const letters = "radar echo 01-9\n"
	read := 0
	for range 20000 {
		text := []byte("radar 16 170\necho 2 9 60 6001\necho 99 10 0 100\n")
		for range 1 + r.Intn(2) {
			text[r.Intn(len(text))] = letters[r.Intn(len(letters))]
		}
		x, row, e := probe.Read(string(text))
		if e != api.OK {
			if x.Speed != span(0, 0) || len(x.Echoes) > 0 || (e == api.ErrForm) != (row > 0) {
				t.Fatalf("Read(%q) = %v, %d, %v", text, x, row, e)
			}
			continue
		}
		read++
		if again, e := probe.Write(x); again != string(text) || e != api.OK {
			t.Fatalf("%q was written as %q, %v", text, again, e)
		}
	}
	if read < 100 {
		t.Error("too few texts were tracks:", read)
	}
}
