package probe

import (
	"strings"

	"sastrugi/api"
	"sastrugi/rows"
)

// fastest is the greatest speed of a radar's waves.
const fastest = 1000

// downAndUp is how many picoseconds of an echo are a nanosecond of depth: the wave goes through the ice twice.
const downAndUp = 2000

// digits is how many digits a number of a track has at most.
const digits = 9

// The words of a track.
const (
	wordRadar = "radar"
	wordEcho  = "echo"
)

// Looks returns the looks of a track's echoes.
func Looks(t api.Track) ([]api.Look, api.Errno) {
	if e := checkTrack(t); e != api.OK {
		return nil, e
	}
	var list []api.Look
	for _, x := range t.Echoes {
		list = append(list, api.Look{Kind: api.LookRadar, At: x.At, Hour: x.Hour, Value: thick(t.Speed, x.Time)})
	}
	return list, api.OK
}

// thick returns how thick ice is by the time of an echo, rounded outwards.
func thick(speed, time api.Span) api.Span {
	return api.Span{
		Lo: min(speed.Lo*time.Lo/downAndUp, api.MaxIce),
		Hi: min((speed.Hi*time.Hi+downAndUp-1)/downAndUp, api.MaxIce),
	}
}

// Write returns the text of a track.
func Write(t api.Track) (string, api.Errno) {
	if e := checkTrack(t); e != api.OK {
		return "", e
	}
	var text strings.Builder
	text.WriteString(rows.Write(wordRadar, t.Speed.Lo, t.Speed.Hi))
	for _, x := range t.Echoes {
		text.WriteString(rows.Write(wordEcho, x.At, x.Hour, x.Time.Lo, x.Time.Hi))
	}
	return text.String(), api.OK
}

// Read returns the track of a text; with ErrForm the number of the first row (from 1 on) that is not as it has to be.
func Read(text string) (t api.Track, row int, e api.Errno) {
	if len(text) > api.MaxTrack {
		return api.Track{}, 0, api.ErrLong
	}
	row = rows.Headed(text,
		func(words []string) bool { return rows.Read(words, wordRadar, digits, &t.Speed.Lo, &t.Speed.Hi) },
		func(words []string) bool {
			var x api.Echo
			ok := rows.Read(words, wordEcho, digits, &x.At, &x.Hour, &x.Time.Lo, &x.Time.Hi)
			t.Echoes = append(t.Echoes, x)
			return ok
		},
	)
	if row > 0 {
		return api.Track{}, row, api.ErrForm
	}
	if e := checkTrack(t); e != api.OK {
		return api.Track{}, 0, e
	}
	return t, 0, api.OK
}
