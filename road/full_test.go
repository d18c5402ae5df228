package road

import (
	"slices"
	"testing"

	"sastrugi/api"
)

// P10.1: on a road on which there are MaxTrucks trucks no other one goes. (With MaxDrivers drivers, each of whom has one truck at a time, no sheet leads so far.)
func TestFull(t *testing.T) {
	one := api.Span{Lo: 100, Hi: 100}
	r := api.Region{
		Survey:  api.Survey{Reaches: []api.Reach{{Long: 3}}},
		Plate:   api.Plate{Strength: api.Span{Lo: 1, Hi: 1}, Shares: []api.Share{{Part: api.Mil}}, Creep: []api.Share{{Part: api.Mil}}, Gravity: 98, Low: 1, High: 1},
		Gap:     200,
		Pace:    one,
		Book:    api.Book{Accounts: []api.Account{{Name: "rack", Kind: api.AccountTank}}},
		Rescue:  api.Rescue{Spots: 1, Water: make([]api.Span, 1), Chills: []api.Chill{{Warm: -400}}},
		Rules:   api.Rules{Drive: 60, Rest: 30, Day: 600, Most: 300},
		Drivers: []api.Driver{{Name: "ann"}},
		Allow:   api.Allow{Axle: 5000, Total: 10000},
	}
	if e := Check(r); e != api.OK {
		t.Fatal(e)
	}
	rolling := api.Rolling{Truck: api.Truck{Way: api.WayUp, Pace: one}}
	for _, c := range []struct {
		trucks int
		line   string
		want   string
	}{
		{19, "go up ann 9", "error 12\n"},
		{20, "go up ann 9", "error 8\n"},
		{20, "go up ann 10", "error 14\n"},
		{20, "go up ann 26", "error 14\n"},
		{20, "go up bob 9", "error 7\n"},
		{20, "go up ann 5001", "error 14\n"},
	} {
		d := begin(r)
		d.Trucks = slices.Repeat([]api.Rolling{rolling}, c.trucks)
		d.Drivers[0].Turns = []api.Turn{{To: one}}
		if got := d.reply(read(c.line)); got != c.want || len(d.Trucks) != c.trucks {
			t.Errorf("with %d trucks the reply to %s is %q, want %q", c.trucks, c.line, got, c.want)
		}
	}
}
