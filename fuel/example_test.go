package fuel_test

import (
	"fmt"

	"sastrugi/api"
	"sastrugi/fuel"
)

// The example of README.md: a rack, a camp, and the ground on which fuel may be spilled.
func Example() {
	litres := func(low, high int) api.Span { return api.Span{Lo: low, Hi: high} }
	tank := api.Tank{Heights: []int{0, 1000, 2000}, Litres: []int{0, 5000, 12000}}
	volume, err := fuel.Volume(tank, litres(500, 1500))
	fmt.Println(volume, err == api.OK)
	standard, err := fuel.Standard(litres(10000, 10000), litres(80, 84), litres(250, 250))
	fmt.Println(standard, err == api.OK)

	book := api.Book{
		Accounts: []api.Account{
			{Name: "rack", Kind: api.AccountTank, Open: litres(1000, 1000), Close: litres(590, 599)},
			{Name: "camp", Kind: api.AccountTank, Open: litres(100, 110), Close: litres(480, 490)},
			{Name: "ground", Kind: api.AccountGround, Close: litres(0, 5)},
		},
		Moves: []api.Move{{From: 0, To: 1, Litres: litres(390, 400)}},
	}
	losses, total, err := fuel.Losses(book)
	fmt.Println(losses, total, err == api.OK)
	verdicts, err := fuel.Missing(book)
	fmt.Println(verdicts, err == api.OK)
	book, err = fuel.Post(book, api.Move{From: 0, To: 2, Litres: litres(2, 9)})
	fmt.Println(len(book.Moves), err == api.OK)
	book, err = fuel.Refine(book)
	fmt.Println(book.Accounts[2].Close, book.Moves[1].Litres, err == api.OK)
	text, err := fuel.Write(book)
	fmt.Print(text, err == api.OK, "\n")

	burn := []api.Burn{{Cold: 0, Litres: litres(100, 110)}, {Cold: 200, Litres: litres(150, 160)}}
	cold := []api.Span{{Lo: 150, Hi: 150}, {Lo: 190, Hi: 210}, {Lo: 300, Hi: 300}}
	days, err := fuel.Lasts(litres(300, 400), burn, cold)
	fmt.Println(days, err == api.OK)
	// Output:
	// {2500 8500} true
	// {9916 9920} true
	// [{1 20} {0 30} {0 0}] {11 40} true
	// [1 3 2] true
	// 2 true
	// {2 5} {2 5} true
	// account rack tank 1000 1000 590 599
	// account camp tank 100 110 480 490
	// account ground ground 0 0 2 5
	// move 0 1 390 400
	// move 0 2 2 5
	// true
	// {2 3} true
}
