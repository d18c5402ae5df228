package fuel_test

import (
	"iter"
	"math/rand"
	"slices"

	"sastrugi/api"
)

func span(low, high int) api.Span { return api.Span{Lo: low, Hi: high} }

func one(n int) api.Span { return span(n, n) }

// tank is the tank T of the chapter's examples.
func tank() api.Tank { return api.Tank{Heights: []int{0, 1000, 2000}, Litres: []int{0, 5000, 12000}} }

// book is the book B of the chapter's examples.
func book() api.Book {
	return api.Book{
		Accounts: []api.Account{
			{Name: "rack", Kind: api.AccountTank, Open: one(1000), Close: span(600, 610)},
			{Name: "camp", Kind: api.AccountTank, Open: span(100, 110), Close: span(480, 490)},
			{Name: "ground", Kind: api.AccountGround, Open: one(0), Close: span(0, 5)},
		},
		Moves: []api.Move{{From: 0, To: 1, Litres: span(390, 400)}},
	}
}

// text is the text of B.
const text = "account rack tank 1000 1000 600 610\naccount camp tank 100 110 480 490\naccount ground ground 0 0 0 5\nmove 0 1 390 400\n"

// truth is a truth of B.
func truth() api.Truth {
	return api.Truth{Open: []int{1000, 100, 0}, Close: []int{605, 485, 0}, Moved: []int{392}}
}

// burn and cold are what a camp burns, and the days, of the chapter's examples.
func burn() []api.Burn {
	return []api.Burn{{Cold: 0, Litres: span(100, 110)}, {Cold: 200, Litres: span(150, 160)}}
}

func cold() []api.Span { return []api.Span{one(150), span(190, 210), one(300)} }

// account returns an account of the kind AccountTank, ground one of the kind AccountGround.
func account(name string, open, end api.Span) api.Account {
	return api.Account{Name: name, Kind: api.AccountTank, Open: open, Close: end}
}

func ground(name string, open, end api.Span) api.Account {
	return api.Account{Name: name, Kind: api.AccountGround, Open: open, Close: end}
}

func move(from, to int, litres api.Span) api.Move {
	return api.Move{From: from, To: to, Litres: litres}
}

func accounts(list ...api.Account) api.Book { return api.Book{Accounts: list} }

// equal tells whether two books are equal.
func equal(a, b api.Book) bool {
	return slices.Equal(a.Accounts, b.Accounts) && slices.Equal(a.Moves, b.Moves)
}

// copied returns a book that shares no memory with another one.
func copied(b api.Book) api.Book {
	return api.Book{Accounts: slices.Clone(b.Accounts), Moves: slices.Clone(b.Moves)}
}

// spans are those of a book: the accounts' Open, their Close, and the moves' Litres.
func spans(b api.Book) (list []*api.Span) {
	for i := range b.Accounts {
		list = append(list, &b.Accounts[i].Open)
	}
	for i := range b.Accounts {
		list = append(list, &b.Accounts[i].Close)
	}
	for i := range b.Moves {
		list = append(list, &b.Moves[i].Litres)
	}
	return list
}

// The truth, word by word as the document has it.

// loses returns what an account loses in a truth.
func loses(b api.Book, t api.Truth, account int) int {
	n := t.Open[account]
	for k, m := range b.Moves {
		if m.To == account {
			n += t.Moved[k]
		}
		if m.From == account {
			n -= t.Moved[k]
		}
	}
	return n - t.Close[account]
}

// may tells whether an account may lose so much.
func may(a api.Account, loss int) bool {
	return loss == 0 || loss > 0 && a.Kind == api.AccountTank
}

// truths hands out all truths of a book, as the numbers of its spans.
func truths(b api.Book) iter.Seq[[]int] {
	list := spans(b)
	return func(yield func([]int) bool) {
		numbers := make([]int, len(list))
		var choose func(i int) bool
		choose = func(i int) bool {
			if i == len(list) {
				return !isTruth(b, truthOf(b, numbers)) || yield(numbers)
			}
			for n := list[i].Lo; n <= list[i].Hi; n++ {
				numbers[i] = n
				if !choose(i + 1) {
					return false
				}
			}
			return true
		}
		choose(0)
	}
}

// truthOf returns the truth that has the numbers of a book's spans.
func truthOf(b api.Book, numbers []int) api.Truth {
	n := len(b.Accounts)
	return api.Truth{Open: slices.Clone(numbers[:n]), Close: slices.Clone(numbers[n : 2*n]), Moved: slices.Clone(numbers[2*n:])}
}

// isTruth tells whether accounts lose what they may lose.
func isTruth(b api.Book, t api.Truth) bool {
	for i, a := range b.Accounts {
		if !may(a, loses(b, t, i)) {
			return false
		}
	}
	return true
}

// some returns a span within bounds that has at most so many numbers more than one.
func some(r *rand.Rand, low, high, wide int) api.Span {
	a := low + r.Intn(high-low+1)
	return span(a, min(high, a+r.Intn(wide+1)))
}

// inside returns a span within another one.
func inside(r *rand.Rand, s api.Span) api.Span {
	low := s.Lo + r.Intn(s.Hi-s.Lo+1)
	return span(low, low+r.Intn(s.Hi-low+1))
}

// around returns a span that has a number and at most so many ones on each side, and none below 0.
func around(r *rand.Rand, n, wide int) api.Span {
	return span(max(0, n-r.Intn(wide+1)), n+r.Intn(wide+1))
}

// someMoves are moves between so many accounts, without their litres.
func someMoves(r *rand.Rand, accounts, most int) (list []api.Move) {
	if accounts < 2 {
		return nil
	}
	for range r.Intn(most + 1) {
		from := r.Intn(accounts)
		list = append(list, api.Move{From: from, To: (from + 1 + r.Intn(accounts-1)) % accounts})
	}
	return list
}

// someAccounts are 1 or more accounts, without their litres.
func someAccounts(r *rand.Rand, most int) (list []api.Account) {
	for i := range 1 + r.Intn(most) {
		a := api.Account{Name: string(rune('a' + i)), Kind: api.AccountTank}
		if r.Intn(3) == 0 {
			a.Kind = api.AccountGround
		}
		list = append(list, a)
	}
	return list
}

// small is a book of which all truths can be looked at, if there are any.
func small(r *rand.Rand) api.Book {
	b := api.Book{Accounts: someAccounts(r, 4)}
	b.Moves = someMoves(r, len(b.Accounts), 4)
	wide := 9 / (2*len(b.Accounts) + len(b.Moves))
	for _, s := range spans(b) {
		*s = some(r, 0, 4, 1+r.Intn(1+wide))
	}
	return b
}

// large is a book that may be as large as any, with one of its truths.
func large(r *rand.Rand, litres, wide int) (api.Book, api.Truth) {
	b := api.Book{Accounts: someAccounts(r, 8)}
	b.Moves = someMoves(r, len(b.Accounts), 30)
	t := api.Truth{Open: make([]int, len(b.Accounts)), Close: make([]int, len(b.Accounts))}
	for range b.Moves {
		t.Moved = append(t.Moved, r.Intn(litres+1))
	}
	for i, a := range b.Accounts {
		if a.Kind == api.AccountTank && r.Intn(2) == 0 {
			t.Close[i] = r.Intn(litres + 1)
		}
		loss := 0
		if a.Kind == api.AccountTank && r.Intn(2) == 0 {
			loss = r.Intn(wide + 1)
		}
		// What it has in the beginning makes up for what is missing; what is there then is left in the end.
		need := loss - loses(b, t, i)
		t.Open[i] += max(need, 0)
		t.Close[i] += max(-need, 0)
	}
	for i, s := range spans(b) {
		*s = around(r, slices.Concat(t.Open, t.Close, t.Moved)[i], wide)
	}
	return b, t
}
