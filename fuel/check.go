package fuel

import (
	"sastrugi/api"
	"sastrugi/check"
)

// longestName is how many letters the name of an account has at most.
const longestName = 8

// checkTank returns the first error of a tank.
func checkTank(t api.Tank) api.Errno {
	e := check.First(
		check.Least(len(t.Heights), 2),
		check.Most(len(t.Heights), api.MaxGauges),
		check.Form(len(t.Litres) == len(t.Heights)),
	)
	if e != api.OK {
		return e
	}
	return check.List(t.Heights, api.MaxGauges, func(i, height int) api.Errno {
		before := max(i-1, 0)
		return check.First(
			check.Number(height, 0, api.MaxHeight),
			check.Number(t.Litres[i], 0, api.MaxLitres),
			check.Order(i == 0 || height > t.Heights[before]),
			check.Order(t.Litres[i] >= t.Litres[before]),
		)
	})
}

func checkLitres(s api.Span) api.Errno { return check.Span(s, 0, api.MaxLitres) }

// checkTenths returns the first error of a temperature, or of cold.
func checkTenths(s api.Span) api.Errno { return check.Span(s, -api.MaxTenths, api.MaxTenths) }

// Check returns the first error of a book, otherwise OK.
func Check(b api.Book) api.Errno {
	_, e := knownOf(b)
	return e
}

// checkRows returns the first error of the accounts and the moves of a book, which may be without a truth.
func checkRows(b api.Book) api.Errno {
	return check.First(
		check.Some(len(b.Accounts)),
		checkAccounts(b.Accounts),
		check.List(b.Moves, api.MaxMoves, func(_ int, m api.Move) api.Errno { return checkMove(m, len(b.Accounts)) }),
	)
}

// checkAccounts returns the first error of accounts.
func checkAccounts(list []api.Account) api.Errno {
	names := map[string]bool{}
	return check.List(list, api.MaxAccounts, func(_ int, a api.Account) api.Errno {
		e := check.First(
			check.Form(isName(a.Name)),
			check.New(!names[a.Name]),
			check.Kind(a.Kind, api.AccountGround),
			checkLitres(a.Open),
			checkLitres(a.Close),
		)
		names[a.Name] = true
		return e
	})
}

// isName tells whether a word may be the name of an account.
func isName(word string) bool {
	for _, letter := range word {
		if letter < 'a' || letter > 'z' {
			return false
		}
	}
	return 1 <= len(word) && len(word) <= longestName
}

// checkMove returns the first error of a move between so many accounts.
func checkMove(m api.Move, accounts int) api.Errno {
	return check.First(
		check.Index(m.From, accounts),
		check.Index(m.To, accounts),
		check.Form(m.From != m.To),
		checkLitres(m.Litres),
	)
}

// checkTruth returns the first error of the numbers of a truth, in which accounts may yet lose what they may not.
func checkTruth(b api.Book, t api.Truth) api.Errno {
	e := check.First(
		check.Form(len(t.Open) == len(b.Accounts)),
		check.Form(len(t.Close) == len(b.Accounts)),
		check.Form(len(t.Moved) == len(b.Moves)),
	)
	if e != api.OK {
		return e
	}
	for i, a := range b.Accounts {
		if e := check.First(within(t.Open[i], a.Open), within(t.Close[i], a.Close)); e != api.OK {
			return e
		}
	}
	for i, m := range b.Moves {
		if e := within(t.Moved[i], m.Litres); e != api.OK {
			return e
		}
	}
	return api.OK
}

// within returns ErrRange unless a number lies in a span.
func within(n int, s api.Span) api.Errno { return check.Number(n, s.Lo, s.Hi) }

// checkBurn returns the first error of the burn of a camp.
func checkBurn(burn []api.Burn) api.Errno {
	return check.First(
		check.Some(len(burn)),
		check.List(burn, api.MaxBurns, func(i int, x api.Burn) api.Errno {
			return check.First(
				check.Number(x.Cold, -api.MaxTenths, api.MaxTenths),
				check.Order(i == 0 || x.Cold > burn[i-1].Cold),
				checkLitres(x.Litres),
			)
		}),
	)
}
