package fuel

import (
	"strings"

	"sastrugi/api"
	"sastrugi/rows"
)

// digits is how many digits a number of a book's text has at most.
const digits = 10

// The words of a book's text.
const (
	wordAccount = "account"
	wordTank    = "tank"
	wordGround  = "ground"
	wordMove    = "move"
)

// Write returns the text of a book.
func Write(b api.Book) (string, api.Errno) {
	if e := Check(b); e != api.OK {
		return "", e
	}
	var text strings.Builder
	for _, a := range b.Accounts {
		name := wordAccount + " " + a.Name + " " + kindWord(a.Kind)
		text.WriteString(rows.Write(name, a.Open.Lo, a.Open.Hi, a.Close.Lo, a.Close.Hi))
	}
	for _, m := range b.Moves {
		text.WriteString(rows.Write(wordMove, m.From, m.To, m.Litres.Lo, m.Litres.Hi))
	}
	return text.String(), api.OK
}

// kindWord returns the word for a kind of accounts.
func kindWord(kind int) string {
	if kind == api.AccountGround {
		return wordGround
	}
	return wordTank
}

// Read returns the book of a text; with ErrForm the number of the first row (from 1 on) that is not as it has to be, or 0 if only the book is not.
func Read(text string) (b api.Book, row int, e api.Errno) {
	if len(text) > api.MaxFuelText {
		return api.Book{}, 0, api.ErrLong
	}
	row = rows.Each(text, func(words []string) bool { return readAccount(&b, words) || readMove(&b, words) })
	if row > 0 {
		return api.Book{}, row, api.ErrForm
	}
	if e := Check(b); e != api.OK {
		return api.Book{}, 0, e
	}
	return b, 0, api.OK
}

// readAccount reads the row of an account, which becomes the last one of a book that has no moves yet, and tells whether it is one.
func readAccount(b *api.Book, words []string) bool {
	if len(b.Moves) > 0 || len(words) < 3 || words[0] != wordAccount || words[1] == "" {
		return false
	}
	for _, kind := range [...]int{api.AccountTank, api.AccountGround} {
		a := api.Account{Name: words[1], Kind: kind}
		if rows.Read(words[2:], kindWord(kind), digits, &a.Open.Lo, &a.Open.Hi, &a.Close.Lo, &a.Close.Hi) {
			b.Accounts = append(b.Accounts, a)
			return true
		}
	}
	return false
}

// readMove reads the row of a move, which becomes the last one of a book, and tells whether it is one.
func readMove(b *api.Book, words []string) bool {
	var m api.Move
	if !rows.Read(words, wordMove, digits, &m.From, &m.To, &m.Litres.Lo, &m.Litres.Hi) {
		return false
	}
	b.Moves = append(b.Moves, m)
	return true
}
