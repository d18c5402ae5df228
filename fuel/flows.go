package fuel

import (
	"iter"

	"sastrugi/api"
	"sastrugi/check"
)

// How many spans a book has at most, and more litres than are ever lost (no account has more than all spans have together).
const (
	mostSpans = 2*api.MaxAccounts + api.MaxMoves
	neverLost = mostSpans * api.MaxLitres
)

// flow is how many litres go from one account to another one.
type flow struct {
	from, to int
	litres   api.Span
}

// losable returns between which numbers of litres an account of a kind may lose.
func losable(kind int) api.Span {
	if kind == api.AccountGround {
		return api.Span{}
	}
	return api.Span{Hi: neverLost}
}

// spans returns the spans of a book: account by account Open and Close, then those of the moves.
func spans(b api.Book) (list [mostSpans]*api.Span) {
	moves := 2 * len(b.Accounts)
	for i := range b.Accounts {
		list[2*i], list[2*i+1] = &b.Accounts[i].Open, &b.Accounts[i].Close
	}
	for i := range b.Moves {
		list[moves+i] = &b.Moves[i].Litres
	}
	return list
}

// flows returns all flows of a book, first those of its spans, in their order: what accounts have in the beginning comes from outside, and what they have in the end goes there. Then there is what each account loses: it goes to one more account, behind the others, from which all of it goes outside, as the last flow.
func flows(b api.Book) []flow {
	gone := len(b.Accounts)
	outside := gone + 1
	var list []flow
	for i, a := range b.Accounts {
		list = append(list, flow{outside, i, a.Open}, flow{i, outside, a.Close})
	}
	for _, m := range b.Moves {
		list = append(list, flow{m.From, m.To, m.Litres})
	}
	for i, a := range b.Accounts {
		list = append(list, flow{i, gone, losable(a.Kind)})
	}
	return append(list, flow{gone, outside, losable(api.AccountTank)})
}

// set is a set of accounts: it tells which flows go into it, and which ones go out of it.
type set struct {
	into, outOf func(f flow) bool
}

// sets hands out all sets of so many accounts.
func sets(accounts int) iter.Seq[set] {
	return func(yield func(set) bool) {
		for members := range 1 << accounts {
			has := func(account int) bool { return members>>account&1 == 1 }
			s := set{
				into:  func(f flow) bool { return has(f.to) && !has(f.from) },
				outOf: func(f flow) bool { return has(f.from) && !has(f.to) },
			}
			if !yield(s) {
				return
			}
		}
	}
}

// sum returns between which numbers of litres some of the flows have together.
func sum(list []flow, some func(f flow) bool) api.Span {
	var all api.Span
	for _, f := range list {
		if some(f) {
			all.Lo += f.litres.Lo
			all.Hi += f.litres.Hi
		}
	}
	return all
}

// narrow leaves of what is known of the flows of one side of a set only what lets as much through this side as through the other one: each has at least what the other side has, less all that the rest of its own side may have, and at most what leaves the rest enough.
func narrow(known []api.Span, list []flow, side func(f flow) bool, own, other api.Span) {
	for i, f := range list {
		if side(f) {
			known[i].Lo = max(known[i].Lo, other.Lo-(own.Hi-f.litres.Hi))
			known[i].Hi = min(known[i].Hi, other.Hi-(own.Lo-f.litres.Lo))
		}
	}
}

// knownOf returns from which to which number each flow of a book is in its truths; or the first error of the book.
//
// In a truth as much goes into each set of accounts as goes out of it. The other way round, if there may be as much on both sides of each set, there is a truth: that is Hoffman's theorem on circulations. It holds for whole numbers, and for a flow that is held at a number, too; so all that no set forbids a flow is that of a truth.
func knownOf(b api.Book) ([]api.Span, api.Errno) {
	if e := checkRows(b); e != api.OK {
		return nil, e
	}
	list := flows(b)
	var known []api.Span
	for _, f := range list {
		known = append(known, f.litres)
	}
	for s := range sets(len(b.Accounts) + 1) {
		in, out := sum(list, s.into), sum(list, s.outOf)
		if e := check.Clash(in.Lo <= out.Hi && out.Lo <= in.Hi); e != api.OK {
			return nil, e
		}
		narrow(known, list, s.into, in, out)
		narrow(known, list, s.outOf, out, in)
	}
	return known, api.OK
}

// lost returns what each account of a book loses in a truth of as many numbers.
func lost(b api.Book, t api.Truth) []int {
	var l []int
	for i := range b.Accounts {
		l = append(l, t.Open[i]-t.Close[i])
	}
	for i, m := range b.Moves {
		l[m.From] -= t.Moved[i]
		l[m.To] += t.Moved[i]
	}
	return l
}
