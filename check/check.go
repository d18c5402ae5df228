// Package check has the checks of numbers, spans and lists that all layers share.
package check

import "sastrugi/api"

// First returns the first error of a list, or OK. (They are all found before it is called, so none of them may panic where an earlier one fails.)
func First(list ...api.Errno) api.Errno {
	for _, e := range list {
		if e != api.OK {
			return e
		}
	}
	return api.OK
}

// unless returns an error, or OK if all is well.
func unless(good bool, e api.Errno) api.Errno {
	if good {
		return api.OK
	}
	return e
}

// Number returns ErrRange unless n is from low to high.
func Number(n, low, high int) api.Errno { return unless(low <= n && n <= high, api.ErrRange) }

// Order returns ErrOrder unless things are in order.
func Order(good bool) api.Errno { return unless(good, api.ErrOrder) }

// Form returns ErrForm unless something is built as it has to be.
func Form(good bool) api.Errno { return unless(good, api.ErrForm) }

// Clash returns ErrClash unless things go together.
func Clash(good bool) api.Errno { return unless(good, api.ErrClash) }

// New returns ErrExists unless something is new.
func New(good bool) api.Errno { return unless(good, api.ErrExists) }

// Late returns ErrLate unless something is in time.
func Late(good bool) api.Errno { return unless(good, api.ErrLate) }

// Kind returns ErrKind unless kind is from 1 to the last kind.
func Kind(kind, last int) api.Errno { return unless(1 <= kind && kind <= last, api.ErrKind) }

// Index returns ErrMissing unless n is one of so many things, which are numbered from 0 on.
func Index(n, count int) api.Errno { return unless(0 <= n && n < count, api.ErrMissing) }

// Some returns ErrShort if there is nothing of something.
func Some(n int) api.Errno { return Least(n, 1) }

// Least returns ErrShort if there are fewer than least of something.
func Least(n, least int) api.Errno { return unless(n >= least, api.ErrShort) }

// Most returns ErrFull if there are more than most of something.
func Most(n, most int) api.Errno { return unless(n <= most, api.ErrFull) }

// Range returns ErrRange unless both numbers of s are from low to high.
func Range(s api.Span, low, high int) api.Errno {
	return First(Number(s.Lo, low, high), Number(s.Hi, low, high))
}

// Span returns the error of Range, then ErrOrder if Lo is above Hi.
func Span(s api.Span, low, high int) api.Errno {
	return First(Range(s, low, high), Order(s.Lo <= s.Hi))
}

// List returns ErrFull if a list has more than most things, otherwise the first error that each finds in one of them (which it is given with its number, from 0 on).
func List[T any](list []T, most int, each func(i int, x T) api.Errno) api.Errno {
	if e := Most(len(list), most); e != api.OK {
		return e
	}
	for i, x := range list {
		if e := each(i, x); e != api.OK {
			return e
		}
	}
	return api.OK
}
