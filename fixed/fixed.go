// Package fixed is layer 1: rounding down, and spans. See shared/doc/01-fixed.md.
package fixed

import "diorama/api"

// maxFactor is Scale's greatest k, of either sign: with MaxWide it keeps products within an int.
const maxFactor = 1 << 20

// Floor is a by b, rounded down.
func Floor(a, b int) (int, api.Errno) {
	if b < 1 {
		return 0, api.ErrArg
	}
	return down(a, b), api.OK
}

// Ceil is a by b, rounded up.
func Ceil(a, b int) (int, api.Errno) {
	if b < 1 {
		return 0, api.ErrArg
	}
	return up(a, b), api.OK
}

// Check tells whether a span may be.
func Check(s api.Span) api.Errno {
	if s.Low < -api.MaxWide || s.High > api.MaxWide || s.Low > s.High {
		return api.ErrBad
	}
	return api.OK
}

// Add is what the sums of both spans' numbers span.
func Add(a, b api.Span) (api.Span, api.Errno) {
	if e := checkBoth(a, b); e != api.OK {
		return api.Span{}, e
	}
	return span(a.Low+b.Low, a.High+b.High)
}

// Scale is what a span's numbers, k times each, span.
func Scale(s api.Span, k int) (api.Span, api.Errno) {
	if e := Check(s); e != api.OK {
		return api.Span{}, e
	}
	if k < -maxFactor || k > maxFactor {
		return api.Span{}, api.ErrArg
	}
	low, high := k*s.Low, k*s.High
	if low > high {
		low, high = high, low
	}
	return span(low, high)
}

// Div is what a span's numbers by b, each rounded down, span.
func Div(s api.Span, b int) (api.Span, api.Errno) {
	if e := Check(s); e != api.OK {
		return api.Span{}, e
	}
	if b < 1 || b > api.MaxWide {
		return api.Span{}, api.ErrArg
	}
	return span(down(s.Low, b), down(s.High, b))
}

// Join is the least span that has all of both.
func Join(a, b api.Span) (api.Span, api.Errno) {
	if e := checkBoth(a, b); e != api.OK {
		return api.Span{}, e
	}
	return span(min(a.Low, b.Low), max(a.High, b.High))
}

// Holds tells whether a number is in a span, of any span: one that may not be is not refused.
func Holds(s api.Span, n int) bool {
	return s.Low <= n && n <= s.High
}

// down wants b above 0. Go's quotient is rounded towards 0, so only what is left below 0 is still to be taken off.
func down(a, b int) int {
	q, left := a/b, a%b
	if left < 0 {
		q--
	}
	return q
}

// up wants b above 0. It does not go by -down(-a, b): the least int has no negative.
func up(a, b int) int {
	q, left := a/b, a%b
	if left > 0 {
		q++
	}
	return q
}

// checkBoth is Check's first error, from the left.
func checkBoth(a, b api.Span) api.Errno {
	if e := Check(a); e != api.OK {
		return e
	}
	return Check(b)
}

// span is for what came out of spans that may be: beyond what may be, that is ErrRange, not ErrBad.
func span(low, high int) (api.Span, api.Errno) {
	s := api.Span{Low: low, High: high}
	if Check(s) != api.OK {
		return api.Span{}, api.ErrRange
	}
	return s, api.OK
}
