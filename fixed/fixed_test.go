package fixed

import (
	"math"
	"math/big"
	"testing"

	"diorama/api"
)

const wide = 1 << 40

func to(low, high int) api.Span { return api.Span{Low: low, High: high} }

// extremes are the least and the greatest numbers, the limits, and their neighbours.
func extremes() []int {
	list := []int{math.MinInt, math.MinInt + 1, math.MaxInt - 1, math.MaxInt}
	for _, n := range []int{0, 1, 2, 7, 256, 1 << 20, wide, 1 << 60, 1 << 62} {
		list = append(list, n-1, n, n+1, -n-1, -n, -n+1)
	}
	return list
}

// wantRounded goes by math/big alone: its Div is rounded down where the divisor is above 0.
func wantRounded(a, b int) (down, up int) {
	x, y := big.NewInt(int64(a)), big.NewInt(int64(b))
	low, left := new(big.Int).DivMod(x, y, new(big.Int))
	down, up = int(low.Int64()), int(low.Int64())
	if left.Sign() > 0 {
		up++
	}
	return down, up
}

func checkRounded(t *testing.T, a, b int) {
	t.Helper()
	n, e := Floor(a, b)
	m, f := Ceil(a, b)
	if b < 1 {
		if n != 0 || m != 0 || e != api.ErrArg || f != api.ErrArg {
			t.Errorf("%d by %d: Floor %d, %d, Ceil %d, %d; want 0 and ErrArg", a, b, n, e, m, f)
		}
		return
	}
	down, up := wantRounded(a, b)
	if n != down || m != up || e != api.OK || f != api.OK {
		t.Errorf("%d by %d: Floor %d, %d, Ceil %d, %d; want %d, %d", a, b, n, e, m, f, down, up)
	}
}

func TestP1_1RoundingExamples(t *testing.T) {
	for _, c := range []struct{ a, b, down, up int }{
		{7, 2, 3, 4}, {-7, 2, -4, -3}, {8, 2, 4, 4}, {-8, 2, -4, -4}, {0, 3, 0, 0},
		{1, 256, 0, 1}, {-1, 256, -1, 0},
		{math.MinInt, 1, math.MinInt, math.MinInt}, {math.MaxInt, 1, math.MaxInt, math.MaxInt},
		{math.MinInt, 2, math.MinInt / 2, math.MinInt / 2}, {math.MaxInt, 2, 1<<62 - 1, 1 << 62},
		{math.MinInt, math.MaxInt, -2, -1}, {math.MaxInt, math.MaxInt, 1, 1}, {-1, math.MaxInt, -1, 0},
	} {
		n, e := Floor(c.a, c.b)
		m, f := Ceil(c.a, c.b)
		if n != c.down || m != c.up || e != api.OK || f != api.OK {
			t.Errorf("%d by %d: Floor %d, %d, Ceil %d, %d; want %d, %d", c.a, c.b, n, e, m, f, c.down, c.up)
		}
	}
}

func TestP1_1RoundingOfSmallNumbers(t *testing.T) {
	for a := -40; a <= 40; a++ {
		for b := -3; b <= 20; b++ {
			checkRounded(t, a, b)
		}
	}
}

func TestP1_1RoundingOfExtremes(t *testing.T) {
	for _, a := range extremes() {
		for _, b := range extremes() {
			checkRounded(t, a, b)
		}
	}
}

func TestP1_1RoundingIsTheGreatestAndTheLeast(t *testing.T) {
	for a := -30; a <= 30; a++ {
		for b := 1; b <= 9; b++ {
			n, _ := Floor(a, b)
			m, _ := Ceil(a, b)
			if n*b > a || (n+1)*b <= a || m*b < a || (m-1)*b >= a {
				t.Errorf("%d by %d: %d, %d", a, b, n, m)
			}
		}
	}
}

func TestP1_2Check(t *testing.T) {
	for _, c := range []struct {
		s api.Span
		e api.Errno
	}{
		{to(0, 0), api.OK}, {to(-3, 1), api.OK}, {to(-wide, wide), api.OK},
		{to(wide, wide), api.OK}, {to(-wide, -wide), api.OK}, {api.Span{}, api.OK},
		{to(3, 1), api.ErrBad}, {to(1, 0), api.ErrBad}, {to(wide, -wide), api.ErrBad},
		{to(-wide-1, 0), api.ErrBad}, {to(0, wide+1), api.ErrBad},
		{to(-wide-1, -wide-1), api.ErrBad}, {to(wide+1, wide+1), api.ErrBad},
		{to(-wide-1, wide+1), api.ErrBad},
		{to(math.MinInt, math.MaxInt), api.ErrBad}, {to(math.MaxInt, math.MinInt), api.ErrBad},
		{to(math.MinInt, math.MinInt), api.ErrBad}, {to(math.MaxInt, math.MaxInt), api.ErrBad},
	} {
		if e := Check(c.s); e != c.e {
			t.Errorf("Check(%v): %d, want %d", c.s, e, c.e)
		}
	}
}

func TestP1_2Holds(t *testing.T) {
	for _, c := range []struct {
		s    api.Span
		n    int
		want bool
	}{
		{to(1, 3), 0, false}, {to(1, 3), 1, true}, {to(1, 3), 2, true}, {to(1, 3), 3, true}, {to(1, 3), 4, false},
		{to(-3, -1), -4, false}, {to(-3, -1), -3, true}, {to(-3, -1), -1, true}, {to(-3, -1), 0, false},
		{to(5, 5), 5, true}, {to(5, 5), 4, false}, {to(5, 5), 6, false},
		{to(3, 1), 1, false}, {to(3, 1), 2, false}, {to(3, 1), 3, false},
		{to(-wide, wide), wide, true}, {to(-wide, wide), wide + 1, false}, {to(-wide, wide), -wide - 1, false},
	} {
		if got := Holds(c.s, c.n); got != c.want {
			t.Errorf("Holds(%v, %d): %v", c.s, c.n, got)
		}
	}
}

func TestP1_2HoldsOfSpansThatMayNotBe(t *testing.T) {
	all := to(math.MinInt, math.MaxInt)
	for _, n := range extremes() {
		if !Holds(all, n) || Holds(to(math.MaxInt, math.MinInt), n) {
			t.Error(n)
		}
	}
	if !Holds(to(wide+1, wide+9), wide+1) || Holds(to(wide+1, wide+9), wide) {
		t.Error("a span beyond MaxWide")
	}
}

// wantSpan is a call's answer: with an error, the span is zero.
func wantSpan(t *testing.T, what string, got api.Span, e api.Errno, want api.Span, f api.Errno) {
	t.Helper()
	if got != want || e != f {
		t.Errorf("%s: %v, %d; want %v, %d", what, got, e, want, f)
	}
}

func TestP1_3Add(t *testing.T) {
	for _, c := range []struct {
		a, b, want api.Span
		e          api.Errno
	}{
		{to(1, 3), to(-5, 2), to(-4, 5), api.OK},
		{to(0, 0), to(0, 0), to(0, 0), api.OK},
		{to(-9, -7), to(-2, -1), to(-11, -8), api.OK},
		{to(wide-1, wide-1), to(1, 1), to(wide, wide), api.OK},
		{to(-wide, wide), to(0, 0), to(-wide, wide), api.OK},
		{to(-wide, -wide), to(wide, wide), to(0, 0), api.OK},
		{to(wide, wide), to(1, 1), api.Span{}, api.ErrRange},
		{to(0, wide), to(0, 1), api.Span{}, api.ErrRange},
		{to(-wide, 0), to(-1, 0), api.Span{}, api.ErrRange},
		{to(-wide, wide), to(-wide, wide), api.Span{}, api.ErrRange},
		{to(1, 0), to(0, 0), api.Span{}, api.ErrBad},
		{to(0, 0), to(1, 0), api.Span{}, api.ErrBad},
		{to(0, wide+1), to(-1, -1), api.Span{}, api.ErrBad},
		{to(1, 1), to(-wide-1, 0), api.Span{}, api.ErrBad},
		{to(wide, wide), to(1, wide+1), api.Span{}, api.ErrBad},
		{to(math.MaxInt, math.MaxInt), to(math.MaxInt, math.MaxInt), api.Span{}, api.ErrBad},
		{to(math.MinInt, math.MaxInt), to(math.MinInt, math.MaxInt), api.Span{}, api.ErrBad},
	} {
		got, e := Add(c.a, c.b)
		wantSpan(t, "Add", got, e, c.want, c.e)
		got, e = Add(c.b, c.a)
		wantSpan(t, "Add, the other way", got, e, c.want, c.e)
	}
}

func TestP1_3Scale(t *testing.T) {
	for _, c := range []struct {
		s    api.Span
		k    int
		want api.Span
		e    api.Errno
	}{
		{to(1, 3), -2, to(-6, -2), api.OK},
		{to(1, 3), 2, to(2, 6), api.OK},
		{to(-2, 3), -1, to(-3, 2), api.OK},
		{to(-wide, wide), 0, to(0, 0), api.OK},
		{to(-wide, wide), 1, to(-wide, wide), api.OK},
		{to(-wide, wide), -1, to(-wide, wide), api.OK},
		{to(0, 1), 1 << 20, to(0, 1<<20), api.OK},
		{to(0, 1), -1 << 20, to(-1<<20, 0), api.OK},
		{to(-1<<20, 1<<20), 1 << 20, to(-wide, wide), api.OK},
		{to(-1<<20, 1<<20), -1 << 20, to(-wide, wide), api.OK},
		{to(0, 1<<20+1), 1 << 20, api.Span{}, api.ErrRange},
		{to(0, 1<<20+1), -1 << 20, api.Span{}, api.ErrRange},
		{to(-1<<20-1, 0), 1 << 20, api.Span{}, api.ErrRange},
		{to(-wide, wide), 1 << 20, api.Span{}, api.ErrRange},
		{to(-wide, wide), -1 << 20, api.Span{}, api.ErrRange},
		{to(1<<39, 1<<39), 3, api.Span{}, api.ErrRange},
		{to(0, 1), 1<<20 + 1, api.Span{}, api.ErrArg},
		{to(0, 1), -1<<20 - 1, api.Span{}, api.ErrArg},
		{to(0, 0), 1<<20 + 1, api.Span{}, api.ErrArg},
		{to(wide, wide), 1<<20 + 1, api.Span{}, api.ErrArg},
		{to(wide, wide), math.MaxInt, api.Span{}, api.ErrArg},
		{to(wide, wide), math.MinInt, api.Span{}, api.ErrArg},
		{to(1, 0), 1, api.Span{}, api.ErrBad},
		{to(1, 0), 1<<20 + 1, api.Span{}, api.ErrBad},
		{to(0, wide+1), 0, api.Span{}, api.ErrBad},
		{to(-wide-1, 0), math.MinInt, api.Span{}, api.ErrBad},
		{to(math.MinInt, math.MaxInt), -1, api.Span{}, api.ErrBad},
	} {
		got, e := Scale(c.s, c.k)
		wantSpan(t, "Scale", got, e, c.want, c.e)
	}
}

func TestP1_3Div(t *testing.T) {
	for _, c := range []struct {
		s    api.Span
		b    int
		want api.Span
		e    api.Errno
	}{
		{to(-7, 7), 2, to(-4, 3), api.OK},
		{to(-8, 8), 2, to(-4, 4), api.OK},
		{to(-7, -5), 3, to(-3, -2), api.OK},
		{to(5, 7), 3, to(1, 2), api.OK},
		{to(-wide, wide), 1, to(-wide, wide), api.OK},
		{to(-wide, wide), wide, to(-1, 1), api.OK},
		{to(-wide, wide), wide - 1, to(-2, 1), api.OK},
		{to(-1, 1), wide, to(-1, 0), api.OK},
		{to(1, 2), 0, api.Span{}, api.ErrArg},
		{to(1, 2), -1, api.Span{}, api.ErrArg},
		{to(1, 2), math.MinInt, api.Span{}, api.ErrArg},
		{to(1, 2), wide + 1, api.Span{}, api.ErrArg},
		{to(1, 2), math.MaxInt, api.Span{}, api.ErrArg},
		{to(2, 1), 2, api.Span{}, api.ErrBad},
		{to(2, 1), 0, api.Span{}, api.ErrBad},
		{to(0, wide+1), wide + 1, api.Span{}, api.ErrBad},
		{to(-wide-1, 0), 2, api.Span{}, api.ErrBad},
		{to(math.MinInt, math.MaxInt), math.MinInt, api.Span{}, api.ErrBad},
	} {
		got, e := Div(c.s, c.b)
		wantSpan(t, "Div", got, e, c.want, c.e)
	}
}

func TestP1_3Join(t *testing.T) {
	for _, c := range []struct {
		a, b, want api.Span
		e          api.Errno
	}{
		{to(1, 3), to(7, 9), to(1, 9), api.OK},
		{to(1, 9), to(2, 3), to(1, 9), api.OK},
		{to(1, 5), to(3, 9), to(1, 9), api.OK},
		{to(-9, -7), to(-3, -1), to(-9, -1), api.OK},
		{to(-wide, -wide), to(wide, wide), to(-wide, wide), api.OK},
		{to(-wide, wide), to(-wide, wide), to(-wide, wide), api.OK},
		{to(0, 0), to(1, 0), api.Span{}, api.ErrBad},
		{to(-5, 5), to(1, 0), api.Span{}, api.ErrBad},
		{to(0, 0), to(0, wide+1), api.Span{}, api.ErrBad},
		{to(0, 0), to(-wide-1, 0), api.Span{}, api.ErrBad},
		{to(math.MaxInt, math.MinInt), to(math.MinInt, math.MaxInt), api.Span{}, api.ErrBad},
	} {
		got, e := Join(c.a, c.b)
		wantSpan(t, "Join", got, e, c.want, c.e)
		got, e = Join(c.b, c.a)
		wantSpan(t, "Join, the other way", got, e, c.want, c.e)
	}
}

// checkHeld wants each number to be in the span, and both ends to be among the numbers.
func checkHeld(t *testing.T, what string, s api.Span, e api.Errno, numbers []int) {
	t.Helper()
	if e != api.OK {
		t.Fatalf("%s: error %d", what, e)
	}
	low, high := false, false
	for _, n := range numbers {
		if !Holds(s, n) {
			t.Errorf("%s: %d is not in %v", what, n, s)
		}
		low, high = low || n == s.Low, high || n == s.High
	}
	if !low || !high {
		t.Errorf("%s: %v has an end that comes of no number", what, s)
	}
}

func numbersOf(s api.Span) []int {
	var list []int
	for n := s.Low; n <= s.High; n++ {
		list = append(list, n)
	}
	return list
}

// each is what f makes of each number of a span.
func each(s api.Span, f func(int) int) []int {
	list := numbersOf(s)
	for i, n := range list {
		list[i] = f(n)
	}
	return list
}

func smallSpans() []api.Span {
	var list []api.Span
	for low := -7; low <= 7; low += 2 {
		for high := low; high <= 8; high += 3 {
			list = append(list, to(low, high))
		}
	}
	return append(list, to(wide/4-2, wide/4+1), to(-wide/4-1, -wide/4+2))
}

func TestP1_4SumsAndJoinsStayInSpans(t *testing.T) {
	for _, a := range smallSpans() {
		for _, b := range smallSpans() {
			var sums []int
			for _, n := range numbersOf(a) {
				sums = append(sums, each(b, func(m int) int { return n + m })...)
			}
			s, e := Add(a, b)
			checkHeld(t, "Add", s, e, sums)
			s, e = Join(a, b)
			checkHeld(t, "Join", s, e, append(numbersOf(a), numbersOf(b)...))
		}
	}
}

func TestP1_4MultiplesStayInSpans(t *testing.T) {
	for _, s := range smallSpans() {
		for k := -3; k <= 3; k++ {
			got, e := Scale(s, k)
			checkHeld(t, "Scale", got, e, each(s, func(n int) int { return k * n }))
		}
	}
}

func TestP1_4WhatIsRoundedDownStaysInSpans(t *testing.T) {
	for _, s := range smallSpans() {
		for _, b := range []int{1, 2, 3, 5, 8, 256, wide - 1, wide} {
			got, e := Div(s, b)
			checkHeld(t, "Div", got, e, each(s, func(n int) int {
				down, _ := Floor(n, b)
				return down
			}))
		}
	}
}

// TestEveryCallOfExtremes holds every call against what is told by math/big, over all pairs of extremes; a panic fails it, too.
func TestEveryCallOfExtremes(t *testing.T) {
	list := extremes()
	for _, low := range list {
		for _, high := range list {
			s := to(low, high)
			may := -wide <= low && low <= wide && -wide <= high && high <= wide && low <= high
			if (Check(s) == api.OK) != may {
				t.Fatalf("Check(%v): %d", s, Check(s))
			}
			for _, k := range list {
				checkExtreme(t, s, k, may)
			}
		}
	}
}

func checkExtreme(t *testing.T, s api.Span, k int, may bool) {
	t.Helper()
	one := to(k, k)
	oneMay := -wide <= k && k <= wide
	both := func() api.Errno {
		if !may || !oneMay {
			return api.ErrBad
		}
		return api.OK
	}
	argument := func(least, most int) api.Errno {
		if !may {
			return api.ErrBad
		}
		if k < least || k > most {
			return api.ErrArg
		}
		return api.OK
	}
	num := bigOf(k)
	got, e := Add(s, one)
	want, f := wantEnds(s, func(end *big.Int) *big.Int { return end.Add(end, num) }, both())
	wantSpan(t, "Add", got, e, want, f)
	got, e = Scale(s, k)
	want, f = wantEnds(s, func(end *big.Int) *big.Int { return end.Mul(end, num) }, argument(-1<<20, 1<<20))
	wantSpan(t, "Scale", got, e, want, f)
	got, e = Div(s, k)
	want, f = wantEnds(s, func(end *big.Int) *big.Int { return end.Div(end, num) }, argument(1, wide))
	wantSpan(t, "Div", got, e, want, f)
	want = api.Span{}
	if both() == api.OK {
		want = to(min(s.Low, k), max(s.High, k))
	}
	got, e = Join(s, one)
	wantSpan(t, "Join", got, e, want, both())
	if Holds(s, k) != (k >= s.Low && k <= s.High) {
		t.Errorf("Holds(%v, %d)", s, k)
	}
}

func bigOf(n int) *big.Int { return big.NewInt(int64(n)) }

// wantEnds is what f makes of a span's ends, the lesser one first, unless an earlier error stands against it.
func wantEnds(s api.Span, f func(end *big.Int) *big.Int, early api.Errno) (api.Span, api.Errno) {
	if early != api.OK {
		return api.Span{}, early
	}
	low, high := f(bigOf(s.Low)), f(bigOf(s.High))
	if low.Cmp(high) > 0 {
		low, high = high, low
	}
	if low.Cmp(bigOf(-wide)) < 0 || high.Cmp(bigOf(wide)) > 0 {
		return api.Span{}, api.ErrRange
	}
	return to(int(low.Int64()), int(high.Int64())), api.OK
}

func TestSameCallsTellTheSame(t *testing.T) {
	for range 2 {
		s, e := Scale(to(1, 3), -2)
		wantSpan(t, "Scale", s, e, to(-6, -2), api.OK)
		s, e = Scale(to(3, 1), -2)
		wantSpan(t, "Scale", s, e, api.Span{}, api.ErrBad)
		s, e = Join(to(1, 3), to(7, 9))
		wantSpan(t, "Join", s, e, to(1, 9), api.OK)
	}
}
