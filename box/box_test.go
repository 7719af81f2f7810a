package box

import (
	"math"
	"math/big"
	"slices"
	"testing"

	"diorama/api"
	"diorama/vec"
)

const (
	view = 1 << 15
	mat  = 1024
)

func of(x, y, z int) api.Vec { return api.Vec{X: x, Y: y, Z: z} }

func boxOf(x, y, z, toX, toY, toZ int) api.Box {
	return api.Box{Low: of(x, y, z), High: of(toX, toY, toZ)}
}

func rows(a, b, c [3]int) [3][3]int { return [3][3]int{a, b, c} }

func unit() [3][3]int { return rows([3]int{256, 0, 0}, [3]int{0, 256, 0}, [3]int{0, 0, 256}) }

func all() api.Box { return boxOf(-view, -view, -view, view, view, view) }

// beyond are numbers just and far beyond a limit, of either sign.
func beyond(limit int) []int {
	return []int{
		limit + 1, -limit - 1, 2 * limit, -2 * limit, 1 << 32, -1 << 32, 1<<63 - 1, -1 << 63,
		math.MinInt + 1, math.MaxInt - 1, math.MinInt + limit, math.MaxInt - limit,
	}
}

func within(limit int) []int { return []int{0, 1, -1, limit - 1, 1 - limit, limit, -limit} }

func setVec(v *api.Vec, place, n int) { *[]*int{&v.X, &v.Y, &v.Z}[place] = n }

func vecWith(place, n int) api.Vec {
	v := of(1, -2, 3)
	setVec(&v, place, n)
	return v
}

// sideOf is a box that goes from low to high at one place, and elsewhere as it may.
func sideOf(place, low, high int) api.Box {
	b := boxOf(-3, -4, 5, 3, -4, 6)
	setVec(&b.Low, place, low)
	setVec(&b.High, place, high)
	return b
}

func rowsWith(place, n int) [3][3]int {
	m := rows([3]int{1, -2, 3}, [3]int{-4, 5, -6}, [3]int{7, -8, 9})
	m[place/3][place%3] = n
	return m
}

// wrongBoxes may not be, each for one reason.
func wrongBoxes() []api.Box {
	var l []api.Box
	for place := range 3 {
		l = append(l, sideOf(place, 1, 0), sideOf(place, view, -view), sideOf(place, math.MaxInt, math.MinInt), sideOf(place, math.MinInt, math.MaxInt))
		l = append(l, sideOf(place, view, view-1), sideOf(place, 1-view, -view))
		for _, n := range beyond(view) {
			l = append(l, sideOf(place, n, n), sideOf(place, min(n, 0), max(n, 0)), sideOf(place, max(n, 0), min(n, 0)))
		}
	}
	return l
}

// numbersFrom are numbers from -limit to limit, the same ones in each run, the ends often among them.
func numbersFrom(seed uint64) func(limit int) int {
	return func(limit int) int {
		seed = seed*6364136223846793005 + 1442695040888963407
		n := int(seed>>33) % (2*limit + 1)
		switch seed >> 60 {
		case 0:
			return limit
		case 1:
			return -limit
		}
		return n - limit
	}
}

func someVec(next func(int) int, limit int) api.Vec {
	return of(next(limit), next(limit), next(limit))
}

func someBox(next func(int) int, limit int) api.Box {
	v, w := someVec(next, limit), someVec(next, limit)
	return wantLeast([]api.Vec{v, w})
}

func someRows(next func(int) int, limit int) [3][3]int {
	var m [3][3]int
	for i := range 9 {
		m[i/3][i%3] = next(limit)
	}
	return m
}

func sorted(l []api.Vec, number func(api.Vec) int) []int {
	var n []int
	for _, v := range l {
		n = append(n, number(v))
	}
	slices.Sort(n)
	return n
}

func wantLeast(l []api.Vec) api.Box {
	x := sorted(l, func(v api.Vec) int { return v.X })
	y := sorted(l, func(v api.Vec) int { return v.Y })
	z := sorted(l, func(v api.Vec) int { return v.Z })
	last := len(l) - 1
	return boxOf(x[0], y[0], z[0], x[last], y[last], z[last])
}

func wantMayBe(b api.Box) bool {
	low, high := [3]int{b.Low.X, b.Low.Y, b.Low.Z}, [3]int{b.High.X, b.High.Y, b.High.Z}
	for i := range 3 {
		for _, n := range []int{low[i], high[i]} {
			if n < -view || n > view {
				return false
			}
		}
		if low[i] > high[i] {
			return false
		}
	}
	return true
}

func cornersOf(b api.Box) []api.Vec {
	var l []api.Vec
	for _, x := range []int{b.Low.X, b.High.X} {
		for _, y := range []int{b.Low.Y, b.High.Y} {
			for _, z := range []int{b.Low.Z, b.High.Z} {
				l = append(l, of(x, y, z))
			}
		}
	}
	return l
}

// exact is a sum of three products by 256, rounded down, by math/big alone.
func exact(a, b [3]int) int {
	sum := new(big.Int)
	for i := range 3 {
		sum.Add(sum, new(big.Int).Mul(big.NewInt(int64(a[i])), big.NewInt(int64(b[i]))))
	}
	n, _ := new(big.Int).DivMod(sum, big.NewInt(256), new(big.Int))
	return int(n.Int64())
}

// wantTurned goes by the eight corners, not by spans.
func wantTurned(m [3][3]int, b api.Box) api.Box {
	var l []api.Vec
	for _, v := range cornersOf(b) {
		p := [3]int{v.X, v.Y, v.Z}
		l = append(l, of(exact(m[0], p), exact(m[1], p), exact(m[2], p)))
	}
	return wantLeast(l)
}

func checkOf(t *testing.T, l []api.Vec, want api.Box, f api.Errno) {
	t.Helper()
	if got, e := Of(l); got != want || e != f {
		t.Errorf("Of(%d points): %v, %d; want %v, %d", len(l), got, e, want, f)
	}
}

func checkJoin(t *testing.T, a, b, want api.Box, f api.Errno) {
	t.Helper()
	if got, e := Join(a, b); got != want || e != f {
		t.Errorf("Join(%v, %v): %v, %d; want %v, %d", a, b, got, e, want, f)
	}
}

func checkTurned(t *testing.T, m [3][3]int, b, want api.Box, f api.Errno) {
	t.Helper()
	if got, e := Turned(m, b); got != want || e != f {
		t.Errorf("Turned(%v, %v): %v, %d; want %v, %d", m, b, got, e, want, f)
	}
}

func TestP3_1Check(t *testing.T) {
	for place := range 3 {
		for _, n := range within(view) {
			for _, b := range []api.Box{sideOf(place, n, n), sideOf(place, -view, n), sideOf(place, n, view)} {
				if e := Check(b); e != api.OK {
					t.Errorf("Check(%v): %d", b, e)
				}
			}
		}
	}
	for _, b := range []api.Box{{}, all(), boxOf(1, 2, 0, 3, 5, 0), boxOf(view, view, view, view, view, view)} {
		if e := Check(b); e != api.OK {
			t.Errorf("Check(%v): %d", b, e)
		}
	}
	if e := Check(boxOf(1, 0, 0, 0, 0, 0)); e != api.ErrBad {
		t.Error(e)
	}
	for _, b := range wrongBoxes() {
		if e := Check(b); e != api.ErrBad {
			t.Errorf("Check(%v): %d", b, e)
		}
	}
}

func TestP3_1Holds(t *testing.T) {
	ends := []int{math.MinInt, -view - 1, -view, -3, -2, 0, 4, 5, view, view + 1, math.MaxInt}
	for place := range 3 {
		for _, low := range ends {
			for _, high := range ends {
				for _, n := range ends {
					b, v := boxOf(1, -2, 3, 1, -2, 3), vecWith(place, n)
					setVec(&b.Low, place, low)
					setVec(&b.High, place, high)
					if got, want := Holds(b, v), low <= n && n <= high; got != want {
						t.Errorf("Holds(%v, %v): %v", b, v, got)
					}
				}
			}
		}
	}
	b := boxOf(1, 2, 0, 3, 5, 0)
	for _, v := range cornersOf(b) {
		if !Holds(b, v) {
			t.Error(v)
		}
	}
	for _, v := range []api.Vec{of(0, 2, 0), of(4, 5, 0), of(1, 1, 0), of(1, 6, 0), of(1, 2, 1), of(1, 2, -1)} {
		if Holds(b, v) {
			t.Error(v)
		}
	}
}

func TestP3_1Inside(t *testing.T) {
	ends := []int{math.MinInt, -view - 1, -3, -2, 4, view + 1, math.MaxInt}
	for place := range 3 {
		for i := range len(ends) * len(ends) {
			for k := range len(ends) * len(ends) {
				low, high := ends[i/len(ends)], ends[i%len(ends)]
				toLow, toHigh := ends[k/len(ends)], ends[k%len(ends)]
				a, b := sideOf(place, low, high), sideOf(place, toLow, toHigh)
				if got, want := Inside(a, b), low >= toLow && high <= toHigh; got != want {
					t.Fatalf("Inside(%v, %v): %v", a, b, got)
				}
			}
		}
	}
	b := boxOf(1, 2, 0, 3, 5, 0)
	if !Inside(b, b) || !Inside(boxOf(2, 3, 0, 2, 4, 0), b) || Inside(b, boxOf(2, 3, 0, 2, 4, 0)) {
		t.Error("a box and one in it")
	}
	if !Inside(boxOf(3, 5, 0, 1, 2, 0), b) {
		t.Error("ends turned about lie within, too")
	}
}

func TestP3_2Of(t *testing.T) {
	checkOf(t, []api.Vec{of(1, 5, 0), of(3, 2, 0)}, boxOf(1, 2, 0, 3, 5, 0), api.OK)
	checkOf(t, []api.Vec{of(-7, 8, -9)}, boxOf(-7, 8, -9, -7, 8, -9), api.OK)
	checkOf(t, []api.Vec{of(1, 2, 3), of(-1, 5, 3), of(0, 0, 9)}, boxOf(-1, 0, 3, 1, 5, 9), api.OK)
	checkOf(t, cornersOf(all()), all(), api.OK)
	checkOf(t, nil, api.Box{}, api.ErrMany)
	checkOf(t, []api.Vec{}, api.Box{}, api.ErrMany)

	l := make([]api.Vec, 4097)
	for i := range l {
		l[i] = of(5, -5, 5)
	}
	l[4095] = of(6, -7, 8)
	checkOf(t, l[:4096], boxOf(5, -7, 5, 6, -5, 8), api.OK)
	checkOf(t, l, api.Box{}, api.ErrMany)
	l[0] = of(view+1, 0, 0)
	checkOf(t, l, api.Box{}, api.ErrMany)
	checkOf(t, l[:4096], api.Box{}, api.ErrRange)

	next := numbersFrom(3)
	for n := range 300 {
		l := make([]api.Vec, n%17+1)
		for i := range l {
			l[i] = someVec(next, []int{view, 100, 3}[n%3])
		}
		checkOf(t, l, wantLeast(l), api.OK)
	}
}

func TestP3_2OfBeyond(t *testing.T) {
	for place := range 3 {
		for _, n := range within(view) {
			v := vecWith(place, n)
			checkOf(t, []api.Vec{v}, api.Box{Low: v, High: v}, api.OK)
		}
		for _, n := range beyond(view) {
			for at := range 3 {
				l := []api.Vec{of(1, 2, 3), of(4, 5, 6), of(-7, 8, 9)}
				l[at] = vecWith(place, n)
				checkOf(t, l, api.Box{}, api.ErrRange)
			}
		}
	}
}

func TestP3_2Join(t *testing.T) {
	first := boxOf(1, 2, 0, 3, 5, 0)
	checkJoin(t, first, boxOf(0, 0, 9, 0, 0, 9), boxOf(0, 0, 0, 3, 5, 9), api.OK)
	checkJoin(t, boxOf(0, 0, 9, 0, 0, 9), first, boxOf(0, 0, 0, 3, 5, 9), api.OK)
	checkJoin(t, first, first, first, api.OK)
	checkJoin(t, first, all(), all(), api.OK)
	checkJoin(t, boxOf(-view, 7, -9, -view, 7, -9), boxOf(view, 8, -5, view, 8, -4), boxOf(-view, 7, -9, view, 8, -4), api.OK)

	next := numbersFrom(32)
	for n := range 500 {
		limit := []int{view, 100, 3}[n%3]
		a, b := someBox(next, limit), someBox(next, limit)
		checkJoin(t, a, b, wantLeast([]api.Vec{a.Low, a.High, b.Low, b.High}), api.OK)
	}
	for _, b := range wrongBoxes() {
		checkJoin(t, first, b, api.Box{}, api.ErrBad)
		checkJoin(t, b, first, api.Box{}, api.ErrBad)
		checkJoin(t, b, b, api.Box{}, api.ErrBad)
	}
}

// The eight corners of both boxes are what Join goes by.
func TestP3_2Corners(t *testing.T) {
	b := boxOf(1, 2, 3, 4, 5, 6)
	want := []api.Vec{of(1, 2, 3), of(4, 2, 3), of(1, 5, 3), of(4, 5, 3), of(1, 2, 6), of(4, 2, 6), of(1, 5, 6), of(4, 5, 6)}
	for i, v := range want {
		if got := corner(b, i); got != v {
			t.Errorf("corner %d: %v, want %v", i, got, v)
		}
	}
}

func TestP3_3Turned(t *testing.T) {
	first := boxOf(1, 2, 0, 3, 5, 0)
	checkTurned(t, rows([3]int{128, 0, 0}, [3]int{0, -256, 0}, [3]int{256, 256, 0}), first, boxOf(0, -5, 3, 1, -2, 8), api.OK)
	checkTurned(t, unit(), first, first, api.OK)
	checkTurned(t, unit(), all(), all(), api.OK)
	checkTurned(t, [3][3]int{}, all(), api.Box{}, api.OK)
	// -1 by 256 is, rounded down, -1; three of them, rounded once, are still -1.
	checkTurned(t, rows([3]int{-1, 0, 0}, [3]int{-1, -1, -1}, [3]int{1, 1, 1}), boxOf(1, 1, 1, 1, 1, 1), boxOf(-1, -1, 0, -1, -1, 0), api.OK)
	checkTurned(t, rows([3]int{1, 0, 0}, [3]int{0, 1, 0}, [3]int{0, 0, -1}), boxOf(-257, -256, -1, -1, 255, 256), boxOf(-2, -1, -1, -1, 0, 0), api.OK)
	checkTurned(t, rows([3]int{1, 0, 0}, [3]int{100, 100, 56}, [3]int{-100, -100, -56}), boxOf(255, 1, 1, 256, 1, 1), boxOf(0, 100, -101, 1, 100, -101), api.OK)
}

func TestP3_3TurnedMany(t *testing.T) {
	next := numbersFrom(33)
	fine := 0
	for n := range 6000 {
		m := someRows(next, []int{mat, 256, 3, 130}[n%4])
		b := someBox(next, []int{view, 9000, 300, 2}[n/4%4])
		want, f := wantTurned(m, b), api.OK
		if !wantMayBe(want) {
			want, f = api.Box{}, api.ErrRange
		} else {
			fine++
		}
		checkTurned(t, m, b, want, f)
	}
	if fine < 1000 || fine > 5900 {
		t.Error("too few of one kind:", fine)
	}
}

func TestP3_3TurnedLimits(t *testing.T) {
	b := boxOf(-5, -6, -7, 8, 9, 10)
	for place := range 9 {
		for _, n := range within(mat) {
			m := rowsWith(place, n)
			checkTurned(t, m, b, wantTurned(m, b), api.OK)
		}
		for _, n := range beyond(mat) {
			checkTurned(t, rowsWith(place, n), b, api.Box{}, api.ErrArg)
			checkTurned(t, rowsWith(place, n), boxOf(1, 0, 0, 0, 0, 0), api.Box{}, api.ErrArg)
			checkTurned(t, rowsWith(place, n), all(), api.Box{}, api.ErrArg)
		}
	}
	full := rows([3]int{mat, mat, mat}, [3]int{mat, mat, mat}, [3]int{mat, mat, mat})
	for _, b := range wrongBoxes() {
		checkTurned(t, unit(), b, api.Box{}, api.ErrBad)
		checkTurned(t, full, b, api.Box{}, api.ErrBad)
	}
	checkTurned(t, full, all(), api.Box{}, api.ErrRange)
}

// A turned box just within what may be, and just beyond it, at each of the three numbers and at either end.
func TestP3_3TurnedBeyond(t *testing.T) {
	for place := range 3 {
		for _, sign := range []int{1, -1} {
			m := unit()
			m[place][place] = 512 * sign
			half := sideOf(place, -view/2, view/2)
			checkTurned(t, m, half, wantTurned(m, half), api.OK)
			checkTurned(t, m, sideOf(place, -view/2, view/2+1), api.Box{}, api.ErrRange)
			checkTurned(t, m, sideOf(place, -view/2-1, view/2), api.Box{}, api.ErrRange)

			m[place] = [3]int{1, 1, 1}
			m[place][place] = 256 * sign
			// What is less than one above the upper end is rounded down to it; what is less than one below the lower end is beyond.
			b := boxOf(85, 85, 85, 85, 85, 85)
			setVec(&b.Low, place, view*sign)
			setVec(&b.High, place, view*sign)
			checkTurned(t, m, b, wantTurned(m, b), api.OK)
			c := boxOf(-1, 0, 0, -1, 0, 0)
			if place == 0 {
				c = boxOf(0, -1, 0, 0, -1, 0)
			}
			setVec(&c.Low, place, -view*sign)
			setVec(&c.High, place, -view*sign)
			checkTurned(t, m, c, api.Box{}, api.ErrRange)
		}
	}
}

func TestP3_4OnlyRead(t *testing.T) {
	spare := []api.Vec{of(9, 8, 7), of(3, 2, 1), of(5, 5, 5), of(view+1, 0, 0), of(-1, -2, -3)}
	for n := range len(spare) + 1 {
		held := slices.Clone(spare)
		a, e := Of(held[:n])
		if b, f := Of(held[:n]); a != b || e != f {
			t.Error(n, a, b, e, f)
		}
		if !slices.Equal(held, spare) {
			t.Error(n, held)
		}
	}
	a, b, m := boxOf(1, 2, 0, 3, 5, 0), boxOf(0, 0, 9, 0, 0, 9), unit()
	v := of(1, 2, 3)
	Check(a)
	Join(a, b)
	Holds(a, v)
	Inside(a, b)
	Turned(m, a)
	if a != boxOf(1, 2, 0, 3, 5, 0) || b != boxOf(0, 0, 9, 0, 0, 9) || m != unit() || v != of(1, 2, 3) {
		t.Error(a, b, m, v)
	}
}

// inner are some points of a box, its corners among them.
func inner(next func(int) int, b api.Box) []api.Vec {
	l := cornersOf(b)
	pick := func(low, high int) int { return low + (next(view)+view)%(high-low+1) }
	for range 10 {
		l = append(l, of(pick(b.Low.X, b.High.X), pick(b.Low.Y, b.High.Y), pick(b.Low.Z, b.High.Z)))
	}
	return l
}

func TestP3_5TurnedHolds(t *testing.T) {
	next := numbersFrom(35)
	for n := range 2000 {
		m := someRows(next, []int{mat, 200, 3}[n%3])
		b := someBox(next, []int{view / 4, 1000, 5}[n/3%3])
		to, e := Turned(m, b)
		if e != api.OK {
			continue
		}
		var turned []api.Vec
		for i, v := range inner(next, b) {
			w, e := vec.Turn(m, v)
			if e != api.OK || !Holds(to, w) {
				t.Fatalf("Turned(%v, %v) is %v, without %v", m, b, to, w)
			}
			if i < 8 {
				turned = append(turned, w)
			}
		}
		checkOf(t, turned, to, api.OK)
	}
}

func TestP3_5TurnedInside(t *testing.T) {
	next := numbersFrom(350)
	for n := range 2000 {
		m := someRows(next, []int{mat, 200, 3}[n%3])
		b := someBox(next, []int{view / 4, 1000, 5}[n/3%3])
		l := inner(next, b)
		a, e := Of(l[8:10])
		if e != api.OK || !Inside(a, b) {
			t.Fatal(a, b, e)
		}
		outer, e := Turned(m, b)
		if e != api.OK {
			continue
		}
		if to, e := Turned(m, a); e != api.OK || !Inside(to, outer) {
			t.Fatalf("Turned(%v, %v) is %v, not in %v", m, a, to, outer)
		}
	}
}

func TestP3_5JoinAndOfHold(t *testing.T) {
	next := numbersFrom(5)
	for n := range 1000 {
		limit := []int{view, 100, 3}[n%3]
		a, b := someBox(next, limit), someBox(next, limit)
		j, e := Join(a, b)
		if e != api.OK || !Inside(a, j) || !Inside(b, j) {
			t.Fatal(a, b, j, e)
		}
		l := append(inner(next, a), inner(next, b)...)
		of, e := Of(l)
		if e != api.OK || of != j {
			t.Fatal(of, j, e)
		}
		for _, v := range l {
			if !Holds(j, v) || !Holds(of, v) {
				t.Fatal(v, j, of)
			}
		}
	}
}
