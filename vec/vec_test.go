package vec

import (
	"math"
	"math/big"
	"testing"

	"diorama/api"
)

const (
	coord = 4096
	mat   = 1024
	view  = 1 << 15
)

func of(x, y, z int) api.Vec { return api.Vec{X: x, Y: y, Z: z} }

func rows(a, b, c [3]int) [3][3]int { return [3][3]int{a, b, c} }

func unitMoved(x, y, z int) api.Mat {
	return api.Mat{M: rows([3]int{256, 0, 0}, [3]int{0, 256, 0}, [3]int{0, 0, 256}), T: of(x, y, z)}
}

// beyond are numbers just and far beyond a limit, of either sign.
func beyond(limit int) []int {
	return []int{
		limit + 1, -limit - 1, 2 * limit, -2 * limit, 1 << 32, -1 << 32, 1<<63 - 1, -1 << 63,
		math.MinInt + 1, math.MaxInt - 1, math.MinInt + limit, math.MaxInt - limit,
	}
}

func within(limit int) []int { return []int{0, 1, -1, limit - 1, 1 - limit, limit, -limit} }

// vecWith has n at one place, and else other numbers that may be.
func vecWith(place, n int) api.Vec {
	v := of(1, -2, 3)
	*[]*int{&v.X, &v.Y, &v.Z}[place] = n
	return v
}

func rowsWith(place, n int) [3][3]int {
	m := rows([3]int{1, -2, 3}, [3]int{-4, 5, -6}, [3]int{7, -8, 9})
	m[place/3][place%3] = n
	return m
}

// numbersFrom are numbers from -limit to limit, the same ones in each run, the ends often among them.
func numbersFrom(seed uint64) func(limit int) int {
	return func(limit int) int {
		seed = seed*6364136223846793005 + 1442695040888963407
		n := int(seed>>33) % (2*limit + 1)
		switch seed >> 60 {
		case 0:
			return limit
		case 1:
			return -limit
		}
		return n - limit
	}
}

func someRows(next func(int) int, limit int) [3][3]int {
	var m [3][3]int
	for i := range 9 {
		m[i/3][i%3] = next(limit)
	}
	return m
}

func someVec(next func(int) int, limit int) api.Vec {
	return of(next(limit), next(limit), next(limit))
}

// exact is a sum of three products by 256, rounded down, by math/big alone.
func exact(a, b [3]int) int {
	sum := new(big.Int)
	for i := range 3 {
		sum.Add(sum, new(big.Int).Mul(big.NewInt(int64(a[i])), big.NewInt(int64(b[i]))))
	}
	n, _ := new(big.Int).DivMod(sum, big.NewInt(256), new(big.Int))
	return int(n.Int64())
}

func wantTurned(m [3][3]int, v api.Vec) api.Vec {
	p := [3]int{v.X, v.Y, v.Z}
	return of(exact(m[0], p), exact(m[1], p), exact(m[2], p))
}

func wantMoved(m api.Mat, v api.Vec) api.Vec {
	w := wantTurned(m.M, v)
	return of(w.X+m.T.X, w.Y+m.T.Y, w.Z+m.T.Z)
}

func wantMul(a, b api.Mat) api.Mat {
	m := api.Mat{T: wantMoved(a, b.T)}
	for i := range 3 {
		for k := range 3 {
			m.M[i][k] = exact(a.M[i], [3]int{b.M[0][k], b.M[1][k], b.M[2][k]})
		}
	}
	return m
}

func inWorld(v api.Vec) bool {
	return max(v.X, v.Y, v.Z) <= coord && min(v.X, v.Y, v.Z) >= -coord
}

func mayBe(m api.Mat) bool {
	for i := range 9 {
		if n := m.M[i/3][i%3]; n > mat || n < -mat {
			return false
		}
	}
	return inWorld(m.T)
}

func checkTurn(t *testing.T, m [3][3]int, v, want api.Vec, f api.Errno) {
	t.Helper()
	if got, e := Turn(m, v); got != want || e != f {
		t.Errorf("Turn(%v, %v): %v, %d; want %v, %d", m, v, got, e, want, f)
	}
}

func checkImage(t *testing.T, m api.Mat, v, want api.Vec, f api.Errno) {
	t.Helper()
	if got, e := Image(m, v); got != want || e != f {
		t.Errorf("Image(%v, %v): %v, %d; want %v, %d", m, v, got, e, want, f)
	}
}

func checkMul(t *testing.T, a, b, want api.Mat, f api.Errno) {
	t.Helper()
	if got, e := Mul(a, b); got != want || e != f {
		t.Errorf("Mul(%v, %v): %v, %d; want %v, %d", a, b, got, e, want, f)
	}
}

func TestP2_1Check(t *testing.T) {
	for place := range 3 {
		for _, n := range within(coord) {
			if e := Check(vecWith(place, n)); e != api.OK {
				t.Errorf("%d at place %d: %d", n, place, e)
			}
		}
		for _, n := range beyond(coord) {
			if e := Check(vecWith(place, n)); e != api.ErrRange {
				t.Errorf("%d at place %d: %d", n, place, e)
			}
		}
	}
	if Check(api.Vec{}) != api.OK || Check(of(coord, coord, coord)) != api.OK || Check(of(-coord, -coord, -coord)) != api.OK {
		t.Error("a corner of the world")
	}
	if Check(of(coord+1, 0, 0)) != api.ErrRange || Check(of(math.MinInt, math.MaxInt, math.MinInt)) != api.ErrRange {
		t.Error("beyond the world")
	}
}

func TestP2_1CheckMatOfRows(t *testing.T) {
	for place := range 9 {
		for _, n := range within(mat) {
			if e := CheckMat(api.Mat{M: rowsWith(place, n)}); e != api.OK {
				t.Errorf("%d at place %d: %d", n, place, e)
			}
		}
		for _, n := range beyond(mat) {
			if e := CheckMat(api.Mat{M: rowsWith(place, n)}); e != api.ErrRange {
				t.Errorf("%d at place %d: %d", n, place, e)
			}
		}
	}
}

func TestP2_1CheckMatOfTranslations(t *testing.T) {
	for place := range 3 {
		for _, n := range within(coord) {
			if e := CheckMat(api.Mat{M: Unit().M, T: vecWith(place, n)}); e != api.OK {
				t.Errorf("%d at place %d: %d", n, place, e)
			}
		}
		for _, n := range beyond(coord) {
			if e := CheckMat(api.Mat{M: Unit().M, T: vecWith(place, n)}); e != api.ErrRange {
				t.Errorf("%d at place %d: %d", n, place, e)
			}
		}
	}
	if CheckMat(api.Mat{}) != api.OK {
		t.Error("the zero matrix may be")
	}
}

func TestP2_1Unit(t *testing.T) {
	want := api.Mat{M: [3][3]int{{256, 0, 0}, {0, 256, 0}, {0, 0, 256}}}
	first := Unit()
	if first != want || CheckMat(first) != api.OK {
		t.Error(first)
	}
	first.M[0][0], first.T.X = 1, 1
	if Unit() != want {
		t.Error("Unit hangs on what became of an earlier one")
	}
}

func TestP2_2TurnExamples(t *testing.T) {
	half := rows([3]int{128, 0, 0}, [3]int{0, -128, 0}, [3]int{0, 0, 256})
	checkTurn(t, half, of(3, 3, 3), of(1, -2, 3), api.OK)
	checkTurn(t, half, of(-3, -3, -3), of(-2, 1, -3), api.OK)
	checkTurn(t, half, api.Vec{}, api.Vec{}, api.OK)
	checkTurn(t, [3][3]int{}, of(view, -view, 1), api.Vec{}, api.OK)
	// Each number of m, and each of v, has its own place.
	checkTurn(t, rows([3]int{256, 512, 768}, [3]int{-256, 0, 256}, [3]int{0, 1024, -1024}), of(1, 10, 100), of(321, 99, -360), api.OK)
}

func TestP2_2TurnRoundsTheWholeSumDown(t *testing.T) {
	// The parts would come to 0 or -1 each, if they were rounded by themselves.
	checkTurn(t, rows([3]int{128, 128, 0}, [3]int{-128, -128, 0}, [3]int{-128, 127, 1}), of(1, 1, 1), of(1, -1, 0), api.OK)
	checkTurn(t, rows([3]int{1, 0, 0}, [3]int{-1, 0, 0}, [3]int{0, 0, 0}), of(1, 0, 0), of(0, -1, 0), api.OK)
	checkTurn(t, rows([3]int{1, 0, 0}, [3]int{-1, 0, 0}, [3]int{2, -1, 0}), of(255, 0, 0), of(0, -1, 1), api.OK)
	checkTurn(t, rows([3]int{1, 0, 0}, [3]int{-1, 0, 0}, [3]int{0, 0, 0}), of(256, 0, 0), of(1, -1, 0), api.OK)
	checkTurn(t, rows([3]int{1, 0, 0}, [3]int{-1, 0, 0}, [3]int{0, 0, 0}), of(257, 0, 0), of(1, -2, 0), api.OK)
}

func TestP2_2TurnAtItsLimits(t *testing.T) {
	most := [3]int{mat, mat, mat}
	least := [3]int{-mat, -mat, -mat}
	greatest := 3 * 4 * view
	checkTurn(t, rows(most, least, most), of(view, view, view), of(greatest, -greatest, greatest), api.OK)
	checkTurn(t, rows(most, least, most), of(-view, -view, -view), of(-greatest, greatest, -greatest), api.OK)
	for place := range 9 {
		for _, n := range within(mat) {
			m := rowsWith(place, n)
			checkTurn(t, m, of(5, -6, 7), wantTurned(m, of(5, -6, 7)), api.OK)
		}
		for _, n := range beyond(mat) {
			checkTurn(t, rowsWith(place, n), of(5, -6, 7), api.Vec{}, api.ErrArg)
			checkTurn(t, rowsWith(place, n), vecWith(place%3, math.MinInt), api.Vec{}, api.ErrArg)
		}
	}
	for place := range 3 {
		for _, n := range within(view) {
			v := vecWith(place, n)
			checkTurn(t, rowsWith(0, 11), v, wantTurned(rowsWith(0, 11), v), api.OK)
		}
		for _, n := range beyond(view) {
			checkTurn(t, rowsWith(0, 11), vecWith(place, n), api.Vec{}, api.ErrArg)
			checkTurn(t, [3][3]int{}, vecWith(place, n), api.Vec{}, api.ErrArg)
		}
	}
}

func TestP2_2TurnOfMany(t *testing.T) {
	next := numbersFrom(22)
	for range 4000 {
		m, v := someRows(next, mat), someVec(next, view)
		checkTurn(t, m, v, wantTurned(m, v), api.OK)
	}
}

func TestP2_3ImageExamples(t *testing.T) {
	checkImage(t, unitMoved(1, 2, 3), of(10, 20, 30), of(11, 22, 33), api.OK)
	checkImage(t, unitMoved(coord, 0, 0), of(1, 0, 0), api.Vec{}, api.ErrRange)
	quarter := api.Mat{M: rows([3]int{0, -256, 0}, [3]int{256, 0, 0}, [3]int{0, 0, 256}), T: of(100, 0, -7)}
	checkImage(t, quarter, of(1, 2, 3), of(98, 1, -4), api.OK)
	// What is turned is rounded, then moved.
	half := api.Mat{M: rows([3]int{128, 0, 0}, [3]int{0, 128, 0}, [3]int{0, 0, 128}), T: of(10, 10, -10)}
	checkImage(t, half, of(3, -3, -1), of(11, 8, -11), api.OK)
}

func TestP2_3ImageAtTheWorldsEnd(t *testing.T) {
	for place := range 3 {
		m := api.Mat{M: Unit().M, T: vecWith(place, coord-1)}
		checkImage(t, m, vecWith(place, 1), wantMoved(m, vecWith(place, 1)), api.OK)
		checkImage(t, m, vecWith(place, 2), api.Vec{}, api.ErrRange)
		m.T = vecWith(place, 1-coord)
		checkImage(t, m, vecWith(place, -1), wantMoved(m, vecWith(place, -1)), api.OK)
		checkImage(t, m, vecWith(place, -2), api.Vec{}, api.ErrRange)
	}
	// A part of one above the upper end falls away; below the lower end it makes one more.
	whole := [3]int{256, 0, 0}
	little := api.Mat{M: rows([3]int{256, 1, 0}, whole, whole)}
	checkImage(t, little, of(coord, 255, 0), of(coord, coord, coord), api.OK)
	checkImage(t, little, of(coord, 256, 0), api.Vec{}, api.ErrRange)
	checkImage(t, little, of(-coord, 0, 0), of(-coord, -coord, -coord), api.OK)
	checkImage(t, little, of(-coord, -1, 0), api.Vec{}, api.ErrRange)
	// Beyond the world on the way, and back by the translation.
	twice := api.Mat{M: rows([3]int{512, 0, 0}, [3]int{}, [3]int{}), T: of(-coord, 0, 0)}
	checkImage(t, twice, of(coord, 0, 0), of(coord, 0, 0), api.OK)
	four := api.Mat{M: rows([3]int{mat, mat, mat}, [3]int{}, [3]int{}), T: of(coord, coord, coord)}
	checkImage(t, four, of(coord, coord, coord), api.Vec{}, api.ErrRange)
	checkImage(t, four, of(-coord, -coord, -coord), api.Vec{}, api.ErrRange)
}

func TestP2_3ImageOfWhatMayNotBe(t *testing.T) {
	for place := range 9 {
		for _, n := range beyond(mat) {
			checkImage(t, api.Mat{M: rowsWith(place, n)}, api.Vec{}, api.Vec{}, api.ErrRange)
			checkImage(t, api.Mat{M: rowsWith(place, n)}, of(math.MinInt, 0, 0), api.Vec{}, api.ErrRange)
		}
	}
	for place := range 3 {
		for _, n := range beyond(coord) {
			checkImage(t, api.Mat{M: Unit().M, T: vecWith(place, n)}, api.Vec{}, api.Vec{}, api.ErrRange)
			// The point may not be, though its image would.
			checkImage(t, api.Mat{}, vecWith(place, n), api.Vec{}, api.ErrRange)
		}
		back := api.Mat{M: Unit().M, T: vecWith(place, -2)}
		checkImage(t, back, vecWith(place, coord+1), api.Vec{}, api.ErrRange)
		back.T = vecWith(place, -coord-1)
		checkImage(t, back, vecWith(place, 2), api.Vec{}, api.ErrRange)
	}
}

func TestP2_3ImageOfMany(t *testing.T) {
	next := numbersFrom(23)
	told := 0
	for i := range 4000 {
		m, v := api.Mat{M: someRows(next, mat), T: someVec(next, coord)}, someVec(next, coord>>(i%6))
		want := wantMoved(m, v)
		if inWorld(want) {
			told++
			checkImage(t, m, v, want, api.OK)
		} else {
			checkImage(t, m, v, api.Vec{}, api.ErrRange)
		}
	}
	if told < 500 || told > 3500 {
		t.Error("too few of one kind:", told)
	}
}

func TestP2_3MulExamples(t *testing.T) {
	checkMul(t, unitMoved(1, 0, 0), unitMoved(0, 1, 0), unitMoved(1, 1, 0), api.OK)
	quarter := api.Mat{M: rows([3]int{0, -256, 0}, [3]int{256, 0, 0}, [3]int{0, 0, 256}), T: of(100, 0, 0)}
	half := api.Mat{M: rows([3]int{128, 0, 0}, [3]int{0, 128, 0}, [3]int{0, 0, 128}), T: of(0, 7, 0)}
	// Which one is done first is to be seen in T.
	checkMul(t, half, quarter, api.Mat{M: rows([3]int{0, -128, 0}, [3]int{128, 0, 0}, [3]int{0, 0, 128}), T: of(50, 7, 0)}, api.OK)
	checkMul(t, quarter, half, api.Mat{M: rows([3]int{0, -128, 0}, [3]int{128, 0, 0}, [3]int{0, 0, 128}), T: of(93, 0, 0)}, api.OK)
	// Rows by columns, not rows by rows.
	a := api.Mat{M: rows([3]int{256, 512, 0}, [3]int{0, 256, 0}, [3]int{0, 0, 256})}
	b := api.Mat{M: rows([3]int{256, 0, 0}, [3]int{256, 256, 0}, [3]int{0, -512, 256})}
	checkMul(t, a, b, api.Mat{M: rows([3]int{768, 512, 0}, [3]int{256, 256, 0}, [3]int{0, -512, 256})}, api.OK)
}

func TestP2_3MulRoundsTheWholeSumDown(t *testing.T) {
	a := api.Mat{M: rows([3]int{1, 0, 0}, [3]int{-1, 0, 0}, [3]int{128, 128, 0})}
	b := api.Mat{M: rows([3]int{1, 255, 256}, [3]int{1, 1, 0}, [3]int{0, 0, 0}), T: of(1, -1, 0)}
	want := api.Mat{M: rows([3]int{0, 0, 1}, [3]int{-1, -1, -1}, [3]int{1, 128, 128}), T: of(0, -1, 0)}
	checkMul(t, a, b, want, api.OK)
}

func TestP2_3MulAtTheLimitOfRows(t *testing.T) {
	for place := range 9 {
		i, k := place/3, place%3
		j := (i + 1) % 3
		var a, b api.Mat
		// In row i, place k stands 256 n + 1 p, by 256; all else is far from a limit.
		a.M[i][i], a.M[i][j] = 256, 1
		set := func(n, p int) api.Mat { b.M[i][k], b.M[j][k] = n, p; return b }
		for _, c := range []struct {
			n, p, want int
			e          api.Errno
		}{
			{mat, 0, mat, api.OK}, {mat, 255, mat, api.OK}, {mat, 256, 0, api.ErrRange}, {mat - 1, 256, mat, api.OK},
			{-mat, 0, -mat, api.OK}, {-mat, -1, 0, api.ErrRange}, {1 - mat, -256, -mat, api.OK}, {1 - mat, -257, 0, api.ErrRange},
		} {
			var want api.Mat
			if c.e == api.OK {
				want.M[i][k] = c.want
			}
			checkMul(t, a, set(c.n, c.p), want, c.e)
		}
	}
	four := api.Mat{M: rows([3]int{mat, 0, 0}, [3]int{0, mat, 0}, [3]int{0, 0, mat})}
	checkMul(t, four, four, api.Mat{}, api.ErrRange)
}

func TestP2_3MulAtTheWorldsEnd(t *testing.T) {
	for place := range 3 {
		for _, c := range []struct {
			from, by int
			e        api.Errno
		}{
			{coord - 1, 1, api.OK}, {coord - 1, 2, api.ErrRange}, {coord, 0, api.OK}, {coord, 1, api.ErrRange},
			{1 - coord, -1, api.OK}, {1 - coord, -2, api.ErrRange}, {-coord, 0, api.OK}, {-coord, -1, api.ErrRange},
		} {
			a, b, want := api.Mat{M: Unit().M, T: vecWith(place, c.from)}, api.Mat{M: Unit().M, T: vecWith(place, c.by)}, api.Mat{}
			if c.e == api.OK {
				want = wantMul(a, b)
			}
			checkMul(t, a, b, want, c.e)
			checkMul(t, b, a, want, c.e)
		}
	}
	// A part of one above the upper end falls away; below the lower end it makes one more.
	part := api.Mat{M: rows([3]int{1, 0, 0}, [3]int{}, [3]int{}), T: of(coord, 0, 0)}
	checkMul(t, part, api.Mat{T: of(255, 0, 0)}, api.Mat{T: of(coord, 0, 0)}, api.OK)
	checkMul(t, part, api.Mat{T: of(256, 0, 0)}, api.Mat{}, api.ErrRange)
	part.T.X = -coord
	checkMul(t, part, api.Mat{T: of(0, 0, 0)}, api.Mat{T: of(-coord, 0, 0)}, api.OK)
	checkMul(t, part, api.Mat{T: of(-1, 0, 0)}, api.Mat{}, api.ErrRange)
}

func TestP2_3MulOfWhatMayNotBe(t *testing.T) {
	for place := range 9 {
		for _, n := range beyond(mat) {
			bad := api.Mat{M: rowsWith(place, n)}
			checkMul(t, bad, api.Mat{}, api.Mat{}, api.ErrRange)
			checkMul(t, api.Mat{}, bad, api.Mat{}, api.ErrRange)
			checkMul(t, bad, bad, api.Mat{}, api.ErrRange)
		}
	}
	for place := range 3 {
		for _, n := range beyond(coord) {
			bad := api.Mat{T: vecWith(place, n)}
			checkMul(t, bad, api.Mat{}, api.Mat{}, api.ErrRange)
			checkMul(t, api.Mat{}, bad, api.Mat{}, api.ErrRange)
			checkMul(t, bad, bad, api.Mat{}, api.ErrRange)
		}
	}
}

func TestP2_3MulOfMany(t *testing.T) {
	next := numbersFrom(24)
	told := 0
	for i := range 4000 {
		limit := mat >> (i % 5)
		a := api.Mat{M: someRows(next, limit), T: someVec(next, coord/2)}
		b := api.Mat{M: someRows(next, limit), T: someVec(next, coord/2)}
		want := wantMul(a, b)
		if mayBe(want) {
			told++
			checkMul(t, a, b, want, api.OK)
		} else {
			checkMul(t, a, b, api.Mat{}, api.ErrRange)
		}
	}
	if told < 500 || told > 3500 {
		t.Error("too few of one kind:", told)
	}
}

func TestP2_4UnitTurnsAndMovesNothing(t *testing.T) {
	next := numbersFrom(25)
	for range 1000 {
		m, v := api.Mat{M: someRows(next, mat), T: someVec(next, coord)}, someVec(next, coord)
		checkMul(t, Unit(), m, m, api.OK)
		checkMul(t, m, Unit(), m, api.OK)
		checkImage(t, Unit(), v, v, api.OK)
		w := someVec(next, view)
		checkTurn(t, Unit().M, w, w, api.OK)
	}
}

func TestP2_4AnImageHangsOnEachRowAlone(t *testing.T) {
	next := numbersFrom(26)
	for range 1000 {
		m, other := someRows(next, mat), someRows(next, mat)
		v := someVec(next, coord)
		whole, _ := Turn(m, v)
		for i, want := range []int{whole.X, whole.Y, whole.Z} {
			mixed := other
			mixed[i] = m[i]
			got, e := Turn(mixed, v)
			if n := []int{got.X, got.Y, got.Z}[i]; n != want || e != api.OK {
				t.Fatalf("row %d of %v, beside %v: %d, %d; want %d", i, m, other, n, e, want)
			}
			var alone api.Mat
			alone.M[i] = m[i]
			image, e := Image(alone, v)
			if e == api.OK && []int{image.X, image.Y, image.Z}[i] != want {
				t.Fatalf("row %d of %v alone: %v; want %d", i, m, image, want)
			}
		}
	}
}

func TestP2_4NothingIsRoundedInMultiplesOfOne(t *testing.T) {
	next := numbersFrom(27)
	whole := func() api.Mat {
		m := api.Mat{M: someRows(next, 2), T: someVec(next, 100)}
		for i := range 9 {
			m.M[i/3][i%3] *= 256
		}
		return m
	}
	told := 0
	for range 4000 {
		a, b, v := whole(), whole(), someVec(next, 100)
		m, e := Mul(a, b)
		inner, f := Image(b, v)
		if e != api.OK || f != api.OK {
			continue
		}
		got, e := Image(m, v)
		want, f := Image(a, inner)
		if e != api.OK || f != api.OK {
			continue
		}
		told++
		if got != want {
			t.Fatalf("%v behind %v of %v: %v, want %v", a, b, v, got, want)
		}
	}
	if told < 100 {
		t.Error("too few were not refused:", told)
	}
}

func TestP2_4TurnIsAtMostOneBelow(t *testing.T) {
	next := numbersFrom(28)
	for range 2000 {
		m, v := someRows(next, mat), someVec(next, view)
		w, _ := Turn(m, v)
		for i, n := range []int{w.X, w.Y, w.Z} {
			sum := m[i][0]*v.X + m[i][1]*v.Y + m[i][2]*v.Z
			if 256*n > sum || 256*n+256 <= sum {
				t.Fatalf("Turn(%v, %v): %d in row %d, of %d", m, v, n, i, sum)
			}
		}
	}
}

func TestR2AnswersHangOnArgumentsAlone(t *testing.T) {
	m, v := api.Mat{M: rowsWith(4, 77), T: of(3, 2, 1)}, of(10, 20, 30)
	first, _ := Mul(m, m)
	image, _ := Image(m, v)
	Mul(api.Mat{M: rowsWith(0, 2000)}, m)
	Turn(rowsWith(8, mat), of(view+1, 0, 0))
	if again, _ := Mul(m, m); again != first {
		t.Error(again, first)
	}
	if again, _ := Image(m, v); again != image {
		t.Error(again, image)
	}
}
