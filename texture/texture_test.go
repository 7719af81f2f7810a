package texture

import (
	"math"
	"slices"
	"testing"

	"diorama/api"
)

const (
	maxTexels   = 16
	maxTextures = 16
	maxUV       = 255
)

func red() api.Color  { return api.Color{255, 0, 0, 255} }
func blue() api.Color { return api.Color{0, 0, 255, 255} }

// two is the texture of the chapter's examples.
func two() api.Texture { return api.Texture{W: 2, H: 1, Texels: []api.Color{red(), blue()}} }

// colors are n texels of which no two are the same, up to 65536 of them.
func colors(n int) []api.Color {
	l := make([]api.Color, n)
	for i := range l {
		l[i] = api.Color{uint8(i), uint8(i >> 8), uint8(3 * i), 9}
	}
	return l
}

// of is a texture of these sides that may be, if they may.
func of(w, h int) api.Texture { return api.Texture{W: w, H: h, Texels: colors(w * h)} }

// deep is a copy that owes nothing to Twin.
func deep(t api.Texture) api.Texture {
	l := make([]api.Color, len(t.Texels))
	copy(l, t.Texels)
	return api.Texture{W: t.W, H: t.H, Texels: l}
}

// wantSame compares by the fields, one by one, and owes nothing to Same.
func wantSame(a, b api.Texture) bool {
	if a.W != b.W || a.H != b.H || len(a.Texels) != len(b.Texels) {
		return false
	}
	for i, c := range a.Texels {
		for part := range c {
			if c[part] != b.Texels[i][part] {
				return false
			}
		}
	}
	return true
}

// wantCheck is whether a texture may be, by the words of the chapter.
func wantCheck(t api.Texture) api.Errno {
	for w := 1; w <= maxTexels; w++ {
		for h := 1; h <= maxTexels; h++ {
			if t.W == w && t.H == h && len(t.Texels) == w*h {
				return api.OK
			}
		}
	}
	return 8
}

// wantStep is the column, or the row, of a place, by the words of the chapter: the greatest one that 256 times is not above the product.
func wantStep(place, side int) int {
	step := 0
	for (step+1)*256 <= place*side {
		step++
	}
	return step
}

// wantTexel is the number of the texel at a place: so many rows above it, so many texels to the left.
func wantTexel(t api.Texture, u, v int) int {
	n := wantStep(u, t.W)
	for range wantStep(v, t.H) {
		n += t.W
	}
	return n
}

func checkCheck(t *testing.T, x api.Texture, want api.Errno) {
	t.Helper()
	if e := Check(x); e != want {
		t.Errorf("Check(W %v, H %v, %v texels) = %v; want %v", x.W, x.H, len(x.Texels), int(e), int(want))
	}
}

func checkAt(t *testing.T, x api.Texture, u, v int, want api.Color) {
	t.Helper()
	if c, e := At(x, u, v); c != want || e != api.OK {
		t.Errorf("At(W %v, H %v, %v, %v) = %v, %v; want %v", x.W, x.H, u, v, c, int(e), want)
	}
}

// checkNoTexel wants the error, and beside it no colour.
func checkNoTexel(t *testing.T, x api.Texture, u, v int, want api.Errno) {
	t.Helper()
	if c, e := At(x, u, v); c != (api.Color{}) || e != want {
		t.Errorf("At(W %v, H %v, %v texels, %v, %v) = %v, %v; want error %v", x.W, x.H, len(x.Texels), u, v, c, int(e), int(want))
	}
}

// sides are numbers that a side may be, and ones that it may not.
func sides() []int {
	return []int{0, 1, 2, 3, 15, 16, 17, 18, -1, -2, -15, -16, -17, 255, 256, 257, 1 << 16, 1 << 31, 1 << 32, 1<<32 + 1, -1 << 32, 1 << 60, 1 << 62, math.MaxInt, math.MaxInt - 1, math.MinInt, math.MinInt + 1}
}

// noPlaces are numbers that neither of a place's two may be.
func noPlaces() []int {
	return []int{-1, -2, -128, -255, -256, 256, 257, 300, 511, 512, 1 << 16, 1 << 32, -1 << 32, 1 << 60, math.MaxInt, math.MaxInt - 255, math.MinInt, math.MinInt + 1, math.MinInt + 256}
}

// wrong are textures that may not be, each for one reason or more.
func wrong() []api.Texture {
	l := []api.Texture{
		{}, {W: 1, H: 1}, {W: 1}, {H: 1}, {Texels: colors(1)}, {W: 1, Texels: colors(1)}, {H: 1, Texels: colors(1)},
		{W: 2, H: 1, Texels: colors(1)}, {W: 2, H: 1, Texels: colors(3)}, {W: 2, H: 2, Texels: colors(5)},
		of(17, 1), of(1, 17), of(17, 16), of(16, 17), of(17, 17), of(256, 1), of(1, 256), of(256, 256),
		{W: 16, H: 16, Texels: colors(255)}, {W: 16, H: 16, Texels: colors(257)}, {W: 16, H: 16},
		{W: -1, H: -1, Texels: colors(1)}, {W: -2, H: -3, Texels: colors(6)}, {W: -1, H: 1, Texels: colors(1)}, {W: 1, H: -1, Texels: colors(1)},
		{W: 0, H: 16}, {W: 16, H: 0}, {W: 0, H: math.MaxInt}, {W: math.MinInt, H: 0},
	}
	return append(l, comeRound()...)
}

// comeRound are textures whose sides' product has more bits than an int, and whose lowest bits are just how many texels there are.
func comeRound() []api.Texture {
	// Each of the two odd numbers undoes the other: their product is one more than a multiple of 2 to the 64.
	three, third := 3, -6148914691236517205
	l := []api.Texture{
		{W: 1 << 32, H: 1 << 32}, {W: 1 << 62, H: 4}, {W: 4, H: 1 << 62}, {W: math.MinInt, H: 2}, {W: 2, H: math.MinInt}, {W: 16, H: 1 << 60}, {W: 1 << 60, H: 16},
		{W: math.MinInt, H: math.MinInt}, {W: math.MaxInt, H: math.MaxInt, Texels: colors(1)}, {W: three, H: third, Texels: colors(1)}, {W: third, H: three, Texels: colors(1)},
		{W: 1<<32 + 1, H: 1 - 1<<32, Texels: colors(1)}, {W: 1<<60 + 1, H: 16, Texels: colors(16)}, {W: 16, H: 1<<60 + 1, Texels: colors(16)},
		{W: 2, H: math.MinInt + 3, Texels: colors(6)}, {W: math.MinInt + 8, H: 2, Texels: colors(16)}, {W: math.MinInt + 1, H: math.MinInt + 1, Texels: colors(1)},
	}
	return l
}

func TestExamples(t *testing.T) {
	checkAt(t, two(), 0, 9, red())
	checkAt(t, two(), 127, 0, red())
	checkAt(t, two(), 128, 255, blue())
	checkNoTexel(t, two(), 256, 0, 2)
	checkCheck(t, api.Texture{W: 2, H: 1, Texels: colors(1)}, 8)
	if e := Checks(slices.Repeat([]api.Texture{two()}, 17)); e != 4 {
		t.Error(e)
	}
}

func TestP9_1Check(t *testing.T) {
	for w := -2; w <= maxTexels+3; w++ {
		for h := -2; h <= maxTexels+3; h++ {
			for _, count := range []int{w * h, w*h - 1, w*h + 1, 0, 1, w, h, w + h, 2 * w * h, 256} {
				x := api.Texture{W: w, H: h, Texels: colors(max(count, 0))}
				checkCheck(t, x, wantCheck(x))
			}
		}
	}
	for w := 1; w <= maxTexels; w++ {
		for h := 1; h <= maxTexels; h++ {
			checkCheck(t, of(w, h), api.OK)
		}
	}
}

func TestP9_1CheckSides(t *testing.T) {
	for _, w := range sides() {
		for _, h := range sides() {
			for _, count := range []int{0, 1, 2, 16, 17, 256, w * h} {
				// A count that comes round to very many, or to fewer than none, can't be had.
				if count < 0 || count > 1<<16 {
					continue
				}
				x := api.Texture{W: w, H: h, Texels: colors(count)}
				checkCheck(t, x, wantCheck(x))
			}
		}
	}
}

func TestP9_1CheckWrong(t *testing.T) {
	for _, x := range wrong() {
		checkCheck(t, x, 8)
	}
	for _, x := range comeRound() {
		if x.W*x.H != len(x.Texels) {
			t.Error("does not come round", x.W, x.H, len(x.Texels))
		}
	}
	checkCheck(t, api.Texture{W: 1, H: 1, Texels: []api.Color{}}, 8)
}

// A colour may be any, so texels are counted only.
func TestP9_1CheckColors(t *testing.T) {
	for part := range 4 {
		for n := range 256 {
			var c api.Color
			c[part] = uint8(n)
			x := api.Texture{W: 1, H: 1, Texels: []api.Color{c}}
			checkCheck(t, x, api.OK)
			checkAt(t, x, 0, 0, c)
		}
	}
	checkCheck(t, api.Texture{W: 4, H: 3, Texels: make([]api.Color, 12)}, api.OK)
}

// What is in the spare room does not count.
func TestP9_1CheckSpareRoom(t *testing.T) {
	l := colors(40)
	checkCheck(t, api.Texture{W: 5, H: 4, Texels: l[:20]}, api.OK)
	checkCheck(t, api.Texture{W: 5, H: 4, Texels: l[:19]}, 8)
	checkCheck(t, api.Texture{W: 5, H: 4, Texels: l[:0]}, 8)
	checkCheck(t, api.Texture{W: 5, H: 8, Texels: l[:20]}, 8)
}

func checkChecks(t *testing.T, l []api.Texture, want api.Errno) {
	t.Helper()
	if e := Checks(l); e != want {
		t.Errorf("Checks(%v textures) = %v; want %v", len(l), int(e), int(want))
	}
}

func TestP9_1Checks(t *testing.T) {
	checkChecks(t, nil, api.OK)
	checkChecks(t, []api.Texture{}, api.OK)
	for count := 1; count <= 20; count++ {
		var l []api.Texture
		for i := range count {
			l = append(l, of(1+i%maxTexels, maxTexels-i%maxTexels))
		}
		want := api.OK
		if count > maxTextures {
			want = 4
		}
		checkChecks(t, l, want)
		// One that may not be, at each place: too many are told first.
		bad := max(want, 8)
		if count > maxTextures {
			bad = 4
		}
		for at := range l {
			for _, x := range []api.Texture{{}, {W: 2, H: 1, Texels: colors(1)}, of(17, 1), {W: 1 << 32, H: 1 << 32}} {
				had := l[at]
				l[at] = x
				checkChecks(t, l, bad)
				l[at] = had
			}
		}
		checkChecks(t, l, want)
		checkChecks(t, make([]api.Texture, count), bad)
	}
	checkChecks(t, make([]api.Texture, 5000), 4)
	for _, x := range wrong() {
		checkChecks(t, []api.Texture{x}, 8)
		checkChecks(t, []api.Texture{two(), x}, 8)
	}
}

// The spare room is not of the list.
func TestP9_1ChecksSpareRoom(t *testing.T) {
	l := slices.Repeat([]api.Texture{two()}, 16)
	l = append(l, api.Texture{}, of(17, 17))
	checkChecks(t, l[:16], api.OK)
	checkChecks(t, l[:17], 4)
	checkChecks(t, l[1:17], 8)
}

// others are textures that differ from one of 3 by 2 texels, and from one another, in one field or texel each; most of them may not be.
func others() []api.Texture {
	var l []api.Texture
	for _, n := range append(sides(), 4, 5, 6) {
		if n != 3 {
			l = append(l, api.Texture{W: n, H: 2, Texels: colors(6)})
		}
		if n != 2 {
			l = append(l, api.Texture{W: 3, H: n, Texels: colors(6)})
		}
	}
	for i := range 6 {
		for part := range 4 {
			x := of(3, 2)
			x.Texels[i][part] ^= 128
			l = append(l, x)
		}
	}
	for count := range 14 {
		if count != 6 {
			l = append(l, api.Texture{W: 3, H: 2, Texels: colors(count)})
		}
	}
	for at := range 5 {
		x := of(3, 2)
		x.Texels[at], x.Texels[at+1] = x.Texels[at+1], x.Texels[at]
		l = append(l, x)
	}
	return append(l, api.Texture{W: 3, H: 2, Texels: colors(7)[1:]}, of(2, 3), of(6, 1), of(1, 6))
}

func checkSame(t *testing.T, a, b api.Texture, want bool) {
	t.Helper()
	if got := Same(a, b); got != want {
		t.Errorf("Same(W %v, H %v, %v; W %v, H %v, %v) = %v", a.W, a.H, a.Texels, b.W, b.H, b.Texels, got)
	}
}

func TestP9_1Same(t *testing.T) {
	l := append(others(), of(3, 2))
	for i, a := range l {
		for k, b := range l {
			if wantSame(a, b) != (i == k) {
				t.Fatal("two of them are the same", i, k)
			}
			checkSame(t, a, deep(b), i == k)
		}
	}
	for w := 1; w <= maxTexels; w++ {
		for h := 1; h <= maxTexels; h++ {
			checkSame(t, of(w, h), of(w, h), true)
			checkSame(t, of(w, h), of(h, w), w == h)
		}
	}
}

// Of any textures: ones that may not be are the same as themselves, too.
func TestP9_1SameOfAny(t *testing.T) {
	for i, a := range wrong() {
		for _, b := range wrong() {
			checkSame(t, a, b, wantSame(a, b))
		}
		checkSame(t, a, wrong()[i], true)
		checkSame(t, a, of(4, 4), false)
		checkSame(t, of(4, 4), a, false)
	}
	long := api.Texture{W: 3, H: 3, Texels: colors(1 << 16)}
	for _, at := range []int{0, 255, 256, 40000, 1<<16 - 1} {
		other := deep(long)
		checkSame(t, long, other, true)
		other.Texels[at][3]++
		checkSame(t, long, other, false)
		checkSame(t, other, long, false)
	}
}

// A list without elements may be nil or not; the spare room is not of it.
func TestP9_1SameEmpty(t *testing.T) {
	for _, size := range sides() {
		a, b := api.Texture{W: size, H: size}, api.Texture{W: size, H: size, Texels: []api.Color{}}
		checkSame(t, a, b, true)
		checkSame(t, b, a, true)
		checkSame(t, a, api.Texture{W: size, H: size, Texels: colors(9)[:0]}, true)
		checkSame(t, a, api.Texture{W: size, H: size, Texels: make([]api.Color, 1)}, false)
	}
	l := colors(9)
	l[7] = red()
	checkSame(t, api.Texture{W: 3, H: 2, Texels: l[:6]}, of(3, 2), true)
}

func TestP9_1Twin(t *testing.T) {
	l := append(others(), wrong()...)
	l = append(l, api.Texture{W: 3, H: 2, Texels: []api.Color{}}, api.Texture{W: -7, H: math.MaxInt, Texels: colors(1 << 16)})
	for w := 1; w <= maxTexels; w++ {
		for h := 1; h <= maxTexels; h++ {
			l = append(l, of(w, h))
		}
	}
	for _, x := range l {
		twin := Twin(x)
		if !wantSame(twin, x) || !Same(twin, x) || !Same(x, twin) {
			t.Errorf("Twin(W %v, H %v, %v) = W %v, H %v, %v", x.W, x.H, x.Texels, twin.W, twin.H, twin.Texels)
		}
		checkCheck(t, twin, wantCheck(x))
	}
}

// Each place of each texture of all sides that may be, row by row and column by column.
func TestP9_2At(t *testing.T) {
	for w := 1; w <= maxTexels; w++ {
		for h := 1; h <= maxTexels; h++ {
			x := of(w, h)
			for near := range maxUV + 1 {
				for _, far := range []int{0, 1, 85, 86, 127, 128, 254, 255} {
					checkAt(t, x, near, far, x.Texels[wantTexel(x, near, far)])
					checkAt(t, x, far, near, x.Texels[wantTexel(x, far, near)])
				}
			}
		}
	}
	for _, x := range []api.Texture{of(16, 16), of(5, 7), of(13, 3)} {
		for u := range maxUV + 1 {
			for v := range maxUV + 1 {
				checkAt(t, x, u, v, x.Texels[wantTexel(x, u, v)])
			}
		}
	}
}

// changes are the first places of each column but the first one, written out: no rule of this file stands behind them.
func changes() [maxTexels + 1][]int {
	return [maxTexels + 1][]int{
		2:  {128},
		3:  {86, 171},
		4:  {64, 128, 192},
		5:  {52, 103, 154, 205},
		6:  {43, 86, 128, 171, 214},
		7:  {37, 74, 110, 147, 183, 220},
		8:  {32, 64, 96, 128, 160, 192, 224},
		9:  {29, 57, 86, 114, 143, 171, 200, 228},
		10: {26, 52, 77, 103, 128, 154, 180, 205, 231},
		11: {24, 47, 70, 94, 117, 140, 163, 187, 210, 233},
		12: {22, 43, 64, 86, 107, 128, 150, 171, 192, 214, 235},
		13: {20, 40, 60, 79, 99, 119, 138, 158, 178, 197, 217, 237},
		14: {19, 37, 55, 74, 92, 110, 128, 147, 165, 183, 202, 220, 238},
		15: {18, 35, 52, 69, 86, 103, 120, 137, 154, 171, 188, 205, 222, 239},
		16: {16, 32, 48, 64, 80, 96, 112, 128, 144, 160, 176, 192, 208, 224, 240},
	}
}

func TestP9_2AtChanges(t *testing.T) {
	for side, firsts := range changes() {
		if side > 0 && len(firsts) != side-1 {
			t.Fatal("not one for each change", side)
		}
		for i, first := range firsts {
			for other := 1; other <= maxTexels; other++ {
				// The column changes in the last row, the row in the last column.
				wide, high := of(side, other), of(other, side)
				checkAt(t, wide, first-1, 255, wide.Texels[(other-1)*side+i])
				checkAt(t, wide, first, 255, wide.Texels[(other-1)*side+i+1])
				checkAt(t, high, 255, first-1, high.Texels[i*other+other-1])
				checkAt(t, high, 255, first, high.Texels[(i+1)*other+other-1])
			}
		}
	}
}

// Written out, with sides that differ: rows from above, each from the left.
func TestP9_2AtRows(t *testing.T) {
	a, b, c, d, e, f := api.Color{1}, api.Color{2}, api.Color{3}, api.Color{4}, api.Color{5}, api.Color{6}
	x := api.Texture{W: 3, H: 2, Texels: []api.Color{a, b, c, d, e, f}}
	for _, p := range []struct {
		u, v int
		want api.Color
	}{
		{0, 0, a}, {85, 0, a}, {85, 127, a}, {86, 0, b}, {86, 127, b}, {170, 127, b}, {171, 0, c}, {171, 127, c}, {255, 0, c}, {255, 127, c},
		{0, 128, d}, {0, 255, d}, {85, 128, d}, {85, 255, d}, {86, 128, e}, {170, 255, e}, {171, 128, f}, {255, 128, f}, {255, 255, f},
	} {
		checkAt(t, x, p.u, p.v, p.want)
	}
	high := api.Texture{W: 2, H: 3, Texels: []api.Color{a, b, c, d, e, f}}
	checkAt(t, high, 127, 85, a)
	checkAt(t, high, 128, 85, b)
	checkAt(t, high, 127, 86, c)
	checkAt(t, high, 128, 170, d)
	checkAt(t, high, 127, 171, e)
	checkAt(t, high, 255, 255, f)
}

func TestP9_2AtNoPlace(t *testing.T) {
	for _, x := range []api.Texture{two(), of(1, 1), of(16, 16), of(1, 16), of(16, 1), of(3, 5)} {
		for _, n := range noPlaces() {
			for _, fine := range []int{0, 1, 127, 128, 254, 255} {
				checkNoTexel(t, x, n, fine, 2)
				checkNoTexel(t, x, fine, n, 2)
			}
			for _, other := range noPlaces() {
				checkNoTexel(t, x, n, other, 2)
			}
		}
	}
}

// A texture that may not be is told ahead of a place that may not be, whichever of the two numbers that is.
func TestP9_2AtWrong(t *testing.T) {
	for _, x := range wrong() {
		for _, fine := range []int{0, 128, 255} {
			checkNoTexel(t, x, fine, fine, 8)
			for _, n := range noPlaces() {
				checkNoTexel(t, x, n, fine, 8)
				checkNoTexel(t, x, fine, n, 8)
				checkNoTexel(t, x, n, n, 8)
			}
		}
	}
}

// What a call answers hangs on what it is handed alone: refused calls and other textures between change nothing.
func TestP9_2AtAgain(t *testing.T) {
	x := of(5, 3)
	for n := range 300 {
		u, v := n*7%256, n*11%256
		first, e := At(x, u, v)
		At(of(3, 5), v, u)
		At(x, -1, 300)
		At(api.Texture{}, u, v)
		if again, f := At(x, u, v); first != again || e != api.OK || f != api.OK {
			t.Error(u, v, first, again, e, f)
		}
	}
}

// roomy is a texture whose list has spare room, with other colours in it, and the whole of that.
func roomy(w, h int) (api.Texture, []api.Color) {
	whole := slices.Grow(colors(w*h), 7)
	whole = append(whole, red(), blue(), red(), blue(), red())
	return api.Texture{W: w, H: h, Texels: whole[:w*h]}, whole
}

func useAll(x api.Texture) {
	Check(x)
	Same(x, x)
	Same(x, two())
	Same(two(), x)
	Twin(x)
	for _, p := range []int{-1, 0, 100, 255, 256} {
		At(x, p, 255)
		At(x, 0, p)
	}
}

func TestP9_3OnlyRead(t *testing.T) {
	for _, s := range [][2]int{{1, 1}, {3, 2}, {16, 16}, {16, 17}, {0, 5}} {
		x, whole := roomy(s[0], s[1])
		kept := slices.Clone(whole)
		for range 2 {
			useAll(x)
			useAll(api.Texture{W: x.W + 1, H: x.H, Texels: x.Texels})
		}
		if x.W != s[0] || x.H != s[1] || len(x.Texels) != s[0]*s[1] || !slices.Equal(whole, kept) {
			t.Error(s, x, whole)
		}
	}
}

func TestP9_3ChecksOnlyReads(t *testing.T) {
	for count := range 20 {
		var l []api.Texture
		var wholes [][]api.Color
		for i := range 20 {
			x, whole := roomy(1+i%4, 2)
			l, wholes = append(l, x), append(wholes, whole)
		}
		// What stands behind the list's end may not be.
		l[19].W = 99
		kept := slices.Clone(l)
		Checks(l[:count])
		for i, x := range l {
			if !wantSame(x, kept[i]) || !slices.Equal(wholes[i], append(colors(2*(1+i%4)), red(), blue(), red(), blue(), red())) {
				t.Error(count, i, x)
			}
		}
	}
}

// spoil writes over all of a list, spare room with it.
func spoil(l []api.Color) {
	l = l[:cap(l)]
	for i := range l {
		l[i] = api.Color{77, 66, 55, 44}
	}
}

func TestP9_3TwinIsNew(t *testing.T) {
	for _, s := range [][2]int{{1, 1}, {3, 2}, {7, 5}, {16, 16}, {17, 16}, {0, 3}} {
		x, whole := roomy(s[0], s[1])
		kept := slices.Clone(whole)
		a, b := Twin(x), Twin(x)
		c := Twin(a)
		spoil(a.Texels)
		if !slices.Equal(whole, kept) || !wantSame(b, of(s[0], s[1])) || !wantSame(c, of(s[0], s[1])) {
			t.Error("what is done to a twin is seen elsewhere", s)
		}
		spoil(whole)
		if !wantSame(b, of(s[0], s[1])) || !wantSame(c, of(s[0], s[1])) {
			t.Error("what is done to a texture is seen in its twin", s)
		}
	}
}

// A twin's list is appended to with no one else's spare room.
func TestP9_3TwinAppendedTo(t *testing.T) {
	for _, count := range []int{0, 1, 6} {
		whole := append(colors(count), red(), red(), red())
		kept := slices.Clone(whole)
		twin := Twin(api.Texture{W: 1, H: count, Texels: whole[:count]})
		twin.Texels = append(twin.Texels, blue())
		if !slices.Equal(whole, kept) {
			t.Error(count, whole)
		}
	}
}

// A texel that was answered stays as it is.
func TestP9_3ColorIsNew(t *testing.T) {
	x := of(3, 2)
	c, _ := At(x, 255, 255)
	spoil(x.Texels)
	if c != of(3, 2).Texels[5] {
		t.Error(c)
	}
	c[0]++
	if x.Texels[5] != (api.Color{77, 66, 55, 44}) {
		t.Error(x)
	}
}

// numberAt is a texel's number, by the colour that is told.
func numberAt(t *testing.T, x api.Texture, u, v int) int {
	t.Helper()
	c, e := At(x, u, v)
	if e != api.OK {
		t.Fatal(x.W, x.H, u, v, e)
	}
	return slices.Index(x.Texels, c)
}

func TestP9_4EachTexelIsSomewhere(t *testing.T) {
	for w := 1; w <= maxTexels; w++ {
		for h := 1; h <= maxTexels; h++ {
			x := of(w, h)
			seen := make([]bool, w*h)
			// No texel is less than 16 places wide, nor high.
			for u := 0; u <= maxUV; u += 15 {
				for v := 0; v <= maxUV; v += 15 {
					seen[numberAt(t, x, u, v)] = true
				}
			}
			if slices.Contains(seen, false) {
				t.Error(w, h, seen)
			}
		}
	}
}

// Farther to the right no texel farther to the left, or in another row; farther down none farther up, or in another column; and no texel is skipped.
func TestP9_4Onward(t *testing.T) {
	for w := 1; w <= maxTexels; w++ {
		for h := 1; h <= maxTexels; h++ {
			x := of(w, h)
			for _, far := range []int{0, 100, 128, 255} {
				row, column := numberAt(t, x, 0, far), numberAt(t, x, far, 0)
				if row%w != 0 || column/w != 0 {
					t.Fatal("not at an edge", w, h, far, row, column)
				}
				lastRight, lastDown := row, column
				for n := 1; n <= maxUV; n++ {
					right, down := numberAt(t, x, n, far), numberAt(t, x, far, n)
					if right != lastRight && right != lastRight+1 || right/w != row/w {
						t.Fatal("to the right", w, h, n, far, lastRight, right)
					}
					if down != lastDown && down != lastDown+w || down%w != column%w {
						t.Fatal("down", w, h, far, n, lastDown, down)
					}
					lastRight, lastDown = right, down
				}
				if lastRight != row+w-1 || lastDown != column+(h-1)*w {
					t.Fatal("not at the other edge", w, h, far, lastRight, lastDown)
				}
			}
		}
	}
}

func TestP9_4OneTexel(t *testing.T) {
	for _, c := range []api.Color{red(), blue(), {}, {1, 2, 3, 4}} {
		x := api.Texture{W: 1, H: 1, Texels: []api.Color{c}}
		for u := range maxUV + 1 {
			for v := range maxUV + 1 {
				checkAt(t, x, u, v, c)
			}
		}
	}
}

// Of one row the place's height is all one, of one column its width.
func TestP9_4OneRow(t *testing.T) {
	row, column := of(9, 1), of(1, 9)
	for n := range maxUV + 1 {
		for other := range maxUV + 1 {
			want := numberAt(t, row, n, 0)
			if numberAt(t, row, n, other) != want || numberAt(t, column, other, n) != want {
				t.Fatal(n, other)
			}
		}
	}
}
