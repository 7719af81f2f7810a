package scenefile

import (
	"math"
	"slices"
	"testing"

	"diorama/api"
	"diorama/edit"
)

func TestP11_2Load(t *testing.T) {
	for _, s := range scenes() {
		got, e := Load(wantBytes(s))
		if want := wantPlain(s); e != api.OK || !wantSame(got, want) {
			t.Errorf("Load of the bytes of %v: %v, %d; want %v", s, got, e, want)
		}
		checkTaken(t, "a scene", wantBytes(s))
	}
}

func TestP11_2TooLong(t *testing.T) {
	whole := wantBytes(widest())
	for _, count := range []int{maxText - 1, maxText, maxText + 1, maxText + 2, 100000, 1 << 20} {
		want := api.ErrFormat
		if count > maxText {
			want = api.ErrText
		}
		longer := append(copied(whole), make([]byte, count-len(whole))...)
		for _, b := range [][]byte{make([]byte, count), slices.Repeat([]byte{255}, count), slices.Repeat([]byte{2}, count), longer} {
			if got, e := Load(b); e != want || !wantSame(got, api.Scene{}) {
				t.Error(count, short(b), got, e)
			}
		}
	}
	// As many numbers as so many bytes can have.
	for _, numbers := range []int{65532, 65533, 65534} {
		l := make([]int, numbers)
		l[0] = 1
		if e := checkLoad(t, "zeros", wantList(l)); (e == api.ErrText) != (numbers == 65534) {
			t.Error(numbers, e)
		}
	}
	// Room behind the bytes is none of them.
	if got, e := Load(longer(whole, 70000)[:len(whole)]); e != api.OK || !wantSame(got, widest()) {
		t.Error(e)
	}
}

func longer(b []byte, more int) []byte { return append(copied(b), make([]byte, more)...) }

func TestP11_2LessAndMore(t *testing.T) {
	for _, s := range scenes() {
		b := wantBytes(s)
		for n := range b {
			if n > 300 && n < len(b)-20 && n%977 > 0 {
				continue
			}
			checkRefused(t, "less", b[:n])
		}
		checkRefused(t, "without the first", b[1:])
		for _, more := range []byte{0, 1, 2, 127, 128, 255} {
			checkRefused(t, "more", append(copied(b), more))
			checkRefused(t, "more ahead", append([]byte{more}, b...))
		}
		if 2*len(b) <= maxText {
			checkRefused(t, "twice", slices.Concat(b, b))
		}
	}
}

// Each byte changed in turn, to each other one.
func TestP11_2EachByte(t *testing.T) {
	taken, refused := 0, 0
	for _, s := range []api.Scene{{}, small(), good(), upward()} {
		b := wantBytes(s)
		for i, was := range b {
			for x := range 256 {
				b[i] = byte(x)
				if e := checkLoad(t, "a byte changed", b); e == api.OK {
					taken++
				} else {
					refused++
				}
			}
			b[i] = was
		}
	}
	if taken < 9000 || refused < 50000 {
		t.Error("too few of one kind:", taken, refused)
	}
}

// Each byte taken out, put in twice, and changed with the one behind it.
func TestP11_2ShiftedBytes(t *testing.T) {
	for _, s := range []api.Scene{{}, small(), good(), upward()} {
		b := wantBytes(s)
		for i := range b {
			checkLoad(t, "one out", slices.Delete(copied(b), i, i+1))
			checkLoad(t, "one twice", slices.Insert(copied(b), i, b[i]))
			c := copied(b)
			c[i], c[(i+1)%len(c)] = c[(i+1)%len(c)], c[i]
			checkLoad(t, "two about", c)
		}
	}
}

// Each number changed in turn, with how many there are told as it is.
func TestP11_2EachNumber(t *testing.T) {
	odd := []int{-maxWide, -1 << 32, -65537, -65536, -257, -256, -2, -1, 0, 1, 2, 3, 4, 5, 6, 16, 17, 32, 33, 128, 129, 255, 256, 257, 258, 259, 260, 261, 262, 511, 512, 1025, 8193, 65535, 65536, 65537, 65538, 1<<32 - 1, 1 << 32, 1<<32 + 1, 1<<32 + 5, 1 << 33, maxWide}
	taken := 0
	for _, s := range []api.Scene{{}, small(), good(), upward()} {
		l := wantNumbers(s)
		for i, was := range l {
			for _, n := range append([]int{was - 1, was + 1, -was, was + 256, was - 256, was + 65536, was + 1<<32}, odd...) {
				l[i] = n
				if checkLoad(t, "a number changed", wantList(l)) == api.OK {
					taken++
				}
			}
			l[i] = was
			checkLoad(t, "a number less", wantList(slices.Delete(copied(l), i, i+1)))
			for n := -1; n < 6; n++ {
				checkLoad(t, "a number more", wantList(slices.Insert(copied(l), i, n)))
			}
		}
	}
	if taken < 500 {
		t.Error("too few:", taken)
	}
}

// A number that is told in more bytes than it needs, each in turn, and one that may not be written.
func TestP11_2MoreBytes(t *testing.T) {
	for _, s := range []api.Scene{{}, small(), good()} {
		l := wantNumbers(s)
		l = append([]int{len(l)}, l...)
		for i := range l {
			for more := 1; more < 9; more++ {
				var b []byte
				for k, n := range l {
					x := wantNum(n)
					if k == i {
						x[len(x)-1] += 128
						x = append(append(x, slices.Repeat([]byte{128}, more-1)...), 0)
					}
					b = append(b, x...)
				}
				checkRefused(t, "more bytes than needed", b)
			}
		}
		for _, x := range [][]byte{{129, 128, 128, 128, 128, 64}, {255, 255, 255, 255, 255, 127}, {128, 128, 128, 128, 128, 128, 1}, slices.Repeat([]byte{255}, 12)} {
			for i := range l {
				b := wantList(l[1 : i+1])
				b[0] = wantNum(len(l) - 1)[0]
				checkRefused(t, "beyond what may be", slices.Concat(b, x, make([]byte, len(l)-i)))
			}
		}
	}
}

// The count ahead of all is that of the numbers, no less and no more.
func TestP11_2Count(t *testing.T) {
	l := wantNumbers(small())
	var behind []byte
	for _, n := range l {
		behind = append(behind, wantNum(n)...)
	}
	for _, n := range []int{-maxWide, -len(l), -1, 0, 1, len(l) - 1, len(l) + 1, 65535, 65536, 65537, 1 << 20, 1 << 32, maxWide} {
		checkRefused(t, "a count", append(wantNum(n), behind...))
	}
	checkTaken(t, "a count", append(wantNum(len(l)), behind...))
}

// checkLists wants that the lists of numbers, with the rest behind them, are all taken, or all refused.
func checkLists(t *testing.T, what string, taken bool, rest []int, lists ...[]int) {
	t.Helper()
	for _, l := range lists {
		b := wantList(slices.Concat(l, rest))
		if taken {
			checkTaken(t, what, b)
		} else {
			checkRefused(t, what, b)
		}
	}
}

func TestP11_2First(t *testing.T) {
	rest := []int{0, 0, 0, 0}
	checkLists(t, "the first number", true, rest, []int{1})
	for _, n := range []int{-maxWide, -257, -255, -1, 0, 2, 3, 255, 256, 257, 65537, 1<<32 + 1, maxWide} {
		checkLists(t, "the first number", false, rest, []int{n})
	}
	checkLists(t, "the first number", false, nil, []int{}, []int{1}, rest, []int{1, 1}, []int{0, 0, 0, 0, 0}, []int{1, 0}, []int{1, 0, 0}, []int{1, 0, 0, 0})
}

// Each count at its greatest, and one more, with as much behind it as it says; and below zero, with nothing behind it.
func TestP11_2Counts(t *testing.T) {
	end := []int{0, 0, 0}
	corner := func(n int) []int { return make([]int, 5*n) }
	zeros := func(n int) []int { return make([]int, n) }
	for _, x := range []struct {
		what  string
		most  int
		ahead []int
		each  func(n int) []int
		rest  []int
	}{
		{"meshes", 32, []int{1}, func(n int) []int { return zeros(2 * n) }, []int{0, 0, 0}},
		{"corners", 64, []int{1, 1}, corner, append([]int{0}, end...)},
		{"primitives", 16, []int{1, 1, 0}, func(n int) []int { return zeros(2 * n) }, end},
		{"numbers of triangles", 192, []int{1, 1, 1, 0, 0, 0, 0, 0, 1, 0}, zeros, end},
		{"numbers of a strip", 66, []int{1, 1, 1, 0, 0, 0, 0, 0, 1, 1}, zeros, end},
		{"numbers of a fan", 66, []int{1, 1, 1, 0, 0, 0, 0, 0, 1, 2}, zeros, end},
		{"textures", 16, []int{1, 0}, func(n int) []int { return slices.Repeat([]int{1, 1, 5}, n) }, []int{0, 0}},
		{"nodes", 128, []int{1, 0, 0}, func(n int) []int { return slices.Repeat([]int{1, 0, 0, 0, 0, 0, 0}, n) }, []int{0}},
		{"far", 16, []int{1, 0, 0, 1, 4, 0, 0, 0}, zeros, []int{0, 0, 0, 0, 0, 0, 0}},
		{"children", 16, []int{1, 0, 0, 2, 1, 0, 0, 0, 0, 0}, func(n int) []int { return slices.Repeat([]int{1}, n) }, []int{3, 0, 0, 0, 0, 0, 0, 0, 0}},
	} {
		for n := range x.most + 3 {
			step := 1
			if x.what == "numbers of triangles" {
				step = 3
			}
			may := n <= x.most && n%step == 0
			if (x.what == "numbers of a strip" || x.what == "numbers of a fan") && (n == 1 || n == 2) {
				may = false
			}
			checkLists(t, x.what, may, x.rest, slices.Concat(x.ahead, []int{n}, x.each(n)))
			// One less, or one more, of what it counts.
			checkLists(t, x.what, false, x.rest, slices.Concat(x.ahead, []int{n}, x.each(n+1)))
			if n > 0 {
				checkLists(t, x.what, false, x.rest, slices.Concat(x.ahead, []int{n}, x.each(n-1)))
			}
		}
		for _, n := range []int{-maxWide, -1 << 32, -256, -2, -1, 200, 201, 255, 256, 257, 65535, 65536, 65537, 1 << 32, 1<<32 + 1, maxWide} {
			checkLists(t, x.what, false, x.rest, append(copied(x.ahead), n), slices.Concat(x.ahead, []int{n}, x.each(1)), slices.Concat(x.ahead, []int{n}, x.each(x.most)))
		}
	}
}

func TestP11_2Sides(t *testing.T) {
	texture := func(w, h, texels int) []int { return append([]int{1, 0, 1, w, h}, make([]int, texels)...) }
	end := []int{0, 0}
	for w := -2; w < 20; w++ {
		for h := -2; h < 20; h++ {
			checkLists(t, "sides", w >= 1 && w <= 16 && h >= 1 && h <= 16, end, texture(w, h, max(w*h, 0)))
			checkLists(t, "sides", false, end, texture(w, h, max(w*h, 0)+1))
		}
	}
	// Products that are small again.
	for _, x := range [][2]int{{1 << 32, 1 << 32}, {maxWide, maxWide}, {maxWide, 1 << 24}, {-maxWide, 1 << 24}, {-1, -1}, {-2, -8}, {0, 0}, {0, 1 << 40}, {1, maxWide}, {1 << 20, 1 << 20}} {
		for _, texels := range []int{0, 1, 2, 16, 256} {
			checkLists(t, "sides", false, end, texture(x[0], x[1], texels))
		}
	}
}

// nodeList are the numbers of a scene of one node, and of so many meshes and textures; the node's are these.
func nodeList(meshes, textures int, l ...int) []int {
	scene := append([]int{1, meshes}, make([]int, 2*meshes)...)
	scene = append(scene, textures)
	scene = append(scene, slices.Repeat([]int{1, 1, 9}, textures)...)
	return slices.Concat(scene, []int{1}, l)
}

// checkRange wants that a number is taken from low to high, and refused where it is beyond, or would be within as fewer bits.
func checkRange(t *testing.T, what string, low, high int, list func(n int) []int) {
	t.Helper()
	for _, n := range []int{low, low + 1, high - 1, high} {
		if n >= low && n <= high {
			checkLists(t, what, true, nil, list(n))
		}
	}
	for _, n := range []int{low - 1, low - 2, high + 1, high + 2, low + 256, high + 256, low - 256, high - 256, low + 65536, high - 65536, high + 1<<32, low - 1<<32, maxWide, -maxWide} {
		if n < low || n > high {
			checkLists(t, what, false, nil, list(n))
		}
	}
}

// at puts a number at a place of a list.
func at(l []int, place int) func(n int) []int {
	return func(n int) []int {
		c := copied(l)
		c[place] = n
		return c
	}
}

func TestP11_2Ranges(t *testing.T) {
	nothing := []int{0, 0, 0, 0, 0, 0, 0}
	turn := nodeList(0, 0, slices.Concat([]int{2}, make([]int, 12), nothing)...)
	for place := 5; place < 14; place++ {
		checkRange(t, "a matrix", -1024, 1024, at(turn, place))
	}
	for place := 14; place < 17; place++ {
		checkRange(t, "a translation", -4096, 4096, at(turn, place))
	}
	checkRange(t, "On", 0, 65535, func(n int) []int { return nodeList(0, 0, append([]int{3, n}, nothing...)...) })
	level := nodeList(0, 0, slices.Concat([]int{4, 0, 0, 0, 3, 0, 4, 8192}, nothing)...)
	for place := 5; place < 8; place++ {
		checkRange(t, "Center", -4096, 4096, at(level, place))
	}
	checkRange(t, "Far", 0, 4, at(level, 9))
	checkRange(t, "Far", 0, 8192, at(level, 10))
	checkRange(t, "Far", 4, 8192, at(level, 11))
	for _, count := range []int{0, 1, 2, 32} {
		checkRange(t, "Mesh", 0, count-1, func(n int) []int { return nodeList(count, 0, append([]int{5, n}, nothing...)...) })
	}
	mesh := []int{1, 1, 2, 0, 0, 0, 0, 0, 0, 0, 0, 0, 0, 1, 2, 3, 0, 1, 0, 0, 0, 0}
	for place := 3; place < 13; place++ {
		if (place-3)%5 < 3 {
			checkRange(t, "a corner", -1024, 1024, at(mesh, place))
		} else {
			checkRange(t, "a place in a texture", 0, 255, at(mesh, place))
		}
	}
	checkRange(t, "a primitive's Kind", 0, 2, at(mesh, 14))
	for place := 16; place < 19; place++ {
		checkRange(t, "a corner's number", 0, 1, at(mesh, place))
	}
	checkRange(t, "a texel", 0, 1<<32-1, at([]int{1, 0, 1, 1, 2, 0, 0, 0, 0}, 5))
	checkRange(t, "a texel", 0, 1<<32-1, at([]int{1, 0, 1, 1, 2, 0, 0, 0, 0}, 6))
}

func TestP11_2Kinds(t *testing.T) {
	for n := -3; n < 1030; n++ {
		for kind, named := range map[int][]int{1: nil, 2: make([]int, 12), 3: {0}, 4: {0, 0, 0, 0}, 5: {0}} {
			l := nodeList(1, 0, slices.Concat([]int{n}, named, make([]int, 7))...)
			checkLists(t, "a Kind", n == kind || n == 3 && kind == 5 || n == 5 && kind == 3, nil, l)
		}
	}
}

func TestP11_2Styles(t *testing.T) {
	things := [5][]int{{1}, {-1}, {2}, {-1024}, {1, 15}}
	style := func(thing, say int, values ...int) []int {
		says := make([]int, 5)
		says[thing] = say
		return nodeList(0, 3, slices.Concat([]int{1}, says, values, []int{0, 0})...)
	}
	for thing, values := range things {
		for say := -3; say < 300; say++ {
			checkLists(t, "a Say", say == 1 || say == 3 || say == 5 || say == 7, nil, style(thing, say, values...))
			checkLists(t, "a Say without its value", say == 0, nil, style(thing, say))
		}
		checkLists(t, "a Say", false, nil, style(thing, 1<<32+1, values...), style(thing, 65537, values...), style(thing, maxWide, values...))
	}
	checkRange(t, "a Color", 0, 1<<32-1, func(n int) []int { return style(0, 1, n) })
	checkRange(t, "a Texture", -1, 2, func(n int) []int { return style(1, 3, n) })
	checkRange(t, "a Cull", 0, 2, func(n int) []int { return style(2, 5, n) })
	checkRange(t, "a Bias", -1024, 1024, func(n int) []int { return style(3, 7, n) })
	checkRange(t, "a Blend", 0, 1, func(n int) []int { return style(4, 7, n, 3) })
	checkRange(t, "a Bin", 0, 15, func(n int) []int { return style(4, 7, 0, n) })
	// As many textures as there are.
	for count := range 17 {
		checkRange(t, "a Texture", -1, count-1, func(n int) []int { return nodeList(0, count, 1, 0, 1, 0, 0, 0, n, 0, 0) })
	}
}

// nodesOf are the numbers of a scene of nodes that are groups, with these children, and this root.
func nodesOf(root int, kids ...[]int) []int {
	l := []int{1, 0, 0, len(kids)}
	for _, k := range kids {
		l = slices.Concat(l, []int{1, 0, 0, 0, 0, 0, len(k)}, k)
	}
	return append(l, root)
}

func TestP11_2Children(t *testing.T) {
	for n := -4; n < 300; n++ {
		checkLists(t, "a child", n >= 1 && n <= 2, nil, nodesOf(0, []int{n}, nil, nil))
		checkLists(t, "a child", n >= 0 && n <= 1, nil, nodesOf(0, nil, nil, []int{0, n}))
		checkLists(t, "a child", n == 0 || n == 2, nil, nodesOf(2, nil, []int{2, n, 0}, nil))
	}
	for _, n := range []int{maxWide, -maxWide, 1 << 32, 1<<32 + 1, 65537} {
		checkLists(t, "a child", false, nil, nodesOf(0, []int{n}, nil, nil))
	}
	checkLists(t, "no loop", true, nil, nodesOf(1, []int{1, 1, 2}, []int{2, 2}, nil), nodesOf(3, nil, []int{0}, []int{0, 1, 0, 1}), nodesOf(1, []int{2, 3}, []int{0}, []int{3}, nil))
	checkLists(t, "a loop", false, nil, nodesOf(0, []int{0}), nodesOf(0, []int{1}, []int{0}), nodesOf(0, []int{1}, []int{2}, []int{0}), nodesOf(1, []int{1}, []int{2}, []int{1}), nodesOf(0, nil, []int{0, 2}, []int{0, 1}))
	// A long way, with and without a way back.
	var way [][]int
	for i := range 127 {
		way = append(way, []int{i + 1})
	}
	checkLists(t, "a long way", true, nil, nodesOf(1, append(way, nil)...))
	checkLists(t, "a long way round", false, nil, nodesOf(1, append(way, []int{0})...), nodesOf(1, append(way, []int{70})...))
	// A mesh has none.
	checkLists(t, "a mesh's child", true, nil, []int{1, 1, 0, 0, 0, 2, 5, 0, 0, 0, 0, 0, 0, 0, 1, 0, 0, 0, 0, 0, 0, 0})
	checkLists(t, "a mesh's child", false, nil, []int{1, 1, 0, 0, 0, 2, 5, 0, 0, 0, 0, 0, 0, 1, 1, 1, 0, 0, 0, 0, 0, 0, 0})
}

func TestP11_2Root(t *testing.T) {
	for count := range 129 {
		if count > 4 && count < 126 {
			continue
		}
		kids := make([][]int, count)
		for n := -3; n < 135; n++ {
			checkLists(t, "a root", n >= 0 && n <= count, nil, nodesOf(n, kids...))
		}
		for _, n := range []int{256, 257, 65536, 65537, 1 << 32, 1<<32 + 1, maxWide, -maxWide, -256, -255} {
			checkLists(t, "a root", false, nil, nodesOf(n, kids...))
		}
		for n := range 4 {
			checkLists(t, "behind the end", false, []int{n}, nodesOf(0, kids...))
			checkLists(t, "behind the end", false, []int{0, n}, nodesOf(0, kids...))
		}
	}
}

// checkAny wants of any bytes that they are a scene, which is saved as just these, or none.
func checkAny(t *testing.T, b []byte) bool {
	t.Helper()
	s, e := Load(b)
	if e != api.OK {
		if e != api.ErrFormat && len(b) <= maxText || !wantSame(s, api.Scene{}) {
			t.Errorf("Load(%v): %v, %d", short(b), s, e)
		}
		return false
	}
	p, f := Plain(s)
	if again, g := Save(s); f != api.OK || g != api.OK || !slices.Equal(again, b) || !wantSame(p, s) || edit.Check(s) != api.OK {
		t.Errorf("Load(%v): %v, which is saved as %v, %d", short(b), s, short(again), g)
	}
	return true
}

// All bytes of a few values behind some beginnings.
func TestP11_2AllShortOnes(t *testing.T) {
	taken := 0
	var grow func(b []byte, more int)
	grow = func(b []byte, more int) {
		checkLoad(t, "any bytes", b)
		if checkAny(t, b) {
			taken++
		}
		if more == 0 {
			return
		}
		for _, x := range []byte{0, 1, 2, 4, 6, 8, 10, 12, 127, 128, 130, 255} {
			grow(append(copied(b), x), more-1)
		}
	}
	grow(nil, 4)
	// The empty scene, and that of a mesh without corners.
	grow([]byte{10, 2}, 4)
	grow([]byte{14, 2, 2, 0}, 4)
	if taken != 2 {
		t.Error(taken)
	}
}

func TestP11_2AnyBytes(t *testing.T) {
	next := numbersFrom(11)
	for range 20000 {
		b := make([]byte, next(90))
		for i := range b {
			b[i] = byte(next(256) >> next(8))
		}
		checkAny(t, b)
		checkLoad(t, "any bytes", b)
		if len(b) > 0 && len(b) < 64 {
			checkLoad(t, "any numbers", append([]byte{byte(2*len(b) + 2), 2}, b...))
		}
	}
}

// Lists of any numbers, most of them small ones, behind a right beginning.
func TestP11_2AnyNumbers(t *testing.T) {
	next := numbersFrom(12)
	taken := 0
	for range 60000 {
		l := []int{1}
		for range next(4) + 3 {
			l = append(l, next(3))
		}
		for range next(24) {
			l = append(l, next(1<<next(5))-next(2)*next(2)*next(2))
		}
		if next(20) == 0 {
			l[next(len(l))] = []int{math.MaxInt32, -1, maxWide, 256, 1 << 32}[next(5)]
		}
		b := wantList(l)
		checkLoad(t, "any numbers", b)
		if checkAny(t, b) {
			taken++
		}
	}
	if taken < 30 {
		t.Error("too few:", taken)
	}
}

// What is great stays quick: counts that nothing stands behind.
func TestP11_2Great(t *testing.T) {
	for _, n := range []int{1, 2, 16, 32, 64, 128, 200, 60000, maxWide} {
		for _, count := range []int{3, 100, 30000} {
			b := wantList(append([]int{1}, slices.Repeat([]int{n}, count)...))
			if len(b) <= maxText {
				checkRefused(t, "great counts", b)
			}
		}
	}
}
