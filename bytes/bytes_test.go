package bytes

import (
	"math"
	"math/big"
	"slices"
	"testing"

	"diorama/api"
)

const (
	maxWide = 1099511627776
	maxText = 65536
)

// wantNum is a number's bytes by the words of the chapter: quotients and rests, one behind the other.
func wantNum(n int) []byte {
	rank := 2 * n
	if n < 0 {
		rank = -1 - 2*n
	}
	var b []byte
	for {
		rest := rank % 128
		rank = rank / 128
		if rank == 0 {
			return append(b, byte(rest))
		}
		b = append(b, byte(rest+128))
	}
}

// wantRead is what Read answers by the words of the chapter; ranks may be of any size there.
func wantRead(b []byte) (int, int, bool) {
	end := slices.IndexFunc(b, func(c byte) bool { return c < 128 })
	if end < 0 {
		return 0, 0, false
	}
	rank := new(big.Int)
	for at := end; at >= 0; at-- {
		rank.Mul(rank, big.NewInt(128))
		rank.Add(rank, big.NewInt(int64(b[at]%128)))
	}
	n, odd := new(big.Int).DivMod(rank, big.NewInt(2), new(big.Int))
	if odd.Sign() != 0 {
		n.Neg(n)
		n.Sub(n, big.NewInt(1))
	}
	if n.CmpAbs(big.NewInt(maxWide)) > 0 || !slices.Equal(wantNum(int(n.Int64())), b[:end+1]) {
		return 0, 0, false
	}
	return int(n.Int64()), end + 1, true
}

// wantList is a list's bytes by the words of the chapter.
func wantList(l []int) []byte {
	b := wantNum(len(l))
	for _, n := range l {
		b = append(b, wantNum(n)...)
	}
	return b
}

// wantReadList is what ReadList answers by the words of the chapter, of a most that may be.
func wantReadList(b []byte, most int) ([]int, int, bool) {
	count, read, ok := wantRead(b)
	if !ok || count < 0 || count > most {
		return nil, 0, false
	}
	var l []int
	for len(l) < count {
		n, size, ok := wantRead(b[read:])
		if !ok {
			return nil, 0, false
		}
		l = append(l, n)
		read += size
	}
	return l, read, true
}

// series is numbers that look as if there were no rule in them, the same ones in each run.
type series uint64

func (s *series) below(n int) int {
	*s = *s*6364136223846793005 + 1442695040888963407
	return int(uint64(*s) >> 11 % uint64(n))
}

// number is one that may be written, as often a short one as a long one.
func (s *series) number() int {
	n := s.below(1 << s.below(41))
	if s.below(2) == 0 {
		return -n
	}
	return n
}

func (s *series) numbers(count int) []int {
	l := make([]int, count)
	for at := range l {
		l[at] = s.number()
	}
	return l
}

// someBytes are bytes among which there are many at which reading changes.
func (s *series) someBytes(count int) []byte {
	edges := [10]byte{0, 1, 2, 63, 64, 127, 128, 129, 130, 255}
	b := make([]byte, count)
	for at := range b {
		b[at] = byte(s.below(256))
		if s.below(4) > 0 {
			b[at] = edges[s.below(len(edges))]
		}
	}
	return b
}

// changes are the numbers on either side of each change in how many bytes there are, with some beside them, and the ends.
func changes() []int {
	l := []int{0, maxWide - 1, maxWide, -maxWide, -maxWide + 1}
	for _, edge := range []int{1, 64, 8192, 1 << 20, 1 << 27, 1 << 34} {
		for _, n := range []int{edge - 2, edge - 1, edge, edge + 1} {
			l = append(l, n, -n)
		}
	}
	return l
}

// beyond are numbers that may not be written; of some of them the rank has more bits than an int.
func beyond() []int {
	return []int{
		maxWide + 1, -maxWide - 1, maxWide + 2, -maxWide - 2, 2 * maxWide, -2 * maxWide,
		1<<62 - 1, 1 << 62, -1 << 62, -1<<62 - 1, 1<<62 + 5, math.MaxInt, math.MaxInt - 1, math.MinInt, math.MinInt + 1,
	}
}

// behinds are bytes that may stand behind what is read, and change nothing of it.
func behinds() [][]byte {
	return [][]byte{nil, {0}, {1}, {127}, {128}, {255}, {128, 0}, {128, 128, 128, 128, 128, 128, 128, 128, 128, 128, 128, 1}}
}

func joined(a, b []byte) []byte { return append(slices.Clone(a), b...) }

func wantReads(t *testing.T, b []byte, n, size int) {
	t.Helper()
	if got, of, e := Read(b); got != n || of != size || e != api.OK {
		t.Errorf("Read(%v) = %v, %v, %v; want %v, %v", b, got, of, int(e), n, size)
	}
}

func wantNoNumber(t *testing.T, b []byte) {
	t.Helper()
	if n, size, e := Read(b); n != 0 || size != 0 || e != 8 {
		t.Errorf("Read(%v) = %v, %v, %v; want ErrBad", b, n, size, int(e))
	}
}

func wantReadsList(t *testing.T, b []byte, most int, l []int, size int) {
	t.Helper()
	if got, of, e := ReadList(b, most); !slices.Equal(got, l) || of != size || e != api.OK {
		t.Errorf("ReadList(%v numbers' bytes, %v): %v numbers, %v, %v; want %v bytes", len(l), most, len(got), of, int(e), size)
	}
}

func wantNoList(t *testing.T, b []byte, most int, want api.Errno) {
	t.Helper()
	if l, size, e := ReadList(b, most); len(l) != 0 || size != 0 || e != want {
		t.Errorf("ReadList(%v of %v bytes, %v) = %v numbers, %v, %v; want error %v", b[:min(len(b), 12)], len(b), most, len(l), size, int(e), int(want))
	}
}

func TestExamples(t *testing.T) {
	for n, want := range map[int][]byte{0: {0}, -1: {1}, 63: {126}, -64: {127}, 64: {128, 1}} {
		if b, e := Num(n); !slices.Equal(b, want) || e != api.OK {
			t.Error(n, b, e)
		}
	}
	wantNoNumber(t, []byte{128, 0})
	wantNoNumber(t, []byte{128})
	wantNoNumber(t, nil)
	b, e := List([]int{1, -1})
	if !slices.Equal(b, []byte{4, 2, 1}) || e != api.OK {
		t.Error(b, e)
	}
	wantReadsList(t, []byte{4, 2, 1, 9}, 2, []int{1, -1}, 3)
	wantNoList(t, []byte{4, 2, 1, 9}, 1, 8)
}

// The bytes of numbers, written out: no rule of this file stands behind them.
func TestNumWrittenOut(t *testing.T) {
	for _, c := range []struct {
		n int
		b []byte
	}{
		{0, []byte{0}}, {-1, []byte{1}}, {1, []byte{2}}, {-2, []byte{3}}, {2, []byte{4}},
		{62, []byte{124}}, {-63, []byte{125}}, {63, []byte{126}}, {-64, []byte{127}},
		{64, []byte{128, 1}}, {-65, []byte{129, 1}}, {65, []byte{130, 1}},
		{128, []byte{128, 2}}, {150, []byte{172, 2}}, {-151, []byte{173, 2}},
		{8191, []byte{254, 127}}, {-8192, []byte{255, 127}}, {8192, []byte{128, 128, 1}}, {-8193, []byte{129, 128, 1}},
		{1<<20 - 1, []byte{254, 255, 127}}, {-1 << 20, []byte{255, 255, 127}}, {1 << 20, []byte{128, 128, 128, 1}},
		{-1 << 27, []byte{255, 255, 255, 127}}, {1 << 27, []byte{128, 128, 128, 128, 1}},
		{-1 << 34, []byte{255, 255, 255, 255, 127}}, {1 << 34, []byte{128, 128, 128, 128, 128, 1}},
		{maxWide - 1, []byte{254, 255, 255, 255, 255, 63}}, {-maxWide, []byte{255, 255, 255, 255, 255, 63}},
		{maxWide, []byte{128, 128, 128, 128, 128, 64}},
	} {
		if b, e := Num(c.n); !slices.Equal(b, c.b) || e != api.OK {
			t.Error(c.n, b, e)
		}
		wantReads(t, c.b, c.n, len(c.b))
	}
}

// Numbers that are small, at each change, at the ends, and many others: what is written is as the chapter's words say, and is read back, whatever stands behind.
func TestNumThereAndBack(t *testing.T) {
	l := append(changes(), new(series).numbers(20000)...)
	for n := -9000; n <= 9000; n++ {
		l = append(l, n)
	}
	for _, n := range l {
		b, e := Num(n)
		if !slices.Equal(b, wantNum(n)) || e != api.OK {
			t.Fatal(n, b, e)
		}
		for _, behind := range behinds() {
			wantReads(t, joined(b, behind), n, len(b))
		}
		for size := range b {
			wantNoNumber(t, b[:size])
		}
	}
}

// One byte more for seven bits more, and as few as can be.
func TestNumSizes(t *testing.T) {
	for _, c := range []struct{ low, high, size int }{
		{-64, 63, 1}, {-8192, 8191, 2}, {-1 << 20, 1<<20 - 1, 3}, {-1 << 27, 1<<27 - 1, 4}, {-1 << 34, 1<<34 - 1, 5},
	} {
		for n, size := range map[int]int{c.low: c.size, c.high: c.size, c.low - 1: c.size + 1, c.high + 1: c.size + 1} {
			if b, e := Num(n); len(b) != size || e != api.OK {
				t.Error(n, b, e)
			}
		}
	}
}

func TestNumBeyond(t *testing.T) {
	for _, n := range beyond() {
		if b, e := Num(n); len(b) != 0 || e != 2 {
			t.Error(n, b, e)
		}
	}
}

func TestReadTooManyBytes(t *testing.T) {
	for _, n := range changes() {
		b := wantNum(n)
		for range 12 {
			b[len(b)-1] += 128
			b = append(b, 0)
			for _, behind := range behinds() {
				wantNoNumber(t, joined(b, behind))
			}
		}
	}
}

func TestReadBeyond(t *testing.T) {
	for _, b := range [][]byte{
		{129, 128, 128, 128, 128, 64},
		{130, 128, 128, 128, 128, 64},
		{128, 129, 128, 128, 128, 64},
		{128, 128, 128, 128, 128, 65},
		{128, 128, 128, 128, 128, 127},
		{255, 255, 255, 255, 255, 64},
		{255, 255, 255, 255, 255, 127},
		{128, 128, 128, 128, 128, 128, 1},
		{255, 255, 255, 255, 255, 255, 127},
		{130, 128, 128, 128, 128, 128, 128, 1},
		{130, 128, 128, 128, 128, 128, 128, 128, 1},
		{255, 255, 255, 255, 255, 255, 255, 255, 127},
		{130, 128, 128, 128, 128, 128, 128, 128, 128, 1},
		{130, 128, 128, 128, 128, 128, 128, 128, 128, 2},
		{255, 255, 255, 255, 255, 255, 255, 255, 255, 127},
		{130, 128, 128, 128, 128, 128, 128, 128, 128, 128, 1},
		{255, 255, 255, 255, 255, 255, 255, 255, 255, 255, 127},
	} {
		for _, behind := range behinds() {
			wantNoNumber(t, joined(b, behind))
		}
	}
}

// More bits than an int has, of any length: they may not come round to a number that may be.
func TestReadLong(t *testing.T) {
	for size := 7; size < 300; size++ {
		for _, first := range []byte{128, 129, 130, 255} {
			for _, between := range []byte{128, 192, 255} {
				for _, last := range []byte{0, 1, 2, 64, 127, 128, 255} {
					b := slices.Repeat([]byte{between}, size)
					b[0], b[size-1] = first, last
					wantNoNumber(t, b)
				}
			}
		}
	}
	wantNoNumber(t, slices.Repeat([]byte{128}, 2*maxText))
	wantNoNumber(t, slices.Repeat([]byte{255}, 2*maxText))
}

// checkRead holds Read against the chapter's words, and what it reads against what is written.
func checkRead(t *testing.T, b []byte) bool {
	t.Helper()
	n, size, ok := wantRead(b)
	if !ok {
		wantNoNumber(t, b)
		return false
	}
	wantReads(t, b, n, size)
	if again, e := Num(n); !slices.Equal(again, b[:size]) || e != api.OK {
		t.Error("written as others", b, again, e)
	}
	return true
}

func TestReadAllShort(t *testing.T) {
	checkRead(t, nil)
	for first := range 256 {
		checkRead(t, []byte{byte(first)})
		for second := range 256 {
			checkRead(t, []byte{byte(first), byte(second)})
			for _, third := range []byte{0, 1, 127, 128, 255} {
				checkRead(t, []byte{byte(first), byte(second), third})
			}
		}
	}
}

func TestReadManyBytes(t *testing.T) {
	s := new(series)
	read, refused := 0, 0
	for range 100000 {
		b := s.someBytes(s.below(13))
		// Half of them have their last byte late.
		if s.below(2) == 0 {
			for at := range min(len(b), 5) {
				b[at] |= 128
			}
		}
		if checkRead(t, b) {
			read++
		} else {
			refused++
		}
	}
	if read < 1000 || refused < 1000 {
		t.Error("too few of a kind", read, refused)
	}
}

// Numbers stand one behind the other, and are read one behind the other.
func TestReadOneBehindTheOther(t *testing.T) {
	l := new(series).numbers(1000)
	var b []byte
	for _, n := range l {
		more, _ := Num(n)
		b = append(b, more...)
	}
	for _, want := range l {
		n, size, e := Read(b)
		if n != want || e != api.OK {
			t.Fatal(n, want, e)
		}
		b = b[size:]
	}
	if len(b) != 0 {
		t.Error("bytes left", b)
	}
}

// lists are empty ones, short ones, ones about each change in how many bytes their length has, and the longest.
func lists() [][]int {
	s := new(series)
	l := [][]int{nil, {}, {0}, {-1}, {5, 5, 5}, {maxWide, -maxWide}, changes()}
	for _, count := range []int{1, 2, 62, 63, 64, 65, 127, 128, 8191, 8192, 8193, maxText - 1, maxText} {
		l = append(l, make([]int, count), s.numbers(count))
	}
	return l
}

func TestListThereAndBack(t *testing.T) {
	for _, l := range lists() {
		b, e := List(l)
		if !slices.Equal(b, wantList(l)) || e != api.OK {
			t.Fatal(len(l), len(b), e)
		}
		for _, behind := range behinds() {
			for _, most := range []int{len(l), min(len(l)+1, maxText), maxText} {
				wantReadsList(t, joined(b, behind), most, l, len(b))
			}
			for _, most := range []int{len(l) - 1, len(l) / 2, 0} {
				if most >= 0 && most < len(l) {
					wantNoList(t, joined(b, behind), most, 8)
				}
			}
		}
	}
}

func TestListEmpty(t *testing.T) {
	for _, l := range [][]int{nil, {}} {
		if b, e := List(l); !slices.Equal(b, []byte{0}) || e != api.OK {
			t.Error(b, e)
		}
	}
	for _, most := range []int{0, 1, maxText} {
		wantReadsList(t, []byte{0}, most, nil, 1)
		wantReadsList(t, []byte{0, 0, 128}, most, nil, 1)
	}
}

func TestListTooMany(t *testing.T) {
	for _, count := range []int{maxText + 1, maxText + 2, 2 * maxText} {
		if b, e := List(make([]int, count)); len(b) != 0 || e != 4 {
			t.Error(count, len(b), e)
		}
		// How long it is, is asked ahead of what is in it.
		for _, at := range []int{0, count / 2, maxText, count - 1} {
			l := make([]int, count)
			l[at] = math.MinInt
			if b, e := List(l); len(b) != 0 || e != 4 {
				t.Error(count, at, len(b), e)
			}
		}
		wantNoList(t, wantList(make([]int, count)), maxText, 8)
	}
	if b, e := List(make([]int, maxText)); len(b) != maxText+3 || e != api.OK {
		t.Error(len(b), e)
	}
}

func TestListOfNumbersBeyond(t *testing.T) {
	for _, n := range beyond() {
		for _, count := range []int{1, 2, 5, 64} {
			for at := range count {
				l := new(series).numbers(count)
				l[at] = n
				if b, e := List(l); len(b) != 0 || e != 2 {
					t.Error(n, count, at, b, e)
				}
			}
		}
	}
	for _, at := range []int{0, maxText / 2, maxText - 1} {
		l := make([]int, maxText)
		l[at] = maxWide + 1
		if b, e := List(l); len(b) != 0 || e != 2 {
			t.Error(at, len(b), e)
		}
	}
}

func TestReadListMost(t *testing.T) {
	for _, most := range []int{-1, -2, -maxText, math.MinInt, maxText + 1, maxText + 2, maxWide, math.MaxInt} {
		// The most is asked ahead of the bytes, whether these may be or not.
		for _, b := range [][]byte{nil, {0}, {1}, {128}, {128, 0}, {2, 128, 0}, {4, 2, 1}, wantList(make([]int, maxText+1))} {
			wantNoList(t, b, most, 2)
		}
	}
}

func TestReadListCount(t *testing.T) {
	for _, b := range [][]byte{
		nil, {128}, {128, 0}, {128, 0, 2, 1}, {132, 0, 2, 1}, {132, 128, 0, 2, 1}, // no number, or one of too many bytes
		{1}, {1, 2}, {3, 2, 1, 4}, {127}, {129, 1, 2, 2}, wantNum(-maxText), wantNum(-maxWide), joined(wantNum(-2), make([]byte, 9)), // below 0
		{2}, {4, 2}, {6, 2, 1}, {6, 128, 1, 128, 1}, {126, 2, 1}, {128, 1, 0}, // greater than what the bytes hold
		wantNum(maxText), joined(wantNum(maxText), make([]byte, maxText-1)),
		wantNum(maxText + 1), wantNum(maxWide), wantNum(maxWide - 1), joined(wantNum(maxWide), make([]byte, 99)), // greater than any most
		{130, 128, 128, 128, 128, 64, 0, 0}, {128, 128, 128, 128, 128, 128, 128, 128, 128, 2, 0, 0},
	} {
		for _, most := range []int{0, 1, 2, 3, 64, maxText - 1, maxText} {
			wantNoList(t, b, most, 8)
		}
	}
}

// A list one of whose numbers is cut short, or has too many bytes, or is beyond what may be.
func TestReadListNumbers(t *testing.T) {
	for _, wrong := range [][]byte{{128, 0}, {129, 128, 0}, {129, 128, 128, 128, 128, 64}, {128, 128, 128, 128, 128, 128, 1}, slices.Repeat([]byte{255}, 11)} {
		for count := 1; count < 70; count++ {
			for at := range count {
				b := wantNum(count)
				for other := range count {
					if other == at {
						b = append(b, wrong...)
					} else {
						b = append(b, wantNum(other)...)
					}
				}
				wantNoList(t, b, maxText, 8)
			}
		}
	}
	for _, l := range lists() {
		if b := wantList(l); len(b) < 300 {
			for size := range b {
				wantNoList(t, b[:size], maxText, 8)
			}
		}
	}
}

// Many bytes, held against the chapter's words; and what is read is written as just these bytes.
func TestReadListManyBytes(t *testing.T) {
	s := new(series)
	read, refused := 0, 0
	for range 100000 {
		b := joined(wantNum(s.below(6)-1), s.someBytes(s.below(16)))
		most := []int{0, 1, 2, 3, 4, maxText}[s.below(6)]
		l, size, ok := wantReadList(b, most)
		if !ok {
			wantNoList(t, b, most, 8)
			refused++
			continue
		}
		read++
		wantReadsList(t, b, most, l, size)
		if again, e := List(l); !slices.Equal(again, b[:size]) || e != api.OK {
			t.Error("written as others", b, again, e)
		}
	}
	if read < 1000 || refused < 1000 {
		t.Error("too few of a kind", read, refused)
	}
}

// What stands in the spare room behind some bytes is not read.
func TestSpareRoomIsNotRead(t *testing.T) {
	wantNoNumber(t, []byte{1}[:0])
	wantNoNumber(t, []byte{128, 1}[:1])
	wantNoList(t, []byte{4, 2, 1}[:2], 2, 8)
	if b, e := List([]int{1, maxWide + 1}[:1]); !slices.Equal(b, []byte{2, 2}) || e != api.OK {
		t.Error(b, e)
	}
}

func spoil[T any](l []T, with T) {
	l = l[:cap(l)]
	for at := range l {
		l[at] = with
	}
}

// onlyReads calls with each beginning of a list whose rest is its spare room, and tells whether all of it stays as it was, even if the answer is written over.
func onlyReads[T comparable](t *testing.T, whole []T, call func(l []T) func()) {
	t.Helper()
	for size := range len(whole) + 1 {
		held := slices.Clone(whole)
		spoilAnswer := call(held[:size])
		if !slices.Equal(held, whole) {
			t.Error("changed what was handed in", size)
		}
		spoilAnswer()
		if !slices.Equal(held, whole) {
			t.Error("the answer shares memory with what was handed in", size)
		}
	}
}

func TestOnlyRead(t *testing.T) {
	spoilByte := func(b []byte) func() { return func() { spoil(b, 77) } }
	spoilInt := func(l []int) func() { return func() { spoil(l, 77) } }
	for _, whole := range [][]byte{wantList(changes()), wantNum(maxWide), {128, 0, 0}, {4, 2, 1, 9, 9, 9}} {
		onlyReads(t, whole, func(b []byte) func() {
			Read(b)
			return func() {}
		})
		for _, most := range []int{-1, 0, 1, len(whole), maxText, maxText + 1} {
			onlyReads(t, whole, func(b []byte) func() {
				l, _, _ := ReadList(b, most)
				return spoilInt(l)
			})
		}
	}
	for _, whole := range [][]int{changes(), {1, -1, maxWide + 1, 2}, {0, 0, 0}} {
		onlyReads(t, whole, func(l []int) func() {
			b, _ := List(l)
			return spoilByte(b)
		})
	}
}

// An answer is one's own: what is written into it, its spare room too, is seen in no other one, be it given ahead or behind.
func TestAnswersShareNothing(t *testing.T) {
	for _, n := range changes() {
		first, _ := Num(n)
		second, _ := Num(n)
		spoil(first, 77)
		third, _ := Num(n)
		if !slices.Equal(second, wantNum(n)) || !slices.Equal(third, wantNum(n)) {
			t.Error("Num", n, second, third)
		}
	}
	for _, l := range [][]int{nil, {0}, {1, -1}, changes(), make([]int, 200)} {
		want := wantList(l)
		first, _ := List(l)
		second, _ := List(l)
		spoil(first, 77)
		third, _ := List(l)
		if !slices.Equal(second, want) || !slices.Equal(third, want) {
			t.Error("List", len(l))
		}
		one, _, _ := ReadList(want, maxText)
		two, _, _ := ReadList(want, maxText)
		spoil(one, 77)
		three, _, _ := ReadList(want, maxText)
		if !slices.Equal(two, l) || !slices.Equal(three, l) {
			t.Error("ReadList", len(l))
		}
	}
}

// What is handed in may change behind the call: the answer does not.
func TestNothingIsKept(t *testing.T) {
	l := changes()
	b, _ := List(l)
	spoil(l, 77)
	if !slices.Equal(b, wantList(changes())) {
		t.Error("List")
	}
	read, _, _ := ReadList(b, maxText)
	spoil(b, 77)
	if !slices.Equal(read, changes()) {
		t.Error("ReadList")
	}
}
