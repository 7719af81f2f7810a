package scenefile

import (
	"slices"
	"testing"

	"diorama/api"
	"diorama/edit"
)

func checkPlain(t *testing.T, s api.Scene) {
	t.Helper()
	got, e := Plain(s)
	if want := wantPlain(s); e != api.OK || !wantSame(got, want) {
		t.Errorf("Plain(%v): %v, %d; want %v", s, got, e, want)
	}
}

func checkSave(t *testing.T, s api.Scene) {
	t.Helper()
	got, e := Save(s)
	if want := wantBytes(s); e != api.OK || !slices.Equal(got, want) {
		t.Errorf("Save(%v): %v, %d; want %v", s, short(got), e, short(want))
	}
}

// checkNumbers wants that a scene's bytes are those of the list of just these numbers.
func checkNumbers(t *testing.T, s api.Scene, l ...int) {
	t.Helper()
	got, e := Save(s)
	if want := wantList(l); e != api.OK || !slices.Equal(got, want) {
		t.Errorf("Save(%v): %v, %d; want %v", s, got, e, want)
	}
	checkTaken(t, "what is saved", got)
}

func TestExamples(t *testing.T) {
	empty := []byte{10, 2, 0, 0, 0, 0}
	if got, e := Save(api.Scene{}); e != api.OK || !slices.Equal(got, empty) {
		t.Error(got, e)
	}
	if got, e := Load(empty); e != api.OK || !wantSame(got, api.Scene{}) {
		t.Error(got, e)
	}
	for _, b := range [][]byte{{10, 4, 0, 0, 0, 0}, nil, {}, append(copied(empty), 0)} {
		if got, e := Load(b); e != 110 || !wantSame(got, api.Scene{}) {
			t.Error(b, got, e)
		}
	}
	one := plainScene(group())
	one.Root = handle(0, 1)
	bytes := []byte{24, 2, 0, 0, 2, 2, 0, 0, 0, 0, 0, 0, 2}
	if got, e := Save(one); e != api.OK || !slices.Equal(got, bytes) {
		t.Error(got, e)
	}
	if got, e := Load(bytes); e != api.OK || !wantSame(got, one) {
		t.Error(got, e)
	}
}

func TestP11_1Plain(t *testing.T) {
	for _, s := range scenes() {
		checkPlain(t, s)
	}
	want := plainScene(good().Nodes[1], turnNode(), switchNode(5), levelNode(0, 10, 10, 8192), good().Nodes[7], good().Nodes[8], good().Nodes[9])
	h := func(slot int) api.Handle { return handle(slot, 1) }
	want.Graph.Kids = [][]api.Handle{{h(5), h(1), h(2), h(1)}, {h(2), h(4)}, {h(4), h(4), h(5)}, {h(2), h(0)}, nil, nil, nil}
	want.Meshes, want.Textures, want.Root = good().Meshes, good().Textures, h(3)
	if got, e := Plain(good()); e != api.OK || !wantSame(got, want) {
		t.Error(got, e)
	}
}

// All slots are Live, and have the Gen 1; there are as many as live nodes.
func TestP11_1PlainIsPlain(t *testing.T) {
	for _, s := range scenes() {
		p, e := Plain(s)
		if e != api.OK || edit.Check(p) != api.OK || len(p.Graph.Arena.Slots) != len(held(s)) || len(p.Nodes) != len(held(s)) || len(p.Graph.Kids) != len(held(s)) {
			t.Error(s, p, e)
		}
		for _, x := range p.Graph.Arena.Slots {
			if x != live(1) {
				t.Error(p)
			}
		}
		again, e := Plain(p)
		if e != api.OK || !wantSame(again, p) {
			t.Error("what is plain stays as it is:", p, again, e)
		}
	}
}

func TestP11_1Save(t *testing.T) {
	for _, s := range scenes() {
		checkSave(t, s)
	}
}

// zeros are what is told of a style that says nothing, and of no children.
func TestP11_1SaveNodes(t *testing.T) {
	for _, x := range []struct {
		n api.Node
		l []int
	}{
		{group(), []int{1}},
		{turnNode(), []int{2, 0, -256, 0, 256, 0, 1, -1024, 1024, 255, -4096, 5, 4096}},
		{api.Node{Kind: 2, Mat: api.Mat{M: [3][3]int{{1, 2, 3}, {4, 5, 6}, {7, 8, 9}}, T: api.Vec{X: 10, Y: 11, Z: 12}}}, []int{2, 1, 2, 3, 4, 5, 6, 7, 8, 9, 10, 11, 12}},
		{switchNode(0), []int{3, 0}},
		{switchNode(65535), []int{3, 65535}},
		{levelNode(), []int{4, 7, -4096, 1, 0}},
		{levelNode(0), []int{4, 7, -4096, 1, 1, 0}},
		{levelNode(5, 6, 8192), []int{4, 7, -4096, 1, 3, 5, 6, 8192}},
		{levelNode(1, 2, 3, 4, 5, 6, 7, 8, 9, 10, 11, 12, 13, 14, 15, 16), []int{4, 7, -4096, 1, 16, 1, 2, 3, 4, 5, 6, 7, 8, 9, 10, 11, 12, 13, 14, 15, 16}},
	} {
		checkNumbers(t, plainScene(x.n), slices.Concat([]int{1, 0, 0, 1}, x.l, []int{0, 0, 0, 0, 0, 0, 0})...)
	}
	for n := range 3 {
		s := ofMeshes(api.Mesh{}, api.Mesh{}, api.Mesh{})
		put(&s, live(n+1), meshNode(n))
		checkNumbers(t, s, 1, 3, 0, 0, 0, 0, 0, 0, 0, 1, 5, n, 0, 0, 0, 0, 0, 0, 0)
	}
}

func TestP11_1SaveStyles(t *testing.T) {
	all := api.Look{Color: api.Color{1, 2, 3, 4}, Texture: -1, Cull: 1, Bias: -9, Blend: true, Bin: 14}
	const color = 16909060
	for _, x := range []struct {
		y api.Style
		l []int
	}{
		{api.Style{}, []int{0, 0, 0, 0, 0}},
		{saying(0, 1, api.Look{Color: all.Color}), []int{1, 0, 0, 0, 0, color}},
		{saying(0, 7, api.Look{Color: api.Color{255, 255, 255, 255}}), []int{7, 0, 0, 0, 0, 4294967295}},
		{saying(0, 3, api.Look{Color: api.Color{255}}), []int{3, 0, 0, 0, 0, 4278190080}},
		{saying(0, 3, api.Look{Color: api.Color{0, 255}}), []int{3, 0, 0, 0, 0, 16711680}},
		{saying(0, 3, api.Look{Color: api.Color{0, 0, 255}}), []int{3, 0, 0, 0, 0, 65280}},
		{saying(0, 3, api.Look{Color: api.Color{0, 0, 0, 255}}), []int{3, 0, 0, 0, 0, 255}},
		{saying(1, 3, api.Look{Texture: -1}), []int{0, 3, 0, 0, 0, -1}},
		{saying(2, 5, api.Look{Cull: 2}), []int{0, 0, 5, 0, 0, 2}},
		{saying(3, 7, api.Look{Bias: 1024}), []int{0, 0, 0, 7, 0, 1024}},
		{saying(4, 1, api.Look{Blend: true}), []int{0, 0, 0, 0, 1, 1, 0}},
		{saying(4, 3, api.Look{Bin: 15}), []int{0, 0, 0, 0, 3, 0, 15}},
		{api.Style{Say: [5]uint8{1, 3, 5, 7, 1}, Look: all}, []int{1, 3, 5, 7, 1, color, -1, 1, -9, 1, 14}},
		{api.Style{Say: [5]uint8{1, 0, 1, 0, 1}, Look: api.Look{Color: all.Color, Cull: 1, Bin: 3}}, []int{1, 0, 1, 0, 1, color, 1, 0, 3}},
		{api.Style{Say: [5]uint8{0, 1, 0, 1, 0}, Look: api.Look{Texture: -1, Bias: 4}}, []int{0, 1, 0, 1, 0, -1, 4}},
	} {
		checkNumbers(t, plainScene(styled(group(), x.y)), slices.Concat([]int{1, 0, 0, 1, 1}, x.l, []int{0, 0})...)
		checkNumbers(t, plainScene(styled(switchNode(9), x.y)), slices.Concat([]int{1, 0, 0, 1, 3, 9}, x.l, []int{0, 0})...)
	}
}

func TestP11_1SaveMeshes(t *testing.T) {
	checkNumbers(t, ofMeshes(api.Mesh{}), 1, 1, 0, 0, 0, 0, 0)
	checkNumbers(t, ofMeshes(api.Mesh{}, api.Mesh{Prims: []api.Prim{{Kind: 2}}}), 1, 2, 0, 0, 0, 1, 2, 0, 0, 0, 0)
	checkNumbers(t, ofMeshes(square(), triangle(5)), 1, 2,
		4, -1024, 1024, -1, 0, 0, 1024, 0, 0, 255, 0, -5, 7, 0, 0, 255, 5, 7, 1, 64, 63, 3, 1, 4, 0, 1, 2, 3, 2, 0, 2, 3, 3, 2, 1,
		3, 5, 0, 0, 0, 255, 0, 6, 0, 5, 1, 0, 0, 9, 2, 3, 1, 0, 3, 0, 1, 2,
		0, 0, 0)
}

func TestP11_1SaveTextures(t *testing.T) {
	l := []api.Color{{1, 2, 3, 4}, {0, 0, 0, 1}, {0, 0, 1, 0}, {0, 1, 0, 0}, {1, 0, 0, 0}, {}}
	checkNumbers(t, ofTextures(api.Texture{W: 3, H: 2, Texels: l}), 1, 0, 1, 3, 2, 16909060, 1, 256, 65536, 16777216, 0, 0, 0)
	checkNumbers(t, ofTextures(api.Texture{W: 1, H: 3, Texels: l[:3]}, api.Texture{W: 1, H: 1, Texels: l[5:]}), 1, 0, 2, 1, 3, 16909060, 1, 256, 1, 1, 0, 0, 0)
}

// Children and the root are told by the numbers of the plain one, whoever was at their slots ahead of that.
func TestP11_1SaveHandles(t *testing.T) {
	s := upward()
	put(&s, dead(3), api.Node{})
	put(&s, live(maxGen), switchNode(1))
	s.Graph.Kids[10] = []api.Handle{handle(8, 63), handle(8, 63), handle(0, 7)}
	s.Root = handle(10, maxGen)
	l := []int{1, 0, 0, 10}
	nothing := []int{0, 0, 0, 0, 0}
	for i := range 9 {
		l = append(append(l, 1), nothing...)
		if i == 0 {
			l = append(l, 0)
			continue
		}
		l = append(l, 3, i-1, 0, i-1)
	}
	l = append(append(l, 3, 1), nothing...)
	checkNumbers(t, s, append(l, 3, 8, 8, 0, 10)...)
	checkNumbers(t, gone(7), 1, 0, 0, 0, 0)
	for slot := range 3 {
		s := plainScene(group(), group(), group())
		s.Root = handle(slot, 1)
		checkNumbers(t, s, 1, 0, 0, 3, 1, 0, 0, 0, 0, 0, 0, 1, 0, 0, 0, 0, 0, 0, 1, 0, 0, 0, 0, 0, 0, slot+1)
	}
}

// checkWrong wants the error of Check, with nothing beside it.
func checkWrong(t *testing.T, s api.Scene) {
	t.Helper()
	want := edit.Check(s)
	p, e := Plain(s)
	b, f := Save(s)
	if want == api.OK || e != want || f != want || len(b) > 0 || !wantSame(p, api.Scene{}) {
		t.Errorf("of %v: Plain: %v, %d; Save: %v, %d; want %d", s, p, e, short(b), f, want)
	}
}

func TestP11_1Errors(t *testing.T) {
	for _, s := range wrong() {
		checkWrong(t, s)
		if _, e := Save(s); e != 8 {
			t.Error(s, e)
		}
	}
}

// What is wrong, and would be too long as well, is wrong.
func TestP11_1WrongAndTooLong(t *testing.T) {
	checkWrong(t, ofMeshes(slices.Repeat([]api.Mesh{wideMesh()}, 300)...))
	checkWrong(t, ofTextures(slices.Repeat([]api.Texture{wideImage()}, 60)...))
	checkWrong(t, plainScene(slices.Repeat([]api.Node{levelNode(make([]int, 900)...)}, 100)...))
	s := widest()
	s.Nodes[5].Far = make([]int, 80000)
	checkWrong(t, s)
	s = widest()
	s.Meshes[9].Prims = slices.Repeat([]api.Prim{{}}, 40000)
	checkWrong(t, s)
}

// No scene that may be is too long: the one of the most bytes has fewer than may be, and is saved and loaded.
func TestP11_1Widest(t *testing.T) {
	b, e := Save(widest())
	if e != api.OK || len(b) < 61000 || len(b) > maxText {
		t.Error(len(b), e)
	}
	checkTaken(t, "the widest", b)
}

// So how long the numbers of a scene may be can be seen from within alone.
func TestP11_1TooLong(t *testing.T) {
	long := func(zeros, wide int) []int {
		return append(make([]int, zeros), slices.Repeat([]int{64}, wide)...)
	}
	for _, x := range []struct {
		l    []int
		size int
		e    api.Errno
	}{
		{nil, 1, 0}, {long(5, 1), 8, 0}, {long(65533, 0), 65536, 0}, {long(65534, 0), 0, 3}, {long(65532, 1), 0, 3}, {long(65531, 1), 65536, 0},
		{long(1, 32766), 65536, 0}, {long(2, 32766), 0, 3}, {long(0, 32767), 0, 3}, {long(65536, 0), 0, 3}, {long(0, 65536), 0, 3}, {long(65537, 0), 0, 4}, {long(0, 65537), 0, 4},
		{[]int{1, maxWide, -maxWide}, 14, 0}, {[]int{1, maxWide + 1}, 0, 2}, {[]int{-maxWide - 1}, 0, 2}, {append(long(65535, 0), maxWide+1), 0, 2}, {append(long(65536, 0), maxWide+1), 0, 4},
	} {
		b, e := written(x.l)
		if e != x.e || len(b) != x.size || e == api.OK && !slices.Equal(b, wantList(x.l)) {
			t.Errorf("%d numbers: %d bytes, %d; want %d, %d", len(x.l), len(b), e, x.size, x.e)
		}
	}
}
