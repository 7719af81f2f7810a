package scenefile

import (
	"slices"
	"testing"

	"diorama/api"
	"diorama/edit"
)

// copied is a list in new memory.
func copied[T any](l []T) []T { return append([]T{}, l...) }

// deep is a copy in which no list shares memory with another one.
func deep(s api.Scene) api.Scene {
	c := api.Scene{Graph: api.Graph{Arena: api.Arena{Slots: copied(s.Graph.Arena.Slots)}}, Root: s.Root}
	for _, l := range s.Graph.Kids {
		c.Graph.Kids = append(c.Graph.Kids, copied(l))
	}
	for _, n := range s.Nodes {
		n.Far = copied(n.Far)
		c.Nodes = append(c.Nodes, n)
	}
	for _, m := range s.Meshes {
		m.Verts, m.UV, m.Prims = copied(m.Verts), copied(m.UV), copied(m.Prims)
		for i, p := range m.Prims {
			m.Prims[i].Index = copied(p.Index)
		}
		c.Meshes = append(c.Meshes, m)
	}
	for _, x := range s.Textures {
		x.Texels = copied(x.Texels)
		c.Textures = append(c.Textures, x)
	}
	return c
}

func one(b bool) int {
	if b {
		return 1
	}
	return 0
}

// flat are all numbers of all fields of a scene, one behind the other, each list's length ahead of it.
func flat(s api.Scene) []int {
	l := []int{s.Root.Slot, s.Root.Gen, len(s.Graph.Arena.Slots), len(s.Graph.Kids), len(s.Nodes), len(s.Meshes), len(s.Textures)}
	for _, x := range s.Graph.Arena.Slots {
		l = append(l, x.Gen, one(x.Live))
	}
	for _, kids := range s.Graph.Kids {
		l = append(l, len(kids))
		for _, h := range kids {
			l = append(l, h.Slot, h.Gen)
		}
	}
	for _, n := range s.Nodes {
		l = append(l, flatNode(n)...)
	}
	for _, m := range s.Meshes {
		l = append(l, flatMesh(m)...)
	}
	for _, x := range s.Textures {
		l = append(l, x.W, x.H, len(x.Texels))
		for _, c := range x.Texels {
			l = append(l, int(c[0]), int(c[1]), int(c[2]), int(c[3]))
		}
	}
	return l
}

func flatNode(n api.Node) []int {
	m, y := n.Mat, n.Style.Look
	l := []int{int(n.Kind), int(n.On), n.Mesh, m.T.X, m.T.Y, m.T.Z, n.Center.X, n.Center.Y, n.Center.Z}
	l = slices.Concat(l, m.M[0][:], m.M[1][:], m.M[2][:], []int{len(n.Far)}, n.Far)
	for _, say := range n.Style.Say {
		l = append(l, int(say))
	}
	for _, part := range y.Color {
		l = append(l, int(part))
	}
	return append(l, y.Texture, int(y.Cull), y.Bias, one(y.Blend), y.Bin)
}

func flatMesh(m api.Mesh) []int {
	l := []int{len(m.Verts), len(m.UV), len(m.Prims)}
	for _, v := range m.Verts {
		l = append(l, v.X, v.Y, v.Z)
	}
	for _, uv := range m.UV {
		l = append(l, uv[0], uv[1])
	}
	for _, p := range m.Prims {
		l = append(l, int(p.Kind), len(p.Index))
		l = append(l, p.Index...)
	}
	return l
}

// wantSame holds all fields of two scenes against each other.
func wantSame(a, b api.Scene) bool { return slices.Equal(flat(a), flat(b)) }

// wantNumber is the number of a node that is held: how many slots ahead of its own are held.
func wantNumber(s api.Scene, h api.Handle) int {
	return slices.Index(held(s), h)
}

// wantPlain is the plain one of a scene that may be: what nobody has is taken out.
func wantPlain(s api.Scene) api.Scene {
	p := deep(s)
	p.Graph.Kids, p.Nodes, p.Graph.Arena.Slots, p.Root = nil, nil, nil, api.Handle{}
	for _, h := range held(s) {
		put(&p, live(1), s.Nodes[h.Slot])
		for _, kid := range s.Graph.Kids[h.Slot] {
			kids := &p.Graph.Kids[len(p.Graph.Kids)-1]
			*kids = append(*kids, handle(wantNumber(s, kid), 1))
		}
	}
	if s.Root.Gen > 0 {
		p.Root = handle(wantNumber(s, s.Root), 1)
	}
	return deep(p)
}

// wantColor is told in ranks of 256, so that it owes nothing to shifts.
func wantColor(c api.Color) int {
	return ((int(c[0])*256+int(c[1]))*256+int(c[2]))*256 + int(c[3])
}

func wantStyle(y api.Style) []int {
	var l []int
	for _, say := range y.Say {
		l = append(l, int(say))
	}
	told := [5][]int{{wantColor(y.Look.Color)}, {y.Look.Texture}, {int(y.Look.Cull)}, {y.Look.Bias}, {one(y.Look.Blend), y.Look.Bin}}
	for thing, say := range y.Say {
		if say > 0 {
			l = append(l, told[thing]...)
		}
	}
	return l
}

func wantNode(n api.Node) []int {
	m, c := n.Mat, n.Center
	named := map[uint8][]int{
		2: slices.Concat(m.M[0][:], m.M[1][:], m.M[2][:], []int{m.T.X, m.T.Y, m.T.Z}),
		3: {int(n.On)},
		4: append([]int{c.X, c.Y, c.Z, len(n.Far)}, n.Far...),
		5: {n.Mesh},
	}
	return slices.Concat([]int{int(n.Kind)}, named[n.Kind], wantStyle(n.Style))
}

func wantMesh(m api.Mesh) []int {
	l := []int{len(m.Verts)}
	for i, v := range m.Verts {
		l = append(l, v.X, v.Y, v.Z, m.UV[i][0], m.UV[i][1])
	}
	l = append(l, len(m.Prims))
	for _, p := range m.Prims {
		l = append(l, int(p.Kind), len(p.Index))
		l = append(l, p.Index...)
	}
	return l
}

// wantNumbers are a scene's numbers, by the words of the chapter, had from the scene as it is, not from the plain one.
func wantNumbers(s api.Scene) []int {
	l := []int{1, len(s.Meshes)}
	for _, m := range s.Meshes {
		l = append(l, wantMesh(m)...)
	}
	l = append(l, len(s.Textures))
	for _, x := range s.Textures {
		l = append(l, x.W, x.H)
		for _, c := range x.Texels {
			l = append(l, wantColor(c))
		}
	}
	l = append(l, len(held(s)))
	for _, h := range held(s) {
		l = append(l, wantNode(s.Nodes[h.Slot])...)
		l = append(l, len(s.Graph.Kids[h.Slot]))
		for _, kid := range s.Graph.Kids[h.Slot] {
			l = append(l, wantNumber(s, kid))
		}
	}
	if s.Root.Gen == 0 {
		return append(l, 0)
	}
	return append(l, wantNumber(s, s.Root)+1)
}

// wantNum is a number's bytes, by divisions.
func wantNum(n int) []byte {
	rank := 2 * n
	if n < 0 {
		rank = -1 - 2*n
	}
	var b []byte
	for ; rank >= 128; rank /= 128 {
		b = append(b, byte(rank%128+128))
	}
	return append(b, byte(rank))
}

// wantList is a list's bytes.
func wantList(l []int) []byte {
	b := wantNum(len(l))
	for _, n := range l {
		b = append(b, wantNum(n)...)
	}
	return b
}

func wantBytes(s api.Scene) []byte { return wantList(wantNumbers(s)) }

// wantRead are the numbers of which these are the list's bytes, if they are those of one.
func wantRead(b []byte) ([]int, bool) {
	var l []int
	for len(b) > 0 {
		n, rank, ahead := 0, 0, 1
		for n < len(b) && b[n] >= 128 && n < 6 {
			rank += int(b[n]-128) * ahead
			ahead *= 128
			n++
		}
		if n == len(b) || n == 6 {
			return nil, false
		}
		rank += int(b[n]) * ahead
		number := rank / 2
		if rank%2 == 1 {
			number = -(rank + 1) / 2
		}
		// Not as few bytes as can be, or beyond what may be written.
		if !slices.Equal(wantNum(number), b[:n+1]) || number > maxWide || number < -maxWide {
			return nil, false
		}
		l, b = append(l, number), b[n+1:]
	}
	return l, len(l) > 0 && l[0] == len(l)-1
}

// cursor goes through numbers, and panics where something is not as a scene has it.
type cursor struct{ l []int }

func (c *cursor) get(low, high int) int {
	n := c.l[0]
	if n < low || n > high {
		panic("a number that may not be")
	}
	c.l = c.l[1:]
	return n
}

func (c *cursor) some(n int) []int {
	l := c.l[:n]
	c.l = c.l[n:]
	return l
}

func (c *cursor) point() api.Vec {
	l := c.some(3)
	return api.Vec{X: l[0], Y: l[1], Z: l[2]}
}

func (c *cursor) color() api.Color {
	n := c.get(0, 4294967295)
	return api.Color{uint8(n / 16777216), uint8(n / 65536 % 256), uint8(n / 256 % 256), uint8(n % 256)}
}

func (c *cursor) mesh() api.Mesh {
	var m api.Mesh
	for n := c.get(0, 64); n > 0; n-- {
		m.Verts = append(m.Verts, c.point())
		m.UV = append(m.UV, [2]int(c.some(2)))
	}
	for n := c.get(0, 16); n > 0; n-- {
		m.Prims = append(m.Prims, api.Prim{Kind: uint8(c.get(0, 2)), Index: c.some(c.get(0, 200))})
	}
	return m
}

func (c *cursor) node() api.Node {
	n := api.Node{Kind: uint8(c.get(1, 5))}
	switch n.Kind {
	case 2:
		n.Mat.M = [3][3]int{[3]int(c.some(3)), [3]int(c.some(3)), [3]int(c.some(3))}
		n.Mat.T = c.point()
	case 3:
		n.On = uint16(c.get(0, 65535))
	case 4:
		n.Center = c.point()
		n.Far = c.some(c.get(0, 16))
	case 5:
		n.Mesh = c.get(0, 31)
	}
	for i := range n.Style.Say {
		n.Style.Say[i] = uint8(c.get(0, 7))
	}
	y := &n.Style.Look
	for thing, get := range []func(){
		func() { y.Color = c.color() },
		func() { y.Texture = c.get(-1, 15) },
		func() { y.Cull = uint8(c.get(0, 2)) },
		func() { y.Bias = c.get(-1024, 1024) },
		func() { y.Blend = c.get(0, 1) == 1; y.Bin = c.get(0, 15) },
	} {
		if n.Style.Say[thing] > 0 {
			get()
		}
	}
	return n
}

func (c *cursor) scene() (s api.Scene) {
	c.get(1, 1)
	for n := c.get(0, 32); n > 0; n-- {
		s.Meshes = append(s.Meshes, c.mesh())
	}
	for n := c.get(0, 16); n > 0; n-- {
		x := api.Texture{W: c.get(1, 16), H: c.get(1, 16)}
		for range x.W * x.H {
			x.Texels = append(x.Texels, c.color())
		}
		s.Textures = append(s.Textures, x)
	}
	for n := c.get(0, 128); n > 0; n-- {
		put(&s, live(1), c.node())
		kids := &s.Graph.Kids[len(s.Nodes)-1]
		for k := c.get(0, 16); k > 0; k-- {
			*kids = append(*kids, handle(c.get(0, 127), 1))
		}
	}
	if n := c.get(0, 128); n > 0 {
		s.Root = handle(n-1, 1)
	}
	if len(c.l) > 0 {
		panic("numbers behind the end")
	}
	return s
}

// wantLoad is what Load answers, by the words of the chapter.
func wantLoad(b []byte) (s api.Scene, e api.Errno) {
	if len(b) > maxText {
		return api.Scene{}, 3
	}
	l, is := wantRead(b)
	if !is {
		return api.Scene{}, 110
	}
	defer func() {
		if recover() != nil {
			s, e = api.Scene{}, 110
		}
	}()
	c := cursor{l[1:]}
	if s = c.scene(); edit.Check(s) != api.OK {
		return api.Scene{}, 110
	}
	return deep(s), api.OK
}

// checkLoad wants that Load answers what the words tell, and answers it.
func checkLoad(t *testing.T, what string, b []byte) api.Errno {
	t.Helper()
	want, wantE := wantLoad(b)
	got, e := Load(b)
	if e != wantE || !wantSame(got, want) {
		t.Errorf("%s: Load(%v): %v, %d; want %v, %d", what, short(b), got, e, want, wantE)
	}
	return e
}

// checkRefused wants that bytes are refused, by the words, too.
func checkRefused(t *testing.T, what string, b []byte) {
	t.Helper()
	if e := checkLoad(t, what, b); e != api.ErrFormat {
		t.Errorf("%s: Load(%v): %d; want ErrFormat", what, short(b), e)
	}
}

// checkTaken wants that bytes are those of a scene, by the words, too.
func checkTaken(t *testing.T, what string, b []byte) {
	t.Helper()
	if e := checkLoad(t, what, b); e != api.OK {
		t.Errorf("%s: Load(%v): %d", what, short(b), e)
	}
}

// short keeps what is told of a fault within what can be read.
func short(b []byte) []byte { return b[:min(len(b), 300)] }
