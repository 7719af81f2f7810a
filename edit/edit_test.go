package edit

import (
	"math"
	"slices"
	"testing"

	"diorama/api"
	"diorama/mesh"
	"diorama/nodes"
	"diorama/states"
	"diorama/texture"
)

const (
	maxSlots    = 128
	maxGen      = 1 << 30
	maxKids     = 16
	maxMeshes   = 32
	maxTextures = 16
	maxMat      = 1024
	maxCoord    = 4096
)

func live(gen int) api.Slot { return api.Slot{Gen: gen, Live: true} }

func dead(gen int) api.Slot { return api.Slot{Gen: gen} }

func handle(slot, gen int) api.Handle { return api.Handle{Slot: slot, Gen: gen} }

// triangle is a mesh of one triangle, n of whose numbers are those of another one.
func triangle(n int) api.Mesh {
	return api.Mesh{Verts: []api.Vec{{X: n}, {Y: n + 1}, {Z: 9}}, UV: [][2]int{{0, 255}, {n, 1}, {2, 3}}, Prims: []api.Prim{{Index: []int{0, 1, 2}}}}
}

// square is a mesh of several primitives.
func square() api.Mesh {
	return api.Mesh{
		Verts: []api.Vec{{X: -1024}, {X: 1024}, {X: -5, Y: 7}, {X: 5, Y: 7, Z: 1}},
		UV:    [][2]int{{0, 0}, {255, 0}, {0, 255}, {255, 255}},
		Prims: []api.Prim{{Kind: 1, Index: []int{0, 1, 2, 3}}, {Kind: 2}, {Kind: 2, Index: []int{3, 2, 1}}},
	}
}

// image is a texture of these sides.
func image(w, h int) api.Texture {
	t := api.Texture{W: w, H: h}
	for i := range w * h {
		t.Texels = append(t.Texels, api.Color{uint8(i), 2, 3, 255})
	}
	return t
}

func badMesh() api.Mesh { return api.Mesh{Verts: make([]api.Vec, 1)} }

func meshOfMany() api.Mesh {
	return api.Mesh{Verts: make([]api.Vec, 65), UV: make([][2]int, 65)}
}

func badTexture() api.Texture { return api.Texture{W: 1, H: 2, Texels: make([]api.Color, 1)} }

func group() api.Node { return api.Node{Kind: 1} }

func meshNode(n int) api.Node { return api.Node{Kind: 5, Mesh: n} }

func turnNode() api.Node {
	return api.Node{Kind: 2, Mat: api.Mat{M: [3][3]int{{0, -256, 0}, {256, 0, 1}, {-1024, 1024, 256}}, T: api.Vec{X: -4096, Y: 5, Z: 4096}}}
}

func levelNode(far ...int) api.Node {
	return api.Node{Kind: 4, Center: api.Vec{X: 7, Y: -4096, Z: 1}, Far: far}
}

// saying is a style that says one thing, and no other one.
func saying(thing int, say uint8, l api.Look) api.Style {
	s := api.Style{Look: l}
	s.Say[thing] = say
	return s
}

func painted(n api.Node, tex int) api.Node {
	n.Style = saying(1, 5, api.Look{Texture: tex})
	return n
}

func colored(n api.Node, red uint8) api.Node {
	n.Style = saying(0, 3, api.Look{Color: api.Color{red, 1, 2, 3}})
	return n
}

// good is made anew at each call, so that a test may turn it into another one. All Kinds are in it; its first free slot is 2; 3, 4 and 7 are children several times; 9 is alone.
func good() api.Scene {
	slots := []api.Slot{live(3), dead(maxGen), dead(5), live(maxGen), live(1), live(2), dead(1), live(9), live(4), live(1)}
	h := func(slot int) api.Handle { return handle(slot, slots[slot].Gen) }
	return api.Scene{
		Graph: api.Graph{
			Arena: api.Arena{Slots: slots},
			Kids:  [][]api.Handle{{h(3), h(4), h(3)}, nil, nil, {h(4), h(7)}, {h(7), h(7), h(8)}, {h(4), h(0)}, nil, nil, nil, nil},
		},
		Nodes: []api.Node{
			colored(group(), 200), {}, {}, turnNode(), {Kind: 3, On: 5}, levelNode(0, 10, 10, 8192), {},
			painted(meshNode(1), 1), meshNode(0), painted(group(), -1),
		},
		Meshes:   []api.Mesh{triangle(1), square(), {}},
		Textures: []api.Texture{image(1, 1), image(3, 2)},
		Root:     h(0),
	}
}

// few is a scene without nodes, of so many meshes and textures.
func few(meshes, textures int) api.Scene {
	var s api.Scene
	for i := range meshes {
		s.Meshes = append(s.Meshes, triangle(i))
	}
	for i := range textures {
		s.Textures = append(s.Textures, image(1+i%16, 1))
	}
	return s
}

// full is a scene with as many nodes as may be, and a list of children that is full.
func full() api.Scene {
	s := few(maxMeshes, maxTextures)
	for i := range maxSlots {
		s.Graph.Arena.Slots = append(s.Graph.Arena.Slots, live(1+i))
		s.Graph.Kids = append(s.Graph.Kids, nil)
		s.Nodes = append(s.Nodes, group())
	}
	s.Graph.Kids[0] = slices.Repeat([]api.Handle{handle(1, 2)}, maxKids)
	s.Graph.Kids[1] = []api.Handle{handle(2, 3)}
	s.Nodes[2] = meshNode(31)
	return s
}

// copied is a list in new memory that owes nothing to Twin.
func copied[T any](l []T) []T { return append([]T{}, l...) }

func deepMesh(m api.Mesh) api.Mesh {
	c := api.Mesh{Verts: copied(m.Verts), UV: copied(m.UV)}
	for _, p := range m.Prims {
		c.Prims = append(c.Prims, api.Prim{Kind: p.Kind, Index: copied(p.Index)})
	}
	return c
}

func deepTexture(t api.Texture) api.Texture {
	return api.Texture{W: t.W, H: t.H, Texels: copied(t.Texels)}
}

func deepNode(n api.Node) api.Node {
	n.Far = copied(n.Far)
	return n
}

// deep is a copy that owes nothing to Twin.
func deep(s api.Scene) api.Scene {
	c := api.Scene{Graph: api.Graph{Arena: api.Arena{Slots: copied(s.Graph.Arena.Slots)}}, Root: s.Root}
	for _, l := range s.Graph.Kids {
		c.Graph.Kids = append(c.Graph.Kids, copied(l))
	}
	for _, n := range s.Nodes {
		c.Nodes = append(c.Nodes, deepNode(n))
	}
	for _, m := range s.Meshes {
		c.Meshes = append(c.Meshes, deepMesh(m))
	}
	for _, t := range s.Textures {
		c.Textures = append(c.Textures, deepTexture(t))
	}
	return c
}

func one(b bool) int {
	if b {
		return 1
	}
	return 0
}

func flatLook(l api.Look) []int {
	c := l.Color
	return []int{int(c[0]), int(c[1]), int(c[2]), int(c[3]), l.Texture, int(l.Cull), l.Bias, one(l.Blend), l.Bin}
}

func flatNode(n api.Node) []int {
	l := []int{int(n.Kind), int(n.On), n.Mesh}
	for _, row := range n.Mat.M {
		l = append(l, row[0], row[1], row[2])
	}
	for _, v := range []api.Vec{n.Mat.T, n.Center} {
		l = append(l, v.X, v.Y, v.Z)
	}
	for _, say := range n.Style.Say {
		l = append(l, int(say))
	}
	l = append(l, flatLook(n.Style.Look)...)
	l = append(l, len(n.Far))
	return append(l, n.Far...)
}

func flatMesh(m api.Mesh) []int {
	l := []int{len(m.Verts), len(m.UV), len(m.Prims)}
	for _, v := range m.Verts {
		l = append(l, v.X, v.Y, v.Z)
	}
	for _, uv := range m.UV {
		l = append(l, uv[0], uv[1])
	}
	for _, p := range m.Prims {
		l = append(l, int(p.Kind), len(p.Index))
		l = append(l, p.Index...)
	}
	return l
}

func flatTexture(t api.Texture) []int {
	l := []int{t.W, t.H, len(t.Texels)}
	for _, c := range t.Texels {
		l = append(l, int(c[0]), int(c[1]), int(c[2]), int(c[3]))
	}
	return l
}

func flatGraph(g api.Graph) []int {
	l := []int{len(g.Arena.Slots), len(g.Kids)}
	for _, s := range g.Arena.Slots {
		l = append(l, s.Gen, one(s.Live))
	}
	for _, kids := range g.Kids {
		l = append(l, len(kids))
		for _, h := range kids {
			l = append(l, h.Slot, h.Gen)
		}
	}
	return l
}

// flat are all numbers of a scene, one behind the other, each list's length ahead of it.
func flat(s api.Scene) []int {
	l := append(flatGraph(s.Graph), s.Root.Slot, s.Root.Gen, len(s.Nodes), len(s.Meshes), len(s.Textures))
	for _, n := range s.Nodes {
		l = append(l, flatNode(n)...)
	}
	for _, m := range s.Meshes {
		l = append(l, flatMesh(m)...)
	}
	for _, t := range s.Textures {
		l = append(l, flatTexture(t)...)
	}
	return l
}

// wantSame holds two scenes against each other number by number; it owes nothing to Same.
func wantSame(a, b api.Scene) bool { return slices.Equal(flat(a), flat(b)) }

// within tells whether all numbers are from low to high.
func within(low, high int, l ...int) bool {
	return !slices.ContainsFunc(l, func(n int) bool { return n < low || n > high })
}

func wantStyle(s api.Scene, y api.Style) bool {
	if states.Check(y) != api.OK {
		return false
	}
	tex := y.Look.Texture
	return y.Say[1] == 0 || tex == -1 || tex >= 0 && tex < len(s.Textures)
}

// wantNode is whether a node may be, by the words of the chapter: first what is not named, then what is.
func wantNode(s api.Scene, n api.Node) bool {
	t, c := n.Mat.T, n.Center
	none := func(l ...int) bool { return within(0, 0, l...) }
	if n.Kind == 0 || n.Kind > 5 || !wantStyle(s, n.Style) ||
		n.Kind != 2 && !none(slices.Concat(n.Mat.M[0][:], n.Mat.M[1][:], n.Mat.M[2][:], []int{t.X, t.Y, t.Z})...) ||
		n.Kind != 3 && n.On > 0 ||
		n.Kind != 4 && !none(c.X, c.Y, c.Z, len(n.Far)) ||
		n.Kind != 5 && n.Mesh != 0 {
		return false
	}
	for _, row := range n.Mat.M {
		if !within(-maxMat, maxMat, row[:]...) {
			return false
		}
	}
	return within(-maxCoord, maxCoord, t.X, t.Y, t.Z, c.X, c.Y, c.Z) &&
		len(n.Far) <= maxKids && slices.IsSorted(n.Far) && within(0, 8192, n.Far...) &&
		(n.Kind != 5 || within(0, len(s.Meshes)-1, n.Mesh))
}

func wantHeld(s api.Scene, h api.Handle) bool {
	return within(0, len(s.Graph.Arena.Slots)-1, h.Slot) && s.Graph.Arena.Slots[h.Slot].Live && s.Graph.Arena.Slots[h.Slot].Gen == h.Gen
}

// wantScene is whether a scene may be, by the words of the chapter.
func wantScene(s api.Scene) bool {
	if nodes.Check(s.Graph) != api.OK || len(s.Nodes) != len(s.Graph.Kids) || len(s.Meshes) > maxMeshes || len(s.Textures) > maxTextures {
		return false
	}
	for i, n := range s.Nodes {
		if s.Graph.Arena.Slots[i].Live != wantNode(s, n) || n.Kind == 5 && len(s.Graph.Kids[i]) > 0 {
			return false
		}
		if !s.Graph.Arena.Slots[i].Live && !slices.Equal(flatNode(n), flatNode(api.Node{})) {
			return false
		}
	}
	badMesh := func(m api.Mesh) bool { return mesh.Check(m) != api.OK }
	badTexture := func(t api.Texture) bool { return texture.Check(t) != api.OK }
	return !slices.ContainsFunc(s.Meshes, badMesh) && !slices.ContainsFunc(s.Textures, badTexture) &&
		(s.Root.Slot == 0 && s.Root.Gen == 0 || wantHeld(s, s.Root))
}

func wantErr(may bool) api.Errno {
	if may {
		return api.OK
	}
	return 8
}

func checkScene(t *testing.T, s api.Scene, may bool) {
	t.Helper()
	if e := Check(s); e != wantErr(may) || wantScene(s) != may {
		t.Errorf("Check(%v): %d; want %d, the words tell %v", s, e, wantErr(may), wantScene(s))
	}
}

func checkNode(t *testing.T, s api.Scene, n api.Node, may bool) {
	t.Helper()
	if e := CheckNode(s, n); e != wantErr(may) || wantNode(s, n) != may {
		t.Errorf("CheckNode(%d meshes, %d textures, %v): %d; want %d, the words tell %v", len(s.Meshes), len(s.Textures), n, e, wantErr(may), wantNode(s, n))
	}
}

// spot is a field of a node, with the Kind that names it, and what puts a number there.
type spot struct {
	of  uint8
	put func(n *api.Node, v int)
}

// spots are all fields of a node but for its Kind and its Style.
func spots() []spot {
	l := []spot{
		{3, func(n *api.Node, v int) { n.On = uint16(v) }},
		{4, func(n *api.Node, v int) { n.Center.X = v }},
		{4, func(n *api.Node, v int) { n.Center.Y = v }},
		{4, func(n *api.Node, v int) { n.Center.Z = v }},
		{4, func(n *api.Node, v int) { n.Far = []int{v} }},
		{4, func(n *api.Node, v int) { n.Far = []int{0, v} }},
		{5, func(n *api.Node, v int) { n.Mesh = v }},
		{2, func(n *api.Node, v int) { n.Mat.T.X = v }},
		{2, func(n *api.Node, v int) { n.Mat.T.Y = v }},
		{2, func(n *api.Node, v int) { n.Mat.T.Z = v }},
	}
	for row := range 3 {
		for at := range 3 {
			l = append(l, spot{2, func(n *api.Node, v int) { n.Mat.M[row][at] = v }})
		}
	}
	return l
}

// far are numbers that lie beyond all limits.
func far() []int {
	return []int{math.MinInt, math.MinInt + 1, -1 << 32, 1 << 32, 1 << 62, math.MaxInt - 1, math.MaxInt}
}

func TestP10_1NodeKinds(t *testing.T) {
	for kind := range 256 {
		checkNode(t, few(1, 0), api.Node{Kind: uint8(kind)}, kind >= 1 && kind <= 5)
		checkNode(t, few(0, 3), api.Node{Kind: uint8(kind)}, kind >= 1 && kind <= 4)
		checkNode(t, good(), colored(api.Node{Kind: uint8(kind)}, 9), kind >= 1 && kind <= 5)
	}
}

// Each field that a Kind does not name has its zero value, one at a time.
func TestP10_1NodeOtherFields(t *testing.T) {
	for i, x := range spots() {
		for _, kind := range []uint8{0, 1, 2, 3, 4, 5, 6, 7, 255} {
			n := api.Node{Kind: kind}
			if x.put(&n, 1); kind == x.of {
				checkNode(t, good(), n, true)
				continue
			}
			for _, v := range append(far(), 1, -1, 2, 255, 256, 1024, -1024, 4096) {
				n := api.Node{Kind: kind}
				// Of 16 bits some numbers are 0 again.
				if x.put(&n, v); x.of == 3 && n.On == 0 {
					continue
				}
				if e := CheckNode(good(), n); e != 8 || wantNode(good(), n) {
					t.Error(i, kind, v, e)
				}
			}
		}
	}
}

// A list without elements may be nil or not; one of a zero has an element.
func TestP10_1NodeOtherFar(t *testing.T) {
	for kind := uint8(1); kind <= 5; kind++ {
		checkNode(t, good(), api.Node{Kind: kind, Far: []int{}}, true)
		checkNode(t, good(), api.Node{Kind: kind, Far: []int{-5, 9999}[:0]}, true)
		checkNode(t, good(), api.Node{Kind: kind, Far: []int{0}}, kind == 4)
		checkNode(t, good(), api.Node{Kind: kind, Far: make([]int, 16)}, kind == 4)
		checkNode(t, good(), api.Node{Kind: kind, Far: make([]int, 17)}, false)
	}
}

func TestP10_1NodeTurn(t *testing.T) {
	for i, x := range spots() {
		limit := maxMat
		if i <= 9 {
			limit = maxCoord
		}
		for v, may := range map[int]bool{limit: true, -limit: true, limit + 1: false, -limit - 1: false, math.MinInt: false, math.MaxInt: false, 0: true} {
			for _, n := range []api.Node{{Kind: 2}, turnNode()} {
				if x.put(&n, v); x.of == 2 {
					checkNode(t, good(), n, may)
				}
			}
		}
	}
	checkNode(t, api.Scene{}, turnNode(), true)
}

func TestP10_1NodeSwitch(t *testing.T) {
	for on := range 1 << 16 {
		n := api.Node{Kind: 3, On: uint16(on)}
		checkNode(t, api.Scene{}, n, true)
		if n.Kind = 1; on > 0 {
			checkNode(t, api.Scene{}, n, false)
		}
	}
}

func TestP10_1NodeCenter(t *testing.T) {
	for _, v := range append(far(), 0, 1, -1, 4095, 4096, 4097, -4095, -4096, -4097) {
		may := v >= -4096 && v <= 4096
		checkNode(t, api.Scene{}, api.Node{Kind: 4, Center: api.Vec{X: v}}, may)
		checkNode(t, api.Scene{}, api.Node{Kind: 4, Center: api.Vec{Y: v}}, may)
		checkNode(t, api.Scene{}, api.Node{Kind: 4, Center: api.Vec{Z: v}}, may)
		checkNode(t, api.Scene{}, api.Node{Kind: 4, Center: api.Vec{X: v, Y: -4096, Z: 4096}, Far: []int{5}}, may)
	}
}

func TestP10_1NodeFar(t *testing.T) {
	for count := range 20 {
		// Rising ones, all the same, and the least ones.
		for _, step := range []int{0, 1, 512} {
			l := make([]int, count)
			for i := range l {
				l[i] = min(i*step, 8192)
			}
			checkNode(t, api.Scene{}, levelNode(l...), count <= 16)
		}
		for _, v := range []int{-1, 0, 8191, 8192, 8193} {
			checkNode(t, api.Scene{}, levelNode(slices.Repeat([]int{v}, count)...), count <= 16 && (count == 0 || v >= 0 && v <= 8192))
		}
	}
	checkNode(t, api.Scene{}, levelNode(make([]int, 5000)...), false)
	checkNode(t, api.Scene{}, levelNode(), true)
	for _, v := range far() {
		checkNode(t, api.Scene{}, levelNode(v), false)
		checkNode(t, api.Scene{}, levelNode(0, v), false)
	}
}

// One number that may not be, at each place.
func TestP10_1NodeFarPlaces(t *testing.T) {
	for count := 1; count <= 16; count++ {
		rising := func() []int {
			l := make([]int, count)
			for i := range l {
				l[i] = 100 * (i + 1)
			}
			return l
		}
		for at := range count {
			for v, may := range map[int]bool{100*at - 1: false, 100 * at: true, 100*at + 200: true, 100*at + 201: at == count-1, -1: false, 8193: false, 8192: at == count-1, 0: at == 0, math.MinInt: false, math.MaxInt: false} {
				l := rising()
				l[at] = v
				checkNode(t, api.Scene{}, levelNode(l...), may)
			}
		}
	}
}

func TestP10_1NodeMesh(t *testing.T) {
	for _, count := range []int{0, 1, 2, 3, 31, 32, 33, 40} {
		for n := -3; n <= 42; n++ {
			checkNode(t, few(count, 1), meshNode(n), n >= 0 && n < count)
		}
		for _, n := range far() {
			checkNode(t, few(count, 0), meshNode(n), false)
		}
	}
	// Meshes in the spare room are none.
	checkNode(t, api.Scene{Meshes: few(9, 0).Meshes[:3]}, meshNode(3), false)
	checkNode(t, api.Scene{Meshes: few(9, 0).Meshes[:3]}, meshNode(2), true)
}

func TestP10_1NodeTexture(t *testing.T) {
	for _, count := range []int{0, 1, 2, 15, 16, 17, 20} {
		for say := range uint8(9) {
			for tex := -3; tex <= 21; tex++ {
				may := tex == 0
				if say > 0 {
					may = tex >= -1 && tex < count && tex < 16 && (say == 1 || say == 3 || say == 5 || say == 7)
				}
				for kind := uint8(1); kind <= 4; kind++ {
					checkNode(t, few(9, count), api.Node{Kind: kind, Style: saying(1, say, api.Look{Texture: tex})}, may)
				}
			}
		}
		for _, tex := range far() {
			checkNode(t, few(9, count), painted(group(), tex), false)
		}
	}
	checkNode(t, api.Scene{Textures: few(0, 5).Textures[:2]}, painted(group(), 2), false)
	checkNode(t, api.Scene{Textures: few(0, 5).Textures[:2]}, painted(group(), 1), true)
	// Where other things are said, nothing is said of the texture.
	for thing := range 5 {
		checkNode(t, few(1, 0), api.Node{Kind: 5, Style: saying(thing, 7, api.Look{})}, thing != 1)
	}
}

func TestP10_1NodeStyle(t *testing.T) {
	looks := []api.Look{{Color: api.Color{0, 0, 0, 1}}, {Texture: 1}, {Cull: 2}, {Bias: -1024}, {Bin: 15}, {Blend: true}}
	wrong := []api.Look{{Texture: 16}, {Cull: 3}, {Bias: 1025}, {Bias: -1025}, {Bin: 16}, {Bin: -1}}
	for kind := uint8(1); kind <= 5; kind++ {
		for i, l := range looks {
			for thing := range 5 {
				for say := range uint8(10) {
					n := api.Node{Kind: kind, Style: saying(thing, say, l)}
					checkNode(t, good(), n, thing == min(i, 4) && say%2 == 1 && say < 8)
				}
			}
		}
		all := api.Node{Kind: kind, Style: api.Style{Say: [5]uint8{1, 3, 5, 7, 1}, Look: api.Look{Color: api.Color{1, 2, 3, 4}, Texture: 1, Cull: 1, Bias: 1024, Blend: true, Bin: 15}}}
		checkNode(t, good(), all, true)
		for _, l := range wrong {
			all.Style.Look = l
			checkNode(t, good(), all, false)
		}
		all.Style.Look = api.Look{Texture: 2}
		checkNode(t, good(), all, false)
	}
	// A style that may be saves no Kind that may not.
	checkNode(t, good(), painted(api.Node{}, 1), false)
	checkNode(t, good(), painted(api.Node{Kind: 6}, 1), false)
}

// Whatever else the scene is: it is asked for how many meshes and textures it has alone.
func TestP10_1NodeOfAnyScene(t *testing.T) {
	s := api.Scene{
		Graph:    api.Graph{Arena: api.Arena{Slots: make([]api.Slot, 3)}, Kids: [][]api.Handle{{handle(0, 0)}}},
		Nodes:    make([]api.Node, 500),
		Meshes:   []api.Mesh{badMesh(), meshOfMany()},
		Textures: []api.Texture{{}, badTexture()},
		Root:     handle(-1, -1),
	}
	checkScene(t, s, false)
	for n := -2; n < 5; n++ {
		checkNode(t, s, meshNode(n), n == 0 || n == 1)
		checkNode(t, s, painted(turnNode(), n), n >= -1 && n <= 1)
	}
	for _, x := range changes() {
		s := good()
		x.turn(&s)
		for _, n := range someNodes() {
			checkNode(t, s, n, wantNode(s, n))
		}
	}
}

// someNodes are nodes of each Kind, and ones that may not be in the good scene, each for one reason.
func someNodes() []api.Node {
	return []api.Node{
		group(), colored(group(), 7), painted(group(), 0), turnNode(), {Kind: 2}, {Kind: 3, On: 65535}, {Kind: 3}, levelNode(), levelNode(1, 2, 2), meshNode(0), meshNode(2), painted(meshNode(2), 1),
		{}, {Kind: 6}, {Kind: 255}, {Kind: 1, On: 1}, {Kind: 1, Far: []int{0}}, {Kind: 2, Mat: api.Mat{T: api.Vec{X: 4097}}}, {Kind: 3, On: 1, Mesh: 1}, levelNode(2, 1), levelNode(-1), meshNode(3), meshNode(-1), painted(group(), 2), painted(meshNode(0), 2), {Kind: 1, Style: api.Style{Say: [5]uint8{2}}},
	}
}
