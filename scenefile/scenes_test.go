package scenefile

import (
	"slices"

	"diorama/api"
)

const (
	maxSlots = 128
	maxGen   = 1 << 30
	maxKids  = 16
	maxText  = 65536
	maxWide  = 1 << 40
)

func live(gen int) api.Slot { return api.Slot{Gen: gen, Live: true} }

func dead(gen int) api.Slot { return api.Slot{Gen: gen} }

func handle(slot, gen int) api.Handle { return api.Handle{Slot: slot, Gen: gen} }

// triangle is a mesh of one triangle, n of whose numbers are those of another one.
func triangle(n int) api.Mesh {
	return api.Mesh{Verts: []api.Vec{{X: n}, {Y: n + 1}, {Z: 9}}, UV: [][2]int{{0, 255}, {n, 1}, {2, 3}}, Prims: []api.Prim{{Index: []int{0, 1, 2}}}}
}

// square is a mesh of several primitives, one of which has no numbers.
func square() api.Mesh {
	return api.Mesh{
		Verts: []api.Vec{{X: -1024, Y: 1024, Z: -1}, {X: 1024}, {X: -5, Y: 7}, {X: 5, Y: 7, Z: 1}},
		UV:    [][2]int{{0, 0}, {255, 0}, {0, 255}, {64, 63}},
		Prims: []api.Prim{{Kind: 1, Index: []int{0, 1, 2, 3}}, {Kind: 2}, {Kind: 2, Index: []int{3, 2, 1}}},
	}
}

// image is a texture of these sides.
func image(w, h int) api.Texture {
	t := api.Texture{W: w, H: h}
	for i := range w * h {
		t.Texels = append(t.Texels, api.Color{uint8(i), 2, uint8(3 * i), 255})
	}
	return t
}

func group() api.Node { return api.Node{Kind: 1} }

func meshNode(n int) api.Node { return api.Node{Kind: 5, Mesh: n} }

func switchNode(on uint16) api.Node { return api.Node{Kind: 3, On: on} }

func turnNode() api.Node {
	return api.Node{Kind: 2, Mat: api.Mat{M: [3][3]int{{0, -256, 0}, {256, 0, 1}, {-1024, 1024, 255}}, T: api.Vec{X: -4096, Y: 5, Z: 4096}}}
}

func levelNode(far ...int) api.Node {
	return api.Node{Kind: 4, Center: api.Vec{X: 7, Y: -4096, Z: 1}, Far: far}
}

// saying is a style that says one thing, and no other one.
func saying(thing int, say uint8, l api.Look) api.Style {
	s := api.Style{Look: l}
	s.Say[thing] = say
	return s
}

func styled(n api.Node, y api.Style) api.Node {
	n.Style = y
	return n
}

func painted(n api.Node, tex int) api.Node { return styled(n, saying(1, 5, api.Look{Texture: tex})) }

// all is a style that says all five things.
func all() api.Style {
	return api.Style{Say: [5]uint8{1, 3, 5, 7, 1}, Look: api.Look{Color: api.Color{9, 8, 7, 6}, Texture: 1, Cull: 2, Bias: -1024, Blend: true, Bin: 15}}
}

// good is made anew at each call, so that a test may turn it into another one. All Kinds are in it; slots that nobody has are the first, some between, and the last; 4 to 8 are children several times; 9 is alone.
func good() api.Scene {
	slots := []api.Slot{dead(4), live(3), dead(maxGen), dead(5), live(maxGen), live(1), live(2), live(9), live(4), live(1), dead(1)}
	h := func(slot int) api.Handle { return handle(slot, slots[slot].Gen) }
	return api.Scene{
		Graph: api.Graph{
			Arena: api.Arena{Slots: slots},
			Kids:  [][]api.Handle{nil, {h(8), h(4), h(5), h(4)}, nil, nil, {h(5), h(7)}, {h(7), h(7), h(8)}, {h(5), h(1)}, nil, nil, nil, nil},
		},
		Nodes: []api.Node{
			{}, styled(group(), saying(0, 3, api.Look{Color: api.Color{200, 1, 2, 3}})), {}, {}, turnNode(), switchNode(5), levelNode(0, 10, 10, 8192),
			painted(meshNode(1), 1), styled(meshNode(0), all()), painted(group(), -1), {},
		},
		Meshes:   []api.Mesh{triangle(1), square(), {}},
		Textures: []api.Texture{image(1, 1), image(3, 2)},
		Root:     h(6),
	}
}

// small is a plain scene of few numbers, with all kinds of things.
func small() api.Scene {
	s := plainScene(switchNode(3), turnNode(), levelNode(0, 8192), styled(meshNode(1), all()))
	s.Graph.Kids = [][]api.Handle{{handle(1, 1), handle(2, 1), handle(1, 1)}, {handle(3, 1)}, {handle(3, 1), handle(3, 1)}, nil}
	s.Meshes = []api.Mesh{{}, triangle(200)}
	s.Textures = []api.Texture{image(1, 1), image(1, 2)}
	s.Root = handle(0, 1)
	return s
}

// plainScene is one of these nodes, which have no children, and of no meshes and textures.
func plainScene(l ...api.Node) api.Scene {
	s := api.Scene{Nodes: l, Graph: api.Graph{Kids: make([][]api.Handle, len(l))}}
	for range l {
		s.Graph.Arena.Slots = append(s.Graph.Arena.Slots, live(1))
	}
	return s
}

// alone is a plain scene of one node, and of so many meshes and textures that no number of one is wrong.
func alone(n api.Node) api.Scene {
	s := plainScene(n)
	s.Meshes = make([]api.Mesh, 32)
	s.Textures = slices.Repeat([]api.Texture{image(1, 1)}, 16)
	return s
}

func ofMeshes(l ...api.Mesh) api.Scene { return api.Scene{Meshes: l} }

func ofTextures(l ...api.Texture) api.Scene { return api.Scene{Textures: l} }

// gone is a scene all of whose slots nobody has.
func gone(slots int) api.Scene {
	s := api.Scene{Graph: api.Graph{Kids: make([][]api.Handle, slots)}, Nodes: make([]api.Node, slots)}
	for i := range slots {
		s.Graph.Arena.Slots = append(s.Graph.Arena.Slots, dead(i+1))
	}
	return s
}

// chain is as many nodes as may be, each of which has the next one as all its children, the last one none.
func chain() api.Scene {
	s := plainScene(slices.Repeat([]api.Node{group()}, maxSlots)...)
	for i := range maxSlots - 1 {
		s.Graph.Kids[i] = slices.Repeat([]api.Handle{handle(i+1, 1)}, maxKids)
	}
	s.Root = handle(maxSlots-1, 1)
	return s
}

// upward has its children at slots ahead of it, and handles of great Gens.
func upward() api.Scene {
	s := plainScene(slices.Repeat([]api.Node{group()}, 9)...)
	for i := range s.Nodes {
		s.Graph.Arena.Slots[i].Gen = 7 * (i + 1)
	}
	for i := 1; i < 9; i++ {
		s.Graph.Kids[i] = []api.Handle{handle(i-1, 7*i), handle(0, 7), handle(i-1, 7*i)}
	}
	s.Root = handle(8, 63)
	return s
}

// wideMesh is one of as many numbers as may be, each of as many bytes.
func wideMesh() api.Mesh {
	m := api.Mesh{Prims: make([]api.Prim, 16)}
	for i := range 64 {
		m.Verts = append(m.Verts, api.Vec{X: 1024 - i, Y: -1024 + i, Z: 1024})
		m.UV = append(m.UV, [2]int{255, 64 + i})
	}
	for i := range 192 {
		p := &m.Prims[13+i/66]
		p.Index = append(p.Index, 63-i%64)
	}
	return m
}

func wideImage() api.Texture {
	t := image(16, 16)
	for i := range t.Texels {
		t.Texels[i][0] = 255 - uint8(i)/2
	}
	return t
}

// widest is a scene of as many bytes as one that may be can have.
func widest() api.Scene {
	y := all()
	y.Look.Color, y.Look.Bias = api.Color{255, 254, 253, 252}, 1024
	n := api.Node{Kind: 4, Center: api.Vec{X: 4096, Y: -4096, Z: 4095}, Far: slices.Repeat([]int{8192}, 16), Style: y}
	s := plainScene(slices.Repeat([]api.Node{n}, maxSlots)...)
	s.Graph.Kids = chain().Graph.Kids
	for i := range 64 {
		s.Graph.Kids[i] = slices.Repeat([]api.Handle{handle(64+i, 1)}, maxKids)
	}
	s.Meshes = slices.Repeat([]api.Mesh{wideMesh()}, 32)
	s.Textures = slices.Repeat([]api.Texture{wideImage()}, 16)
	s.Root = handle(maxSlots-1, 1)
	return s
}

// scenes are ones that may be, of all kinds, each made anew.
func scenes() []api.Scene {
	l := []api.Scene{
		{}, good(), small(), widest(), chain(), upward(), gone(1), gone(3), gone(maxSlots), plainScene(group()), plainScene(slices.Repeat([]api.Node{group()}, 65)...),
		ofMeshes(api.Mesh{}), ofMeshes(square(), api.Mesh{}, triangle(7)), ofMeshes(make([]api.Mesh, 32)...), ofMeshes(wideMesh()),
		ofTextures(image(1, 1)), ofTextures(image(16, 1), image(1, 16)), ofTextures(slices.Repeat([]api.Texture{wideImage()}, 16)...),
	}
	for _, n := range someNodes() {
		l = append(l, alone(n))
	}
	return slices.Concat(l, roots(), holes())
}

// roots are scenes that differ in their Root.
func roots() []api.Scene {
	var l []api.Scene
	for _, h := range []api.Handle{{}, handle(1, 3), handle(4, maxGen), handle(9, 1)} {
		s := good()
		s.Root = h
		l = append(l, s)
	}
	for slot := range 3 {
		s := plainScene(group(), turnNode(), switchNode(9))
		s.Root = handle(slot, 1)
		l = append(l, s)
	}
	return l
}

// holes are scenes of three nodes, with slots that nobody has at each of the places ahead of them, between them, and behind them.
func holes() []api.Scene {
	var l []api.Scene
	for which := range 1 << 4 {
		var s api.Scene
		for at := range 4 {
			if which>>at&1 == 1 {
				put(&s, dead(3+at), api.Node{})
			}
			if at < 3 {
				put(&s, live(2+at), switchNode(uint16(at)))
			}
		}
		h := held(s)
		s.Graph.Kids[h[0].Slot] = []api.Handle{h[2], h[1], h[2]}
		s.Graph.Kids[h[1].Slot] = []api.Handle{h[2]}
		s.Root = h[1]
		l = append(l, s)
	}
	return l
}

func put(s *api.Scene, slot api.Slot, n api.Node) {
	s.Graph.Arena.Slots = append(s.Graph.Arena.Slots, slot)
	s.Graph.Kids = append(s.Graph.Kids, nil)
	s.Nodes = append(s.Nodes, n)
}

// held are all handles that are held, rising by their slots.
func held(s api.Scene) []api.Handle {
	var l []api.Handle
	for slot, x := range s.Graph.Arena.Slots {
		if x.Live {
			l = append(l, handle(slot, x.Gen))
		}
	}
	return l
}

// someNodes are ones that may be where there are enough meshes and textures: of each Kind, each of its fields at its least and its greatest.
func someNodes() []api.Node {
	l := []api.Node{group(), turnNode(), {Kind: 2}, switchNode(0), switchNode(65535), levelNode(), levelNode(0), levelNode(make([]int, 16)...), levelNode(slices.Repeat([]int{8192}, 16)...), meshNode(0), meshNode(31)}
	for _, v := range []int{-1024, 1024} {
		for at := range 9 {
			n := api.Node{Kind: 2}
			n.Mat.M[at/3][at%3] = v
			l = append(l, n)
		}
	}
	for _, v := range []int{-4096, 4096} {
		for _, p := range []api.Vec{{X: v}, {Y: v}, {Z: v}} {
			l = append(l, api.Node{Kind: 2, Mat: api.Mat{T: p}}, api.Node{Kind: 4, Center: p, Far: []int{1, 2}})
		}
	}
	for _, y := range someStyles() {
		l = append(l, styled(group(), y), styled(meshNode(3), y), styled(levelNode(3, 4), y))
	}
	return l
}

// someStyles are one that says nothing, each thing alone at its least and its greatest, and all five.
func someStyles() []api.Style {
	l := []api.Style{{}, all()}
	for _, say := range []uint8{1, 3, 5, 7} {
		for thing, looks := range [5][]api.Look{
			{{}, {Color: api.Color{255, 255, 255, 255}}, {Color: api.Color{1, 2, 3, 4}}, {Color: api.Color{0, 0, 0, 255}}, {Color: api.Color{128}}},
			{{}, {Texture: -1}, {Texture: 15}},
			{{}, {Cull: 2}},
			{{}, {Bias: -1024}, {Bias: 1024}},
			{{}, {Blend: true}, {Bin: 15}, {Blend: true, Bin: 1}},
		} {
			for _, look := range looks {
				l = append(l, saying(thing, say, look))
			}
		}
		y := all()
		y.Say = [5]uint8{say, say, say, say, say}
		l = append(l, y)
	}
	return l
}

// wrong are scenes each of which may not be, for one reason.
func wrong() []api.Scene {
	l := []api.Scene{
		ofMeshes(make([]api.Mesh, 33)...), ofMeshes(api.Mesh{Verts: make([]api.Vec, 1)}), ofMeshes(api.Mesh{UV: make([][2]int, 1)}), ofMeshes(api.Mesh{Prims: []api.Prim{{Kind: 3}}}), ofMeshes(api.Mesh{}, api.Mesh{Prims: []api.Prim{{Index: []int{0, 0, 0}}}}),
		ofTextures(make([]api.Texture, 1)...), ofTextures(slices.Repeat([]api.Texture{image(1, 1)}, 17)...), ofTextures(image(17, 1)), ofTextures(api.Texture{W: 2, H: 1, Texels: make([]api.Color, 3)}),
		plainScene(slices.Repeat([]api.Node{group()}, maxSlots+1)...), gone(maxSlots + 1), {Root: handle(0, 1)}, {Root: handle(1, 0)},
	}
	for _, turn := range []func(s *api.Scene){
		func(s *api.Scene) { s.Root.Gen++ }, func(s *api.Scene) { s.Root = handle(11, 1) }, func(s *api.Scene) { s.Root = handle(-1, 1) }, func(s *api.Scene) { s.Root = handle(0, 4) },
		func(s *api.Scene) { s.Nodes = s.Nodes[:10] }, func(s *api.Scene) { s.Nodes = append(s.Nodes, api.Node{}) }, func(s *api.Scene) { s.Nodes = nil }, func(s *api.Scene) { s.Nodes[0] = group() }, func(s *api.Scene) { s.Nodes[9] = api.Node{} },
		func(s *api.Scene) { s.Nodes[1].Kind = 6 }, func(s *api.Scene) { s.Nodes[1].Kind = 5 }, func(s *api.Scene) { s.Nodes[1].On = 1 }, func(s *api.Scene) { s.Nodes[7].Mesh = 3 }, func(s *api.Scene) { s.Nodes[7].Style.Look.Texture = 2 }, func(s *api.Scene) { s.Nodes[7].Style.Look.Bin = 1 },
		func(s *api.Scene) { s.Nodes[4].Mat.M[2][2] = 1025 }, func(s *api.Scene) { s.Nodes[4].Mat.T.Y = -4097 }, func(s *api.Scene) { s.Nodes[6].Far[3] = 8193 }, func(s *api.Scene) { s.Nodes[6].Far[3] = 9 }, func(s *api.Scene) { s.Nodes[6].Center.Z = 4097 },
		func(s *api.Scene) { s.Nodes[8].Style.Say[0] = 2 }, func(s *api.Scene) { s.Nodes[8].Style.Look.Cull = 3 }, func(s *api.Scene) { s.Nodes[8].Style.Look.Bias = 1025 },
		func(s *api.Scene) { s.Graph.Kids = s.Graph.Kids[:10] }, func(s *api.Scene) { s.Graph.Kids[0] = []api.Handle{handle(9, 1)} }, func(s *api.Scene) { s.Graph.Kids[1][2].Gen = 2 }, func(s *api.Scene) { s.Graph.Kids[1][1] = handle(10, 1) }, func(s *api.Scene) { s.Graph.Kids[7] = []api.Handle{handle(9, 1)} },
		func(s *api.Scene) { s.Graph.Kids[5][0] = handle(6, 2) }, func(s *api.Scene) { s.Graph.Kids[9] = []api.Handle{handle(9, 1)} }, func(s *api.Scene) { s.Graph.Kids[1] = slices.Repeat([]api.Handle{handle(9, 1)}, 17) },
		func(s *api.Scene) { s.Graph.Arena.Slots[9].Gen = maxGen + 1 }, func(s *api.Scene) { s.Graph.Arena.Slots[0].Gen = 0 }, func(s *api.Scene) { s.Graph.Arena.Slots[9].Live = false }, func(s *api.Scene) { s.Graph.Arena.Slots[0].Live = true },
		func(s *api.Scene) { s.Meshes[0].Verts[0].X = 1025 }, func(s *api.Scene) { s.Meshes[1].UV[0][0] = 256 }, func(s *api.Scene) { s.Textures[1].W = 6 },
	} {
		s := good()
		turn(&s)
		l = append(l, s)
	}
	return l
}
