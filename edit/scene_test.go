package edit

import (
	"math"
	"slices"
	"testing"

	"diorama/api"
	"diorama/mesh"
	"diorama/nodes"
)

// change makes another scene of the good one, by one thing alone; may is whether that may be.
type change struct {
	may  bool
	turn func(s *api.Scene)
}

// changes are one of each field of the good scene, in each list and inside its elements, and in how many elements there are.
func changes() []change {
	return slices.Concat(graphChanges(), countChanges(), nodeChanges(), styleChanges(), meshChanges(), textureChanges(), rootChanges())
}

func graphChanges() []change {
	return []change{
		{true, func(s *api.Scene) { s.Graph.Arena.Slots[2].Gen++ }},
		{false, func(s *api.Scene) { s.Graph.Arena.Slots[2].Gen = 0 }},
		{false, func(s *api.Scene) { s.Graph.Arena.Slots[9].Gen = maxGen + 1 }},
		{true, func(s *api.Scene) { s.Graph.Arena.Slots[9].Gen = maxGen }},
		{false, func(s *api.Scene) { s.Graph.Arena.Slots[4].Gen++ }},
		{false, func(s *api.Scene) { s.Graph.Arena.Slots[9].Live = false }},
		{false, func(s *api.Scene) { s.Graph.Arena.Slots[6].Live = true }},
		{false, func(s *api.Scene) { s.Graph.Arena.Slots = nil }},
		{false, func(s *api.Scene) { s.Graph.Arena.Slots = s.Graph.Arena.Slots[:9] }},
		{false, func(s *api.Scene) { s.Graph.Arena.Slots = append(s.Graph.Arena.Slots, dead(1)) }},
		{true, func(s *api.Scene) { s.Graph.Kids[0][0] = handle(4, 1) }},
		{true, func(s *api.Scene) { s.Graph.Kids[0] = s.Graph.Kids[0][:2] }},
		{true, func(s *api.Scene) { s.Graph.Kids[0] = append(s.Graph.Kids[0], handle(9, 1)) }},
		{true, func(s *api.Scene) { s.Graph.Kids[5][0], s.Graph.Kids[5][1] = s.Graph.Kids[5][1], s.Graph.Kids[5][0] }},
		{false, func(s *api.Scene) { s.Graph.Kids[0][1].Gen++ }},
		{false, func(s *api.Scene) { s.Graph.Kids[0][1].Slot = 70 }},
		{false, func(s *api.Scene) { s.Graph.Kids[4] = []api.Handle{handle(0, 3)} }},
		{false, func(s *api.Scene) { s.Graph.Kids[0] = slices.Repeat([]api.Handle{handle(9, 1)}, 17) }},
		{false, func(s *api.Scene) { s.Graph.Kids[1] = []api.Handle{handle(9, 1)} }},
		{false, func(s *api.Scene) { s.Graph.Kids = s.Graph.Kids[:9] }},
		{false, func(s *api.Scene) { s.Graph.Kids = append(s.Graph.Kids, nil) }},
		{false, func(s *api.Scene) { s.Graph.Kids = nil }},
	}
}

// countChanges have more or fewer nodes than slots, or one more or fewer of both.
func countChanges() []change {
	less := func(s *api.Scene) {
		s.Graph.Arena.Slots, s.Graph.Kids, s.Nodes = s.Graph.Arena.Slots[:9], s.Graph.Kids[:9], s.Nodes[:9]
	}
	more := func(s *api.Scene, slot api.Slot, n api.Node) {
		s.Graph.Arena.Slots, s.Graph.Kids, s.Nodes = append(s.Graph.Arena.Slots, slot), append(s.Graph.Kids, nil), append(s.Nodes, n)
	}
	return []change{
		{true, less},
		{true, func(s *api.Scene) { more(s, live(1), group()) }},
		{true, func(s *api.Scene) { more(s, dead(1), api.Node{}) }},
		{false, func(s *api.Scene) { more(s, live(1), api.Node{}) }},
		{false, func(s *api.Scene) { more(s, dead(1), group()) }},
		{false, func(s *api.Scene) { s.Nodes = append(s.Nodes, group()) }},
		{false, func(s *api.Scene) { s.Nodes = append(s.Nodes, api.Node{}) }},
		{false, func(s *api.Scene) { s.Nodes = append(s.Nodes, make([]api.Node, 300)...) }},
		{false, func(s *api.Scene) { s.Nodes = s.Nodes[:9] }},
		{false, func(s *api.Scene) { s.Nodes = s.Nodes[1:] }},
		{false, func(s *api.Scene) { s.Nodes = nil }},
	}
}

func nodeChanges() []change {
	at := func(may bool, slot int, turn func(n *api.Node)) change {
		return change{may, func(s *api.Scene) { turn(&s.Nodes[slot]) }}
	}
	l := []change{
		at(true, 0, func(n *api.Node) { n.Kind = 3 }), at(false, 0, func(n *api.Node) { n.Kind = 0 }), at(false, 0, func(n *api.Node) { n.Kind = 6 }),
		// One that has children, and ones that have none.
		at(false, 0, func(n *api.Node) { n.Kind = 5 }), at(true, 9, func(n *api.Node) { n.Kind = 5 }), at(false, 4, func(n *api.Node) { *n = meshNode(2) }),
		at(true, 4, func(n *api.Node) { n.On = 6 }), at(false, 5, func(n *api.Node) { n.On = 1 }),
		at(true, 5, func(n *api.Node) { n.Center.X++ }), at(false, 5, func(n *api.Node) { n.Center.Y-- }), at(true, 5, func(n *api.Node) { n.Center.Z++ }),
		at(true, 5, func(n *api.Node) { n.Far[0] = 1 }), at(true, 5, func(n *api.Node) { n.Far[1] = 9 }), at(true, 5, func(n *api.Node) { n.Far[3] = 8191 }), at(false, 5, func(n *api.Node) { n.Far[2] = 9 }),
		at(true, 5, func(n *api.Node) { n.Far = n.Far[:3] }), at(true, 5, func(n *api.Node) { n.Far = append(n.Far, 8192) }), at(true, 5, func(n *api.Node) { n.Far = nil }),
		at(true, 7, func(n *api.Node) { n.Mesh = 0 }), at(true, 7, func(n *api.Node) { n.Mesh = 2 }), at(false, 7, func(n *api.Node) { n.Mesh = 3 }), at(false, 8, func(n *api.Node) { n.Mesh = -1 }),
		at(false, 3, func(n *api.Node) { n.Mat.T.X-- }), at(true, 3, func(n *api.Node) { n.Mat.T.Y++ }), at(true, 3, func(n *api.Node) { n.Mat.T.Z-- }),
		{true, func(s *api.Scene) { s.Nodes[7], s.Nodes[8] = s.Nodes[8], s.Nodes[7] }},
		{false, func(s *api.Scene) { s.Nodes[8], s.Nodes[6] = s.Nodes[6], s.Nodes[8] }},
	}
	for row := range 3 {
		for place := range 3 {
			l = append(l, at(true, 3, func(n *api.Node) { n.Mat.M[row][place] = n.Mat.M[row][place]/2 + 3 }))
		}
	}
	return l
}

func styleChanges() []change {
	at := func(may bool, slot int, turn func(y *api.Style)) change {
		return change{may, func(s *api.Scene) { turn(&s.Nodes[slot].Style) }}
	}
	l := []change{
		at(true, 0, func(y *api.Style) { y.Say[0] = 7 }), at(false, 0, func(y *api.Style) { y.Say[0] = 2 }), at(false, 0, func(y *api.Style) { y.Say[0] = 0 }),
		at(true, 9, func(y *api.Style) { y.Look.Texture = 1 }), at(false, 9, func(y *api.Style) { y.Look.Texture = 2 }), at(true, 7, func(y *api.Style) { y.Look.Texture = 0 }), at(false, 7, func(y *api.Style) { y.Look.Texture = 15 }),
		at(false, 9, func(y *api.Style) { y.Look.Cull = 1 }), at(false, 9, func(y *api.Style) { y.Look.Bias = 1 }), at(false, 9, func(y *api.Style) { y.Look.Blend = true }), at(false, 9, func(y *api.Style) { y.Look.Bin = 1 }),
	}
	for thing := range 5 {
		l = append(l, at(true, 8, func(y *api.Style) { y.Say[thing] = 1 }))
		if thing < 4 {
			l = append(l, at(true, 0, func(y *api.Style) { y.Look.Color[thing] ^= 128 }))
		}
	}
	return l
}

func meshChanges() []change {
	return []change{
		{true, func(s *api.Scene) { s.Meshes[0].Verts[0].X++ }}, {true, func(s *api.Scene) { s.Meshes[0].Verts[2].Y++ }}, {true, func(s *api.Scene) { s.Meshes[2] = triangle(2) }},
		{false, func(s *api.Scene) { s.Meshes[1].Verts[0].X-- }}, {false, func(s *api.Scene) { s.Meshes[2] = badMesh() }}, {false, func(s *api.Scene) { s.Meshes[0] = meshOfMany() }},
		{true, func(s *api.Scene) { s.Meshes[0].UV[2][1] = 9 }}, {false, func(s *api.Scene) { s.Meshes[0].UV[2][1] = 256 }}, {false, func(s *api.Scene) { s.Meshes[0].UV = s.Meshes[0].UV[:2] }},
		{true, func(s *api.Scene) { s.Meshes[1].Prims[0].Kind = 2 }}, {false, func(s *api.Scene) { s.Meshes[1].Prims[0].Kind = 3 }}, {true, func(s *api.Scene) { s.Meshes[1].Prims[2].Index[0] = 0 }},
		{true, func(s *api.Scene) { s.Meshes[1].Prims = s.Meshes[1].Prims[:2] }}, {true, func(s *api.Scene) { s.Meshes[0], s.Meshes[1] = s.Meshes[1], s.Meshes[0] }},
		{true, func(s *api.Scene) { s.Meshes = append(s.Meshes, api.Mesh{}) }}, {false, func(s *api.Scene) { s.Meshes = append(s.Meshes, badMesh()) }},
		{true, func(s *api.Scene) { s.Meshes = s.Meshes[:2] }}, {false, func(s *api.Scene) { s.Meshes = s.Meshes[:1] }}, {false, func(s *api.Scene) { s.Meshes = nil }},
		{true, func(s *api.Scene) { s.Meshes = append(s.Meshes, make([]api.Mesh, 29)...) }}, {false, func(s *api.Scene) { s.Meshes = append(s.Meshes, make([]api.Mesh, 30)...) }},
	}
}

func textureChanges() []change {
	return []change{
		{true, func(s *api.Scene) { s.Textures[0].Texels[0][2] = 9 }}, {true, func(s *api.Scene) { s.Textures[1].Texels[5][0] = 9 }}, {true, func(s *api.Scene) { s.Textures[1].W, s.Textures[1].H = 2, 3 }},
		{false, func(s *api.Scene) { s.Textures[1].W = 2 }}, {false, func(s *api.Scene) { s.Textures[1].H = 1 }}, {false, func(s *api.Scene) { s.Textures[0].Texels = nil }}, {false, func(s *api.Scene) { s.Textures[0] = image(17, 1) }},
		{true, func(s *api.Scene) { s.Textures[0], s.Textures[1] = s.Textures[1], s.Textures[0] }},
		{true, func(s *api.Scene) { s.Textures = append(s.Textures, image(16, 16)) }}, {false, func(s *api.Scene) { s.Textures = append(s.Textures, api.Texture{}) }},
		{false, func(s *api.Scene) { s.Textures = s.Textures[:1] }}, {false, func(s *api.Scene) { s.Textures = nil }},
		{true, func(s *api.Scene) { s.Textures = append(s.Textures, few(0, 14).Textures...) }}, {false, func(s *api.Scene) { s.Textures = append(s.Textures, few(0, 15).Textures...) }},
	}
}

func rootChanges() []change {
	at := func(may bool, h api.Handle) change {
		return change{may, func(s *api.Scene) { s.Root = h }}
	}
	return []change{
		at(true, api.Handle{}), at(true, handle(3, maxGen)), at(true, handle(7, 9)), at(true, handle(9, 1)),
		at(false, handle(0, 1)), at(false, handle(0, 4)), at(false, handle(1, maxGen)), at(false, handle(2, 5)), at(false, handle(3, 0)), at(false, handle(1, 0)), at(false, handle(0, -3)),
		at(false, handle(10, 1)), at(false, handle(-1, 1)), at(false, handle(-1, 0)), at(false, handle(math.MinInt, 0)), at(false, handle(math.MaxInt, math.MaxInt)),
	}
}

func turned() []api.Scene {
	l := []api.Scene{good(), {}, full()}
	for _, x := range changes() {
		s := good()
		x.turn(&s)
		l = append(l, s)
	}
	return l
}

func TestP10_1Check(t *testing.T) {
	checkScene(t, good(), true)
	checkScene(t, full(), true)
	checkScene(t, api.Scene{}, true)
	checkScene(t, api.Scene{Graph: api.Graph{Arena: api.Arena{Slots: []api.Slot{}}, Kids: [][]api.Handle{}}, Nodes: []api.Node{}, Meshes: []api.Mesh{}, Textures: []api.Texture{}}, true)
	// The same with lists without elements that are not nil.
	checkScene(t, deep(good()), true)
	times := map[bool]int{}
	for _, x := range changes() {
		s := good()
		x.turn(&s)
		checkScene(t, s, x.may)
		times[x.may]++
	}
	if times[true] < 50 || times[false] < 50 {
		t.Error("too few of one kind:", times)
	}
}

// A node at a slot that nobody has, one field at a time: each of these is of a node that may be, or not.
func TestP10_1CheckDead(t *testing.T) {
	for _, slot := range []int{1, 2, 6} {
		for _, x := range spots() {
			for kind := range uint8(7) {
				s := good()
				s.Nodes[slot].Kind = kind
				x.put(&s.Nodes[slot], 1)
				checkScene(t, s, false)
			}
		}
		for _, n := range []api.Node{group(), {Kind: 255}, meshNode(0), {Mesh: -1}, {Far: []int{0}}, {Style: saying(0, 1, api.Look{})}, {Style: saying(4, 3, api.Look{})}, {Style: api.Style{Look: api.Look{Bin: 1}}}, {Style: api.Style{Look: api.Look{Texture: -1}}}} {
			s := good()
			s.Nodes[slot] = n
			checkScene(t, s, false)
		}
		s := good()
		s.Nodes[slot].Far = []int{}
		checkScene(t, s, true)
		s.Nodes[slot].Far = []int{5}[:0]
		checkScene(t, s, true)
	}
	// All of them are free, and empty.
	slots := slices.Repeat([]api.Slot{dead(1)}, maxSlots)
	checkScene(t, api.Scene{Graph: api.Graph{Arena: api.Arena{Slots: slots}, Kids: make([][]api.Handle, maxSlots)}, Nodes: make([]api.Node, maxSlots)}, true)
}

func TestP10_1CheckNodes(t *testing.T) {
	for slot := range 10 {
		for _, n := range someNodes() {
			s := good()
			s.Nodes[slot] = n
			want := s.Graph.Arena.Slots[slot].Live && wantNode(good(), n) && (n.Kind != 5 || len(s.Graph.Kids[slot]) == 0) || slices.Equal(flatNode(n), flatNode(api.Node{})) && !s.Graph.Arena.Slots[slot].Live
			checkScene(t, s, want)
		}
	}
	for n := range maxSlots + 3 {
		s := full()
		s.Nodes = append(s.Nodes, group(), group())[:n]
		checkScene(t, s, n == maxSlots)
	}
	more := full()
	more.Nodes, more.Graph.Kids, more.Graph.Arena.Slots = append(more.Nodes, group()), append(more.Graph.Kids, nil), append(more.Graph.Arena.Slots, live(1))
	checkScene(t, more, false)
}

// A mesh has no child, whoever that is, and however many there are.
func TestP10_1CheckMeshWithChild(t *testing.T) {
	for _, slot := range []int{7, 8} {
		for count := range 18 {
			s := good()
			s.Graph.Kids[slot] = slices.Repeat([]api.Handle{handle(9, 1)}, count)
			checkScene(t, s, count == 0)
			s.Nodes[slot] = group()
			checkScene(t, s, count <= 16)
		}
	}
	s := good()
	s.Graph.Kids[7] = []api.Handle{handle(8, 4)}
	checkScene(t, s, false)
}

func TestP10_1CheckMeshes(t *testing.T) {
	for _, count := range []int{0, 1, 2, 31, 32, 33, 34, 64, 300} {
		checkScene(t, few(count, 0), count <= maxMeshes)
		for _, bad := range []api.Mesh{badMesh(), meshOfMany(), {UV: make([][2]int, 1)}, {Prims: make([]api.Prim, 17)}, {Prims: []api.Prim{{Index: []int{0, 0, 0}}}}} {
			for at := range min(count, 33) {
				s := few(count, 0)
				s.Meshes[at] = bad
				checkScene(t, s, false)
			}
		}
	}
	// Meshes in the spare room are none.
	s := few(40, 0)
	s.Meshes[32] = badMesh()
	s.Meshes = s.Meshes[:32]
	checkScene(t, s, true)
}

func TestP10_1CheckTextures(t *testing.T) {
	for _, count := range []int{0, 1, 2, 15, 16, 17, 18, 32, 300} {
		checkScene(t, few(0, count), count <= maxTextures)
		for _, bad := range []api.Texture{{}, badTexture(), image(17, 1), image(1, 17)} {
			for at := range min(count, 17) {
				s := few(0, count)
				s.Textures[at] = bad
				checkScene(t, s, false)
			}
		}
	}
	s := few(0, 20)
	s.Textures[16] = badTexture()
	s.Textures = s.Textures[:16]
	checkScene(t, s, true)
}

func TestP10_1CheckRoot(t *testing.T) {
	for slot := -2; slot < 13; slot++ {
		for _, gen := range []int{math.MinInt, -9, -1, 0, 1, 2, 3, 4, 5, 6, 9, 10, maxGen - 1, maxGen, maxGen + 1, math.MaxInt} {
			s := good()
			s.Root = handle(slot, gen)
			checkScene(t, s, slot == 0 && gen == 0 || wantHeld(s, s.Root))
			empty := few(1, 1)
			empty.Root = s.Root
			checkScene(t, empty, slot == 0 && gen == 0)
		}
	}
}

func TestP10_1Same(t *testing.T) {
	all := turned()
	for i, a := range all {
		for k, b := range all {
			if got, want := Same(a, b), wantSame(a, b); got != want || i == k && !got {
				t.Errorf("Same(%v, %v): %v", a, b, got)
			}
		}
		if i > 0 && (Same(good(), a) || Same(a, good())) {
			t.Error(i, a)
		}
		if !Same(a, deep(a)) || !Same(deep(a), a) {
			t.Error(i, a)
		}
	}
}

// A list without elements may be nil or not, and one of an element without elements is another one.
func TestP10_1SameOfEmpty(t *testing.T) {
	lists := []api.Scene{{}, {Nodes: make([]api.Node, 1)}, {Meshes: make([]api.Mesh, 1)}, {Textures: make([]api.Texture, 1)}, {Graph: api.Graph{Kids: make([][]api.Handle, 1)}}, {Graph: api.Graph{Arena: api.Arena{Slots: make([]api.Slot, 1)}}}, {Root: handle(0, 1)}, {Root: handle(1, 0)}, {Nodes: []api.Node{{Far: []int{0}}}}}
	for i, a := range lists {
		for k, b := range lists {
			if Same(a, b) != (i == k) {
				t.Error(i, k)
			}
		}
	}
	none := api.Scene{Graph: api.Graph{Arena: api.Arena{Slots: []api.Slot{}}, Kids: [][]api.Handle{}}, Nodes: []api.Node{}, Meshes: []api.Mesh{}, Textures: []api.Texture{}}
	if !Same(api.Scene{}, none) || !Same(none, api.Scene{}) || !Same(api.Scene{Nodes: []api.Node{{Far: []int{}}}}, api.Scene{Nodes: []api.Node{{}}}) {
		t.Error("a list without elements may be nil or not")
	}
	// What is in the spare room does not count.
	if !Same(few(3, 3), api.Scene{Meshes: few(9, 0).Meshes[:3], Textures: few(0, 9).Textures[:3]}) || Same(few(3, 3), few(4, 3)) || Same(few(3, 3), few(3, 4)) {
		t.Error("more or fewer")
	}
}

// Two scenes that differ in one field of one node, of all that it has.
func TestP10_1SameNodes(t *testing.T) {
	var l []api.Node
	for _, x := range spots() {
		var n api.Node
		x.put(&n, 1)
		l = append(l, n)
	}
	for thing := range 5 {
		l = append(l, api.Node{Style: saying(thing, 1, api.Look{})})
	}
	for _, look := range []api.Look{{Color: api.Color{1}}, {Color: api.Color{0, 0, 0, 1}}, {Texture: 1}, {Cull: 1}, {Bias: 1}, {Blend: true}, {Bin: 1}} {
		l = append(l, api.Node{Style: api.Style{Look: look}})
	}
	l = append(l, api.Node{}, api.Node{Kind: 1}, api.Node{Far: []int{1, 0}}, api.Node{Far: []int{0, 0}}, api.Node{Far: []int{0}})
	for i, a := range l {
		for k, b := range l {
			if got := Same(api.Scene{Nodes: []api.Node{{}, a}}, api.Scene{Nodes: []api.Node{{}, b}}); got != (i == k) {
				t.Error(a, b, got)
			}
		}
	}
}

func TestP10_1Twin(t *testing.T) {
	wide := api.Scene{Graph: api.Graph{Kids: make([][]api.Handle, 700)}, Nodes: make([]api.Node, 600), Meshes: []api.Mesh{meshOfMany()}, Textures: make([]api.Texture, 500), Root: handle(-7, 7)}
	for _, s := range append(turned(), wide, few(300, 300)) {
		twin := Twin(s)
		if !wantSame(twin, s) || !Same(twin, s) || (Check(twin) == api.OK) != wantScene(s) {
			t.Errorf("Twin(%v): %v", s, twin)
		}
	}
}

// The tests' own scenes are what they are meant to be.
func TestScenes(t *testing.T) {
	s := good()
	if nodes.Check(s.Graph) != api.OK || mesh.Check(meshOfMany()) != api.ErrMany || mesh.Check(badMesh()) != api.ErrMesh {
		t.Error(s)
	}
	kinds := map[uint8]int{}
	for _, n := range s.Nodes {
		kinds[n.Kind]++
	}
	if len(kinds) != 6 || !wantSame(deep(s), s) {
		t.Error(kinds)
	}
}
