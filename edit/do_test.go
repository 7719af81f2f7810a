package edit

import (
	"math"
	"slices"
	"testing"

	"diorama/api"
	"diorama/mesh"
	"diorama/nodes"
	"diorama/texture"
)

// answer is what an edit came to.
type answer struct {
	s    api.Scene
	took api.Took
	e    api.Errno
}

func refusal(e api.Errno) answer { return answer{e: e} }

// wantDo is what an edit comes to, by the words of the chapter, row by row of its table.
func wantDo(s api.Scene, x api.Edit) answer {
	if !wantScene(s) {
		return refusal(8)
	}
	s = deep(s)
	switch x.Kind {
	case 1:
		return wantMake(s, x.Node)
	case 2:
		return wantSet(s, x.H, x.Node)
	case 3:
		if !wantHeld(s, x.H) || !wantHeld(s, x.C) {
			return refusal(50)
		}
		if s.Nodes[x.H.Slot].Kind == 5 {
			return refusal(100)
		}
		g, e := nodes.Link(s.Graph, x.H, x.C, x.At)
		return withGraph(s, g, e)
	case 4:
		g, e := nodes.Unlink(s.Graph, x.H, x.At)
		return withGraph(s, g, e)
	case 5:
		return wantKill(s, x.H)
	case 6:
		return wantMesh(s, x.At, x.Mesh)
	case 7:
		return wantTexture(s, x.At, x.Texture)
	case 8:
		if x.H != (api.Handle{}) && !wantHeld(s, x.H) {
			return refusal(50)
		}
		s.Root = x.H
		return answer{s: s}
	}
	return refusal(2)
}

func withGraph(s api.Scene, g api.Graph, e api.Errno) answer {
	if e != api.OK {
		return refusal(e)
	}
	s.Graph = g
	return answer{s: s}
}

func wantMake(s api.Scene, n api.Node) answer {
	if !wantNode(s, n) {
		return refusal(8)
	}
	g, h, e := nodes.Make(s.Graph)
	if e != api.OK {
		return refusal(e)
	}
	if s.Graph = g; len(g.Kids) > len(s.Nodes) {
		s.Nodes = append(s.Nodes, api.Node{})
	}
	s.Nodes[h.Slot] = deepNode(n)
	return answer{s, api.Took{H: h}, api.OK}
}

func wantSet(s api.Scene, h api.Handle, n api.Node) answer {
	if !wantHeld(s, h) {
		return refusal(50)
	}
	if !wantNode(s, n) {
		return refusal(8)
	}
	if n.Kind == 5 && len(s.Graph.Kids[h.Slot]) > 0 {
		return refusal(100)
	}
	s.Nodes[h.Slot] = deepNode(n)
	return answer{s: s}
}

func wantKill(s api.Scene, h api.Handle) answer {
	g, e := nodes.Kill(s.Graph, h)
	if e != api.OK {
		return refusal(e)
	}
	s.Graph, s.Nodes[h.Slot] = g, api.Node{}
	if s.Root == h {
		s.Root = api.Handle{}
	}
	return answer{s: s}
}

func wantMesh(s api.Scene, at int, m api.Mesh) answer {
	n := len(s.Meshes)
	if at != -1 && (at < 0 || at >= n) {
		return refusal(2)
	}
	if e := mesh.Check(m); e != api.OK {
		return refusal(e)
	}
	if at >= 0 {
		s.Meshes[at] = deepMesh(m)
		return answer{s, api.Took{N: at}, api.OK}
	}
	if n >= maxMeshes {
		return refusal(9)
	}
	s.Meshes = append(s.Meshes, deepMesh(m))
	return answer{s, api.Took{N: n}, api.OK}
}

func wantTexture(s api.Scene, at int, x api.Texture) answer {
	n := len(s.Textures)
	if at != -1 && (at < 0 || at >= n) {
		return refusal(2)
	}
	if e := texture.Check(x); e != api.OK {
		return refusal(e)
	}
	if at >= 0 {
		s.Textures[at] = deepTexture(x)
		return answer{s, api.Took{N: at}, api.OK}
	}
	if n >= maxTextures {
		return refusal(9)
	}
	s.Textures = append(s.Textures, deepTexture(x))
	return answer{s, api.Took{N: n}, api.OK}
}

// checkAnswer does an edit, and answers the scene behind it.
func checkAnswer(t *testing.T, s api.Scene, x api.Edit, want answer) api.Scene {
	t.Helper()
	got, took, e := Do(s, x)
	if e != want.e || took != want.took || !wantSame(got, want.s) {
		t.Errorf("Do(%v, %v): %v, %v, %d; want %v", s, x, got, took, e, want)
	}
	if e == api.OK && Check(got) != api.OK {
		t.Errorf("Do(%v, %v): %v may not be", s, x, got)
	}
	return got
}

// checkDo holds an edit against the words of the chapter.
func checkDo(t *testing.T, s api.Scene, x api.Edit) api.Scene {
	t.Helper()
	return checkAnswer(t, s, x, wantDo(s, x))
}

// checkRefused wants that error, and beside it nothing.
func checkRefused(t *testing.T, s api.Scene, x api.Edit, want api.Errno) {
	t.Helper()
	checkAnswer(t, s, x, refusal(want))
	checkDo(t, s, x)
}

// some are handles in the good scene, and around it.
func some() []api.Handle {
	l := []api.Handle{{}, handle(-1, 1), handle(10, 1), handle(128, 1), handle(math.MinInt, 1), handle(math.MaxInt, 1), handle(1<<32, 3)}
	for slot, x := range good().Graph.Arena.Slots {
		l = append(l, handle(slot, x.Gen), handle(slot, x.Gen-1), handle(slot, x.Gen+1))
	}
	return l
}

// stale are handles that the good scene does not hold.
func stale() []api.Handle {
	return slices.DeleteFunc(some(), func(h api.Handle) bool { return wantHeld(good(), h) })
}

// held are the handles of the good scene.
func held() []api.Handle {
	return slices.DeleteFunc(some(), func(h api.Handle) bool { return !wantHeld(good(), h) })
}

func TestExamples(t *testing.T) {
	var s api.Scene
	made := answer{api.Scene{Graph: api.Graph{Arena: api.Arena{Slots: []api.Slot{live(1)}}, Kids: make([][]api.Handle, 1)}, Nodes: []api.Node{group()}}, api.Took{H: handle(0, 1)}, api.OK}
	one := checkAnswer(t, s, api.Edit{Kind: 1, Node: group()}, made)
	checkRefused(t, s, api.Edit{Kind: 1}, 8)
	checkRefused(t, s, api.Edit{Kind: 1, Node: meshNode(0)}, 8)
	checkAnswer(t, s, api.Edit{Kind: 6, At: -1}, answer{api.Scene{Meshes: make([]api.Mesh, 1)}, api.Took{}, api.OK})
	checkRefused(t, s, api.Edit{Kind: 6, At: 1}, 2)
	checkRefused(t, one, api.Edit{Kind: 3, H: handle(0, 1), C: handle(0, 1)}, 60)
	want := deep(made.s)
	want.Root = handle(0, 1)
	rooted := checkAnswer(t, one, api.Edit{Kind: 8, H: handle(0, 1)}, answer{s: want})
	killed := api.Scene{Graph: api.Graph{Arena: api.Arena{Slots: []api.Slot{dead(1)}}, Kids: make([][]api.Handle, 1)}, Nodes: make([]api.Node, 1)}
	checkAnswer(t, rooted, api.Edit{Kind: 5, H: handle(0, 1)}, answer{s: killed})
	checkRefused(t, s, api.Edit{Kind: 9}, 2)
}

func TestP10_2Kinds(t *testing.T) {
	for _, s := range []api.Scene{{}, good(), full()} {
		for kind := range 256 {
			x := api.Edit{Kind: uint8(kind), H: s.Root, C: handle(9, 1), Node: group(), Mesh: triangle(3), Texture: image(2, 2)}
			if kind == 0 || kind > 8 {
				checkRefused(t, s, x, 2)
			}
			checkDo(t, s, x)
		}
	}
	for kind := uint8(1); kind <= 8; kind++ {
		x := api.Edit{Kind: kind, H: handle(0, 3), C: handle(9, 1), Node: group(), Mesh: triangle(3), Texture: image(2, 2)}
		if want := wantDo(good(), x); want.e != api.OK {
			t.Error(kind, want.e)
		}
	}
}

// Check's error comes ahead of all: of an edit that could be done, of one that could not, and of none.
func TestP10_2CheckFirst(t *testing.T) {
	count := 0
	for _, x := range changes() {
		if x.may {
			continue
		}
		s := good()
		x.turn(&s)
		count++
		for _, kind := range []uint8{0, 1, 2, 3, 4, 5, 6, 7, 8, 9, 255} {
			for _, y := range []api.Edit{{}, {H: handle(9, 1), C: handle(8, 4), Node: group()}, {H: handle(-4, 2), At: -9, Node: meshNode(-1), Mesh: meshOfMany()}} {
				y.Kind = kind
				checkRefused(t, s, y, 8)
			}
		}
	}
	if count < 50 {
		t.Error("too few that may not be:", count)
	}
}

// What a kind does not name counts for nothing.
func TestP10_2Unnamed(t *testing.T) {
	junk := api.Edit{H: handle(-3, 9), C: handle(77, -1), At: math.MinInt, Node: api.Node{Kind: 77, Far: []int{3, 2, 1}}, Mesh: meshOfMany(), Texture: badTexture()}
	named := []func(to *api.Edit, of api.Edit){
		func(to *api.Edit, of api.Edit) {},
		func(to *api.Edit, of api.Edit) { to.Node = of.Node },
		func(to *api.Edit, of api.Edit) { to.H, to.Node = of.H, of.Node },
		func(to *api.Edit, of api.Edit) { to.H, to.C, to.At = of.H, of.C, of.At },
		func(to *api.Edit, of api.Edit) { to.H, to.At = of.H, of.At },
		func(to *api.Edit, of api.Edit) { to.H = of.H },
		func(to *api.Edit, of api.Edit) { to.At, to.Mesh = of.At, of.Mesh },
		func(to *api.Edit, of api.Edit) { to.At, to.Texture = of.At, of.Texture },
		func(to *api.Edit, of api.Edit) { to.H = of.H },
	}
	for kind := range uint8(9) {
		for at := -1; at < 4; at++ {
			for _, n := range someNodes() {
				x := api.Edit{H: handle(0, 3), C: handle(9, 1), At: at, Node: n, Mesh: triangle(4), Texture: image(4, 1)}
				alone, beside := api.Edit{Kind: kind}, junk
				named[kind](&alone, x)
				named[kind](&beside, x)
				x.Kind, beside.Kind = kind, kind
				want := wantDo(good(), x)
				checkAnswer(t, good(), x, want)
				checkAnswer(t, good(), alone, want)
				checkAnswer(t, good(), beside, want)
			}
		}
	}
}

func TestP10_2Make(t *testing.T) {
	for _, n := range someNodes() {
		may := wantNode(good(), n)
		if !may {
			checkRefused(t, good(), api.Edit{Kind: 1, Node: n}, 8)
			continue
		}
		// The first free slot, with its next Gen; all else as it was.
		want := good()
		want.Graph.Arena.Slots[2], want.Nodes[2] = live(6), n
		checkAnswer(t, good(), api.Edit{Kind: 1, Node: n}, answer{want, api.Took{H: handle(2, 6)}, api.OK})
		// Where none is free, one behind the others.
		start := good()
		start.Graph.Arena.Slots[2], start.Graph.Arena.Slots[6] = dead(maxGen), dead(maxGen)
		want = deep(start)
		want.Graph.Arena.Slots, want.Graph.Kids, want.Nodes = append(want.Graph.Arena.Slots, live(1)), append(want.Graph.Kids, nil), append(want.Nodes, n)
		checkAnswer(t, start, api.Edit{Kind: 1, Node: n}, answer{want, api.Took{H: handle(10, 1)}, api.OK})
	}
	for n := -3; n < 6; n++ {
		checkMade(t, meshNode(n), n >= 0 && n < 3)
		checkMade(t, painted(group(), n), n >= -1 && n < 2)
	}
}

func checkMade(t *testing.T, n api.Node, may bool) {
	t.Helper()
	if _, took, e := Do(good(), api.Edit{Kind: 1, Node: n}); e != wantErr(may) || took.H.Gen != 6*one(may) {
		t.Error(n, took, e)
	}
}

// What the node is comes ahead of whether there is room.
func TestP10_2MakeFull(t *testing.T) {
	for _, n := range append(someNodes(), meshNode(31), meshNode(32), painted(group(), 15)) {
		x := api.Edit{Kind: 1, Node: n}
		want := api.Errno(9)
		if !wantNode(full(), n) {
			want = 8
		}
		checkRefused(t, full(), x, want)
		worn := full()
		worn.Graph.Arena.Slots[127], worn.Nodes[127] = dead(maxGen), api.Node{}
		checkRefused(t, worn, x, want)
		worn.Graph.Arena.Slots[127] = dead(maxGen - 1)
		checkDo(t, worn, x)
	}
	s := full()
	s.Graph.Arena.Slots, s.Graph.Kids, s.Nodes = s.Graph.Arena.Slots[:127], s.Graph.Kids[:127], s.Nodes[:127]
	s = checkDo(t, s, api.Edit{Kind: 1, Node: turnNode()})
	checkRefused(t, s, api.Edit{Kind: 1, Node: turnNode()}, 9)
	if len(s.Nodes) != 128 || s.Nodes[127].Kind != 2 {
		t.Error(len(s.Nodes))
	}
}

func TestP10_2Set(t *testing.T) {
	for _, n := range someNodes() {
		for _, h := range some() {
			x := api.Edit{Kind: 2, H: h, Node: n}
			if !wantHeld(good(), h) {
				checkRefused(t, good(), x, 50)
				continue
			}
			if !wantNode(good(), n) {
				checkRefused(t, good(), x, 8)
				continue
			}
			if n.Kind == 5 && len(good().Graph.Kids[h.Slot]) > 0 {
				checkRefused(t, good(), x, 100)
				continue
			}
			want := good()
			want.Nodes[h.Slot] = n
			checkAnswer(t, good(), x, answer{s: want})
		}
	}
}

// Which error comes first, where several things are wrong, and which children make it one.
func TestP10_2SetOrder(t *testing.T) {
	for _, h := range stale() {
		checkRefused(t, good(), api.Edit{Kind: 2, H: h}, 50)
		checkRefused(t, good(), api.Edit{Kind: 2, H: h, Node: meshNode(3)}, 50)
		checkRefused(t, good(), api.Edit{Kind: 2, H: h, Node: meshNode(0)}, 50)
		checkRefused(t, good(), api.Edit{Kind: 2, H: h, Node: group()}, 50)
	}
	for _, h := range held() {
		for _, n := range []api.Node{meshNode(3), meshNode(-1), painted(meshNode(0), 2), {Kind: 5, On: 1}} {
			checkRefused(t, good(), api.Edit{Kind: 2, H: h, Node: n}, 8)
		}
	}
	for count := range 17 {
		for _, slot := range []int{0, 3, 4, 5, 9} {
			s := good()
			s.Graph.Kids[slot] = slices.Repeat([]api.Handle{handle(8, 4)}, count)
			h := handle(slot, s.Graph.Arena.Slots[slot].Gen)
			x := api.Edit{Kind: 2, H: h, Node: painted(meshNode(2), 0)}
			if count > 0 {
				checkRefused(t, s, x, 100)
			}
			checkDo(t, s, x)
			checkDo(t, s, api.Edit{Kind: 2, H: h, Node: levelNode(4)})
		}
	}
}

func TestP10_2Link(t *testing.T) {
	for _, h := range some() {
		for _, c := range some() {
			for _, at := range []int{math.MinInt, -2, -1, 0, 1, 2, 3, 4, 16, 17, math.MaxInt} {
				checkDo(t, good(), api.Edit{Kind: 3, H: h, C: c, At: at})
			}
		}
	}
	want := good()
	want.Graph.Kids[0] = []api.Handle{handle(3, maxGen), handle(9, 1), handle(4, 1), handle(3, maxGen)}
	checkAnswer(t, good(), api.Edit{Kind: 3, H: handle(0, 3), C: handle(9, 1), At: 1}, answer{s: want})
	want = good()
	want.Graph.Kids[9] = []api.Handle{handle(8, 4)}
	checkAnswer(t, good(), api.Edit{Kind: 3, H: handle(9, 1), C: handle(8, 4)}, answer{s: want})
}

func TestP10_2LinkOrder(t *testing.T) {
	mesh, alone, top := handle(7, 9), handle(9, 1), handle(0, 3)
	for _, at := range []int{-1, 0, 1, 17} {
		for _, h := range stale() {
			// A handle that is not held comes ahead of a mesh that has none below it, on either side.
			checkRefused(t, good(), api.Edit{Kind: 3, H: mesh, C: h, At: at}, 50)
			checkRefused(t, good(), api.Edit{Kind: 3, H: h, C: mesh, At: at}, 50)
			checkRefused(t, good(), api.Edit{Kind: 3, H: h, C: h, At: at}, 50)
			checkRefused(t, good(), api.Edit{Kind: 3, H: alone, C: h, At: at}, 50)
		}
		// A mesh comes ahead of the place, and of a loop.
		for _, c := range held() {
			checkRefused(t, good(), api.Edit{Kind: 3, H: mesh, C: c, At: at}, 100)
			checkRefused(t, good(), api.Edit{Kind: 3, H: handle(8, 4), C: c, At: at}, 100)
		}
	}
	checkRefused(t, good(), api.Edit{Kind: 3, H: alone, C: alone, At: 1}, 2)
	checkRefused(t, good(), api.Edit{Kind: 3, H: alone, C: alone, At: 0}, 60)
	checkRefused(t, good(), api.Edit{Kind: 3, H: handle(4, 1), C: top, At: 3}, 60)
	checkRefused(t, good(), api.Edit{Kind: 3, H: handle(4, 1), C: top, At: 4}, 2)
	checkRefused(t, full(), api.Edit{Kind: 3, H: handle(0, 1), C: handle(0, 1), At: 17}, 2)
	checkRefused(t, full(), api.Edit{Kind: 3, H: handle(0, 1), C: handle(0, 1), At: 16}, 9)
	checkRefused(t, full(), api.Edit{Kind: 3, H: handle(0, 1), C: handle(5, 6), At: 0}, 9)
	checkRefused(t, full(), api.Edit{Kind: 3, H: handle(1, 2), C: handle(0, 1), At: 0}, 60)
	checkRefused(t, full(), api.Edit{Kind: 3, H: handle(2, 3), C: handle(0, 1), At: 0}, 100)
}

// A mesh is one by what it is now, not by what it was.
func TestP10_2LinkKinds(t *testing.T) {
	for kind := uint8(1); kind <= 5; kind++ {
		for _, n := range []api.Node{{Kind: kind}, colored(api.Node{Kind: kind}, 3)} {
			s := checkDo(t, good(), api.Edit{Kind: 2, H: handle(9, 1), Node: n})
			x := api.Edit{Kind: 3, H: handle(9, 1), C: handle(7, 9)}
			if kind == 5 {
				checkRefused(t, s, x, 100)
				s = checkDo(t, s, api.Edit{Kind: 2, H: handle(9, 1), Node: group()})
			}
			want := deep(s)
			want.Graph.Kids[9] = []api.Handle{handle(7, 9)}
			checkAnswer(t, s, x, answer{s: want})
		}
	}
}

func TestP10_2Unlink(t *testing.T) {
	for _, h := range some() {
		for _, at := range []int{math.MinInt, -2, -1, 0, 1, 2, 3, 16, math.MaxInt} {
			x := api.Edit{Kind: 4, H: h, At: at}
			if !wantHeld(good(), h) {
				checkRefused(t, good(), x, 50)
				continue
			}
			l := good().Graph.Kids[h.Slot]
			if at < 0 || at >= len(l) {
				checkRefused(t, good(), x, 2)
				continue
			}
			want := good()
			want.Graph.Kids[h.Slot] = slices.Concat(l[:at], l[at+1:])
			checkAnswer(t, good(), x, answer{s: want})
		}
	}
	for at := range 18 {
		checkDo(t, full(), api.Edit{Kind: 4, H: handle(0, 1), At: at})
	}
}

func TestP10_2Kill(t *testing.T) {
	for _, h := range some() {
		if !wantHeld(good(), h) {
			checkRefused(t, good(), api.Edit{Kind: 5, H: h}, 50)
		}
		checkDo(t, good(), api.Edit{Kind: 5, H: h})
	}
	// The root, one that is a child several times, a mesh, and one that is alone.
	top := func(s *api.Scene) { s.Root = api.Handle{} }
	for slot, turn := range map[int]func(s *api.Scene){
		0: func(s *api.Scene) { top(s); s.Graph.Kids[0], s.Graph.Kids[5] = nil, s.Graph.Kids[5][:1] },
		4: func(s *api.Scene) {
			s.Graph.Kids[0] = []api.Handle{handle(3, maxGen), handle(3, maxGen)}
			s.Graph.Kids[3], s.Graph.Kids[4], s.Graph.Kids[5] = s.Graph.Kids[3][1:], nil, s.Graph.Kids[5][1:]
		},
		7: func(s *api.Scene) { s.Graph.Kids[3], s.Graph.Kids[4] = s.Graph.Kids[3][:1], s.Graph.Kids[4][2:] },
		9: func(s *api.Scene) {},
	} {
		want := good()
		turn(&want)
		want.Graph.Arena.Slots[slot].Live, want.Nodes[slot] = false, api.Node{}
		checkAnswer(t, good(), api.Edit{Kind: 5, H: handle(slot, good().Graph.Arena.Slots[slot].Gen)}, answer{s: want})
	}
}

// Root is zero just if it was the one that is killed.
func TestP10_2KillRoot(t *testing.T) {
	for _, root := range append(held(), api.Handle{}) {
		for _, h := range held() {
			s := good()
			s.Root = root
			got := checkDo(t, s, api.Edit{Kind: 5, H: h})
			want := root
			if root == h {
				want = api.Handle{}
			}
			if got.Root != want {
				t.Error(root, h, got.Root)
			}
		}
	}
}

func TestP10_2Mesh(t *testing.T) {
	for _, count := range []int{0, 1, 2, 3, 31, 32} {
		s := few(count, 2)
		for _, at := range []int{math.MinInt, -3, -2, -1, 0, 1, count - 1, count, count + 1, 32, math.MaxInt} {
			for _, m := range []api.Mesh{{}, triangle(8), square()} {
				want := few(count, 2)
				x := api.Edit{Kind: 6, At: at, Mesh: m}
				switch {
				case at < -1 || at >= count:
					checkRefused(t, s, x, 2)
				case at >= 0:
					want.Meshes[at] = m
					checkAnswer(t, s, x, answer{want, api.Took{N: at}, api.OK})
				case count == 32:
					checkRefused(t, s, x, 9)
				default:
					want.Meshes = append(want.Meshes, m)
					checkAnswer(t, s, x, answer{want, api.Took{N: count}, api.OK})
				}
				checkDo(t, s, x)
			}
			checkThingOrder(t, s, at, count)
		}
	}
}

// checkThingOrder wants the place ahead of the mesh, and that ahead of whether there is room.
func checkThingOrder(t *testing.T, s api.Scene, at, count int) {
	t.Helper()
	for _, m := range []struct {
		m api.Mesh
		e api.Errno
	}{{badMesh(), 40}, {meshOfMany(), 4}, {api.Mesh{UV: make([][2]int, 1)}, 40}, {api.Mesh{Prims: make([]api.Prim, 17)}, 4}} {
		want := m.e
		if at < -1 || at >= count {
			want = 2
		}
		checkRefused(t, s, api.Edit{Kind: 6, At: at, Mesh: m.m}, want)
	}
}

func TestP10_2Texture(t *testing.T) {
	for _, count := range []int{0, 1, 2, 3, 15, 16} {
		s := few(2, count)
		for _, at := range []int{math.MinInt, -3, -2, -1, 0, 1, count - 1, count, count + 1, 16, math.MaxInt} {
			for _, x := range []api.Texture{image(1, 1), image(16, 16), {}, badTexture(), image(17, 1)} {
				want := few(2, count)
				y := api.Edit{Kind: 7, At: at, Texture: x}
				switch {
				case at < -1 || at >= count:
					checkRefused(t, s, y, 2)
				case texture.Check(x) != api.OK:
					checkRefused(t, s, y, 8)
				case at >= 0:
					want.Textures[at] = x
					checkAnswer(t, s, y, answer{want, api.Took{N: at}, api.OK})
				case count == 16:
					checkRefused(t, s, y, 9)
				default:
					want.Textures = append(want.Textures, x)
					checkAnswer(t, s, y, answer{want, api.Took{N: count}, api.OK})
				}
				checkDo(t, s, y)
			}
		}
	}
}

// Meshes and textures have limits of their own: one list does not count for the other.
func TestP10_2Things(t *testing.T) {
	checkRefused(t, few(32, 0), api.Edit{Kind: 6, At: -1}, 9)
	checkRefused(t, few(0, 16), api.Edit{Kind: 7, At: -1, Texture: image(1, 1)}, 9)
	checkDo(t, few(32, 0), api.Edit{Kind: 7, At: -1, Texture: image(1, 1)})
	checkDo(t, few(0, 16), api.Edit{Kind: 6, At: -1})
	checkRefused(t, few(0, 3), api.Edit{Kind: 6, At: 0}, 2)
	checkRefused(t, few(3, 0), api.Edit{Kind: 7, At: 0, Texture: image(1, 1)}, 2)
	s := checkDo(t, few(16, 15), api.Edit{Kind: 6, At: -1})
	s = checkDo(t, s, api.Edit{Kind: 7, At: -1, Texture: image(2, 2)})
	s = checkDo(t, s, api.Edit{Kind: 1, Node: painted(meshNode(16), 15)})
	if s.Nodes[0].Mesh != 16 || len(s.Meshes) != 17 || len(s.Textures) != 16 {
		t.Error(s)
	}
	// Nodes that name a thing go on naming it, whatever stands there.
	for at := range 3 {
		s := checkDo(t, good(), api.Edit{Kind: 6, At: at, Mesh: square()})
		checkDo(t, s, api.Edit{Kind: 7, At: at % 2, Texture: image(5, 5)})
	}
}

func TestP10_2Root(t *testing.T) {
	for _, h := range append(some(), handle(1, 0), handle(-1, 0), handle(3, 0), handle(0, -1), handle(99, 0)) {
		for _, root := range []api.Handle{{}, handle(0, 3), handle(7, 9)} {
			s := good()
			s.Root = root
			x := api.Edit{Kind: 8, H: h}
			if h != (api.Handle{}) && !wantHeld(s, h) {
				checkRefused(t, s, x, 50)
				continue
			}
			want := good()
			want.Root = h
			checkAnswer(t, s, x, answer{s: want})
		}
	}
	checkAnswer(t, api.Scene{}, api.Edit{Kind: 8}, answer{})
	checkRefused(t, api.Scene{}, api.Edit{Kind: 8, H: handle(0, 1)}, 50)
	checkRefused(t, api.Scene{}, api.Edit{Kind: 8, H: handle(1, 0)}, 50)
}

// Each kind, each handle, each place and each node against the words of the chapter.
func TestP10_2All(t *testing.T) {
	meshes := []api.Mesh{{}, square(), badMesh(), meshOfMany()}
	textures := []api.Texture{image(2, 3), {}, badTexture(), image(16, 16)}
	kids := []api.Handle{handle(9, 1), handle(0, 3), handle(7, 9), handle(2, 5)}
	all := someNodes()
	for _, s := range []api.Scene{good(), full(), {}} {
		for i, h := range some() {
			for at := -2; at < 5; at++ {
				for kind := range uint8(10) {
					n := i + 3*at + int(kind) + 9
					checkDo(t, s, api.Edit{Kind: kind, H: h, C: kids[n%4], At: at, Node: all[n%len(all)], Mesh: meshes[n%4], Texture: textures[n%4]})
				}
			}
		}
	}
}
