package edit

import (
	"math"
	"slices"
	"testing"

	"diorama/api"
)

// numbersFrom are numbers from 0 to most - 1, the same ones in each run.
func numbersFrom(seed uint64) func(most int) int {
	return func(most int) int {
		seed = seed*6364136223846793005 + 1442695040888963407
		return int(seed>>33) % most
	}
}

// wander is a scene under way, every handle that was ever given, and how often which kind of an edit came to what.
type wander struct {
	s     api.Scene
	given []api.Handle
	times map[uint8]map[int]int
	next  func(most int) int
}

func wanderFrom(s api.Scene, seed uint64) *wander {
	w := &wander{s: s, times: map[uint8]map[int]int{}, next: numbersFrom(seed)}
	for slot, x := range s.Graph.Arena.Slots {
		if x.Live {
			w.given = append(w.given, handle(slot, x.Gen))
		}
	}
	return w
}

// some is a handle that was given once; most of the time one that is held.
func (w *wander) some() api.Handle {
	if len(w.given) == 0 || w.next(30) == 0 {
		return api.Handle{}
	}
	h := w.given[w.next(len(w.given))]
	for range 6 {
		if wantHeld(w.s, h) || w.next(9) == 0 {
			break
		}
		h = w.given[w.next(len(w.given))]
	}
	return h
}

// parent is some handle, too, most of the time of one that is no mesh, and has a child, if it must have one.
func (w *wander) parent(mustHave bool) api.Handle {
	h := w.some()
	for range 9 {
		if !wantHeld(w.s, h) || w.s.Nodes[h.Slot].Kind != 5 && (!mustHave || len(w.s.Graph.Kids[h.Slot]) > 0) {
			break
		}
		h = w.some()
	}
	return h
}

// place is one among the children of a node, or the one behind them.
func (w *wander) place(h api.Handle) int {
	if !wantHeld(w.s, h) {
		return 0
	}
	return w.next(len(w.s.Graph.Kids[h.Slot]) + 1)
}

func (w *wander) style() api.Style {
	l := api.Look{Color: api.Color{uint8(w.next(256)), 1, 2, 3}, Texture: w.next(len(w.s.Textures)+3) - 1, Cull: uint8(w.next(3)), Bias: w.next(2049) - 1024, Blend: true, Bin: w.next(16)}
	says := []uint8{1, 3, 5, 7}
	switch thing := w.next(9); thing {
	case 0:
		return saying(0, says[w.next(4)], api.Look{Color: l.Color})
	case 1:
		return saying(1, says[w.next(4)], api.Look{Texture: l.Texture})
	case 2:
		return api.Style{Say: [5]uint8{1, says[w.next(4)], 3, says[w.next(4)], 7}, Look: l}
	case 3:
		return saying(4, uint8(w.next(8)), api.Look{Blend: true, Bin: l.Bin})
	}
	return api.Style{}
}

// node is one of any Kind, most of the time one that may be.
func (w *wander) node() api.Node {
	n := api.Node{Kind: uint8(w.next(5) + 1), Style: w.style()}
	switch n.Kind {
	case 2:
		n.Mat = turnNode().Mat
		n.Mat.M[w.next(3)][w.next(3)] = w.next(2070) - 1035
	case 3:
		n.On = uint16(w.next(1 << 16))
	case 4:
		n.Center.Z = w.next(8300) - 4150
		for range w.next(18) {
			n.Far = append(n.Far, w.next(8193))
		}
		if w.next(4) > 0 {
			slices.Sort(n.Far)
		}
	case 5:
		n.Mesh = w.next(len(w.s.Meshes) + 1)
	}
	if w.next(12) == 0 {
		l := spots()
		l[w.next(len(l))].put(&n, w.next(3)-1)
	}
	return n
}

func (w *wander) edit() api.Edit {
	meshes := []api.Mesh{{}, triangle(w.next(250)), square(), triangle(w.next(9) + 1020), badMesh(), meshOfMany()}
	textures := []api.Texture{image(w.next(17), 3), image(2, 2), image(16, w.next(17)), badTexture()}
	kinds := []uint8{1, 1, 2, 2, 2, 3, 3, 3, 3, 3, 3, 4, 4, 5, 6, 7, 8, uint8(w.next(256))}
	x := api.Edit{
		Kind: kinds[w.next(len(kinds))], H: w.some(), C: w.some(), At: w.next(5) - 1,
		Node: w.node(), Mesh: meshes[w.next(len(meshes))], Texture: textures[w.next(len(textures))],
	}
	if (x.Kind == 3 || x.Kind == 4) && w.next(5) > 0 {
		x.H = w.parent(x.Kind == 4)
		x.At = w.place(x.H)
	}
	if n := w.next(20); n < 2 {
		x.At = []int{-2, 17}[n]
	}
	return x
}

// take does an edit, and goes on with what was answered, if that is what was wanted; with an error nothing has changed.
func (w *wander) take(t *testing.T, x api.Edit) {
	t.Helper()
	want := wantDo(w.s, x)
	ahead := flat(w.s)
	got, took, e := Do(w.s, x)
	if e != want.e || took != want.took || !wantSame(got, want.s) || !slices.Equal(flat(w.s), ahead) {
		t.Fatalf("Do(%v, %v): %v, %v, %d; want %v", w.s, x, got, took, e, want)
	}
	if w.times[x.Kind] == nil {
		w.times[x.Kind] = map[int]int{}
	}
	if w.times[x.Kind][int(e)]++; e != api.OK {
		return
	}
	if f := Check(got); f != api.OK || !wantScene(got) {
		t.Fatalf("Do(%v, %v): %v may not be", w.s, x, got)
	}
	if x.Kind == 1 {
		if slices.Contains(w.given, took.H) {
			t.Fatal("given twice:", took.H)
		}
		w.given = append(w.given, took.H)
	}
	w.s = got
}

// wantTimes are the errors that each kind comes to somewhere on the way.
func wantTimes() map[uint8][]int {
	return map[uint8][]int{1: {0, 8}, 2: {0, 8, 50, 100}, 3: {0, 2, 50, 60, 100}, 4: {0, 2, 50}, 5: {0, 50}, 6: {0, 2, 4, 40}, 7: {0, 2, 8}, 8: {0, 50}}
}

// Whatever edits are done: what is answered may be, and is what the words tell.
func TestP10_4Turns(t *testing.T) {
	worn := full()
	for i := 20; i < maxSlots; i++ {
		worn.Graph.Arena.Slots[i], worn.Nodes[i] = dead(maxGen), api.Node{}
	}
	for seed, start := range []api.Scene{{}, good(), few(3, 3), worn, few(30, 14)} {
		w := wanderFrom(start, uint64(seed)+1000)
		for range 900 {
			w.take(t, w.edit())
		}
		for kind, l := range wantTimes() {
			for _, e := range l {
				if w.times[kind][e] == 0 {
					t.Errorf("%d: no edit of kind %d came to %d: %v", seed, kind, e, w.times)
				}
			}
		}
	}
}

// Where nobody is killed, there is no room left sooner or later.
func TestP10_4TillFull(t *testing.T) {
	w := wanderFrom(few(20, 8), 77)
	for range 1400 {
		x := w.edit()
		if x.Kind == 5 {
			x.Kind = 1
		}
		if x.Kind == 6 || x.Kind == 7 {
			x.At = -1
		}
		w.take(t, x)
	}
	for _, kind := range []uint8{1, 6, 7} {
		if w.times[kind][9] == 0 || w.times[kind][0] == 0 {
			t.Error(kind, w.times)
		}
	}
	if len(w.s.Nodes) != maxSlots || len(w.s.Meshes) != maxMeshes || len(w.s.Textures) != maxTextures {
		t.Error(len(w.s.Nodes), len(w.s.Meshes), len(w.s.Textures))
	}
}

// What is made and killed leaves the scene as it was, but for its slot's Gen; where there was no free slot, for one slot more that is free.
func TestP10_4MadeAndKilled(t *testing.T) {
	none := good()
	none.Graph.Arena.Slots[2], none.Graph.Arena.Slots[6] = dead(maxGen), dead(maxGen)
	last := full()
	last.Graph.Arena.Slots[100], last.Nodes[100] = dead(maxGen-1), api.Node{}
	for i, s := range []api.Scene{good(), none, last, few(2, 2), {}} {
		for _, n := range someNodes() {
			made, took, e := Do(s, api.Edit{Kind: 1, Node: n})
			if e != api.OK {
				continue
			}
			left, _, f := Do(made, api.Edit{Kind: 5, H: took.H})
			want := deep(s)
			if took.H.Slot == len(s.Nodes) {
				want.Graph.Arena.Slots, want.Graph.Kids, want.Nodes = append(want.Graph.Arena.Slots, dead(1)), append(want.Graph.Kids, nil), append(want.Nodes, api.Node{})
			}
			want.Graph.Arena.Slots[took.H.Slot].Gen = took.H.Gen
			if f != api.OK || !wantSame(left, want) || !Same(left, want) {
				t.Error(i, n, left, f)
			}
			checkRefused(t, left, api.Edit{Kind: 5, H: took.H}, 50)
		}
	}
}

// What was linked under one that was made, and was a child of it, is as it was when it is killed.
func TestP10_4MadeLinkedAndKilled(t *testing.T) {
	s := checkDo(t, good(), api.Edit{Kind: 1, Node: colored(group(), 9)})
	h := handle(2, 6)
	s = checkDo(t, s, api.Edit{Kind: 3, H: h, C: handle(0, 3)})
	s = checkDo(t, s, api.Edit{Kind: 3, H: handle(5, 2), C: h, At: 1})
	s = checkDo(t, s, api.Edit{Kind: 3, H: handle(9, 1), C: h})
	s = checkDo(t, s, api.Edit{Kind: 8, H: h})
	s = checkDo(t, s, api.Edit{Kind: 5, H: h})
	want := good()
	want.Graph.Arena.Slots[2].Gen, want.Root = 6, api.Handle{}
	if !wantSame(s, want) {
		t.Error(s)
	}
}

// An edit that is refused tells nothing, and changes nothing: the same one is done behind it as if it had not been.
func TestP10_4Refused(t *testing.T) {
	for _, s := range []api.Scene{good(), full(), {}} {
		ahead := flat(s)
		for _, x := range append(noEdits(), api.Edit{Kind: 2, H: handle(0, 3), Node: meshNode(0)}, api.Edit{Kind: 6, At: 3}, api.Edit{Kind: 7, At: -1}) {
			for _, kind := range []uint8{x.Kind, 0, 200} {
				x.Kind = kind
				if got, took, e := Do(s, x); e != api.OK && (took != api.Took{} || !wantSame(got, api.Scene{})) {
					t.Error(x, got, took, e)
				}
			}
			if !slices.Equal(flat(s), ahead) {
				t.Fatal(s)
			}
		}
	}
}

// turnedTwice makes two changes of the good scene, if the second one still can be made.
func turnedTwice(a, b change) (s api.Scene, is bool) {
	defer func() {
		if recover() != nil {
			is = false
		}
	}()
	s = good()
	a.turn(&s)
	b.turn(&s)
	return s, true
}

// Each two changes of the good scene together: no call panics, and each tells what the words do.
func TestAnyScenes(t *testing.T) {
	all := changes()
	list := edits()
	n := 0
	for _, a := range all {
		for _, b := range all {
			s, is := turnedTwice(a, b)
			if !is {
				continue
			}
			may := wantScene(s)
			if e := Check(s); e != wantErr(may) {
				t.Errorf("Check(%v): %d", s, e)
			}
			if n++; may {
				checkDo(t, s, list[n%len(list)])
			} else if got, took, e := Do(s, list[n%len(list)]); e != 8 || took != (api.Took{}) || !wantSame(got, api.Scene{}) {
				t.Error(s, got, took, e)
			}
		}
	}
	if n < 10000 {
		t.Error("too few:", n)
	}
}

// numbersOf are some numbers of the good scene, or of one like it, where they stand.
func numbersOf(s *api.Scene, slot int) []*int {
	g := &s.Graph
	return []*int{
		&s.Root.Slot, &s.Root.Gen, &g.Arena.Slots[slot].Gen, &g.Kids[0][1].Slot, &g.Kids[3][0].Gen,
		&s.Nodes[slot].Mesh, &s.Nodes[slot].Style.Look.Texture, &s.Nodes[5].Far[2], &s.Textures[1].W, &s.Textures[0].H, &s.Meshes[1].Prims[0].Index[1],
	}
}

func numbersOfEdit(x *api.Edit) []*int {
	return []*int{&x.H.Slot, &x.H.Gen, &x.C.Slot, &x.C.Gen, &x.At, &x.Node.Mesh, &x.Node.Far[0], &x.Node.Style.Look.Texture, &x.Texture.W, &x.Texture.H}
}

// Numbers beyond all bounds anywhere in a scene or an edit: each call ends, and none panics.
func TestAnyNumbers(t *testing.T) {
	odd := []int{math.MinInt, math.MaxInt, -1 << 32, 1 << 32, -1, 0, 1, 2, 127, 128, maxGen}
	list := edits()
	next := numbersFrom(9)
	for n := range 3000 {
		s, x := good(), list[n%len(list)]
		x.Node.Far = copied(x.Node.Far)
		for range next(3) {
			l := numbersOf(&s, next(10))
			*l[next(len(l))] = odd[next(len(odd))]
		}
		for range next(3) {
			l := numbersOfEdit(&x)
			*l[next(len(l))] = odd[next(len(odd))]
		}
		checkDo(t, s, x)
	}
}
