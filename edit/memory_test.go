package edit

import (
	"reflect"
	"runtime"
	"slices"
	"testing"

	"diorama/api"
)

// walk goes through all that a value has, the spare room of its lists too: each number and each list.
func walk(v reflect.Value, number, list func(v reflect.Value)) {
	switch v.Kind() {
	case reflect.Struct:
		for i := range v.NumField() {
			walk(v.Field(i), number, list)
		}
	case reflect.Slice:
		list(v)
		walkEach(v.Slice(0, v.Cap()), number, list)
	case reflect.Array:
		walkEach(v, number, list)
	default:
		number(v)
	}
}

func walkEach(v reflect.Value, number, list func(v reflect.Value)) {
	for i := range v.Len() {
		walk(v.Index(i), number, list)
	}
}

func nothing(reflect.Value) {}

// junk puts numbers that may be nowhere into all that a value has.
func junk(v reflect.Value) {
	walk(v, func(v reflect.Value) {
		switch v.Kind() {
		case reflect.Bool:
			v.SetBool(!v.Bool())
		case reflect.Int:
			v.SetInt(v.Int() - 70001)
		default:
			v.SetUint(v.Uint() + 71)
		}
	}, nothing)
}

// roomy gives each list of what p points at spare room, with junk in it.
func roomy(p any) { makeRoom(reflect.ValueOf(p).Elem()) }

func makeRoom(v reflect.Value) {
	switch v.Kind() {
	case reflect.Struct:
		for i := range v.NumField() {
			makeRoom(v.Field(i))
		}
	case reflect.Slice:
		n := v.Len()
		whole := reflect.MakeSlice(v.Type(), n+3, n+3)
		reflect.Copy(whole, v)
		for i := range n {
			makeRoom(whole.Index(i))
		}
		for i := n; i < n+3; i++ {
			junk(whole.Index(i))
		}
		v.Set(whole.Slice(0, n))
	}
}

// view is all that a value has: the numbers, and where the lists are, how long, with how much room.
func view(x any) []uint64 {
	var l []uint64
	walk(reflect.ValueOf(x), func(v reflect.Value) {
		switch v.Kind() {
		case reflect.Bool:
			l = append(l, uint64(one(v.Bool())))
		case reflect.Int:
			l = append(l, uint64(v.Int()))
		default:
			l = append(l, v.Uint())
		}
	}, func(v reflect.Value) {
		l = append(l, uint64(v.Pointer()), uint64(v.Len()), uint64(v.Cap()))
	})
	return l
}

// area is memory, from one place to ahead of another one.
type area struct{ from, to uintptr }

// areas are those of all lists of a value, with their spare room.
func areas(x any) []area {
	var l []area
	walk(reflect.ValueOf(x), nothing, func(v reflect.Value) {
		if v.Cap() > 0 {
			l = append(l, area{v.Pointer(), v.Pointer() + uintptr(v.Cap())*v.Type().Elem().Size()})
		}
	})
	return l
}

// checkApart wants that no two of these share memory.
func checkApart(t *testing.T, what string, l []area) {
	t.Helper()
	slices.SortFunc(l, func(a, b area) int { return int(a.from) - int(b.from) })
	for i := 1; i < len(l); i++ {
		if l[i].from < l[i-1].to {
			t.Errorf("%s: two lists share memory", what)
			return
		}
	}
}

// edits are some of each kind of which each is done to the good scene, with lists in all that they have.
func edits() []api.Edit {
	base := api.Edit{H: handle(9, 1), C: handle(7, 9), At: 0, Node: levelNode(1, 2, 3), Mesh: square(), Texture: image(3, 3)}
	var l []api.Edit
	for kind := uint8(1); kind <= 8; kind++ {
		x := base
		if x.Kind = kind; kind == 4 {
			x.H = handle(0, 3)
		}
		l = append(l, x)
		if kind >= 6 && kind <= 7 {
			x.At = -1
			l = append(l, x)
		}
		if kind == 5 || kind == 2 {
			x.H = handle(4, 1)
			l = append(l, x)
		}
	}
	return l
}

// noEdits are some of each kind, too, each of which is refused.
func noEdits() []api.Edit {
	l := []api.Edit{{}, {Kind: 9, Node: levelNode(1), Mesh: square(), Texture: image(2, 2)}}
	for _, x := range edits() {
		x.H, x.At, x.Node.On = handle(9, 2), 40, 1
		l = append(l, x)
	}
	for _, x := range edits() {
		x.C, x.Mesh.UV, x.Texture.W, x.Node.Far = handle(9, 1), nil, 4, []int{3, 2}
		if x.Kind == 4 || x.Kind == 5 || x.Kind == 8 {
			x.H.Gen = 70
		}
		l = append(l, x)
	}
	return l
}

func TestP10_3Edits(t *testing.T) {
	for _, x := range edits() {
		if want := wantDo(good(), x); want.e != api.OK {
			t.Error(x, want.e)
		}
		checkDo(t, good(), x)
	}
	for _, x := range noEdits() {
		if want := wantDo(good(), x); want.e == api.OK {
			t.Error(x)
		}
		checkDo(t, good(), x)
	}
}

// checkUnseen wants that what was done left all that was handed in as it was.
func checkUnseen(t *testing.T, what string, do func(s api.Scene, x api.Edit), s api.Scene, x api.Edit) {
	t.Helper()
	roomy(&s)
	roomy(&x)
	ahead, edit := view(s), view(x)
	if do(s, x); !slices.Equal(view(s), ahead) || !slices.Equal(view(x), edit) {
		t.Errorf("%s: what is handed in has changed", what)
	}
}

func TestP10_3OnlyRead(t *testing.T) {
	for _, x := range append(edits(), noEdits()...) {
		checkUnseen(t, "Do", func(s api.Scene, x api.Edit) { Do(s, x) }, good(), x)
		checkUnseen(t, "CheckNode", func(s api.Scene, x api.Edit) { CheckNode(s, x.Node) }, good(), x)
	}
	for _, s := range turned() {
		checkUnseen(t, "Check", func(s api.Scene, _ api.Edit) { Check(s) }, s, api.Edit{})
		checkUnseen(t, "Twin", func(s api.Scene, _ api.Edit) { Twin(s) }, s, api.Edit{})
		checkUnseen(t, "Same", func(s api.Scene, _ api.Edit) { Same(s, good()); Same(good(), s); Same(s, s) }, s, api.Edit{})
		checkUnseen(t, "Do of any", func(s api.Scene, x api.Edit) { Do(s, x) }, s, api.Edit{Kind: 1, Node: levelNode(3)})
	}
}

// What is in the spare room counts for nothing, and is not answered.
func TestP10_3SpareRoom(t *testing.T) {
	for _, x := range append(edits(), noEdits()...) {
		s, y := good(), x
		roomy(&s)
		roomy(&y)
		checkAnswer(t, s, y, wantDo(good(), x))
	}
	for _, s := range turned() {
		r := deep(s)
		roomy(&r)
		if !Same(r, s) || !wantSame(Twin(r), s) || Check(r) != Check(s) {
			t.Error(s)
		}
	}
}

func TestP10_3DoIsNew(t *testing.T) {
	for _, x := range edits() {
		s := good()
		roomy(&s)
		roomy(&x)
		got, _, e := Do(s, x)
		again, _, f := Do(s, x)
		if e != api.OK || f != api.OK {
			t.Fatal(e, f)
		}
		checkApart(t, "Do", slices.Concat(areas(got), areas(again), areas(s), areas(x)))
		want := wantDo(s, x)
		junk(reflect.ValueOf(&s).Elem())
		junk(reflect.ValueOf(&x).Elem())
		junk(reflect.ValueOf(&again).Elem())
		if !wantSame(got, want.s) {
			t.Error("what is done elsewhere is seen in an answer:", got)
		}
		runtime.KeepAlive([]any{got, again, s, x})
	}
}

func TestP10_3TwinIsNew(t *testing.T) {
	for _, s := range turned() {
		want := deep(s)
		roomy(&s)
		got, again := Twin(s), Twin(s)
		checkApart(t, "Twin", slices.Concat(areas(got), areas(again), areas(s)))
		junk(reflect.ValueOf(&s).Elem())
		junk(reflect.ValueOf(&again).Elem())
		if !wantSame(got, want) {
			t.Error("what is done elsewhere is seen in an answer:", got)
		}
		runtime.KeepAlive([]any{got, again, s})
	}
}

// shared is a scene whose lists share their memory wherever they can, and an edit that shares it, too.
func shared() (api.Scene, api.Edit) {
	s := good()
	far := []int{0, 10, 10, 8192, 8192}
	s.Nodes[5].Far = far[:4]
	s.Nodes[9] = levelNode(far[1:4]...)
	kids := []api.Handle{handle(4, 1), handle(7, 9), handle(7, 9)}
	s.Graph.Kids[0], s.Graph.Kids[3], s.Graph.Kids[5] = kids, kids[:2], kids[:1]
	m := square()
	s.Meshes = []api.Mesh{m, m, {Verts: m.Verts[:3], UV: m.UV[1:], Prims: m.Prims[1:]}}
	x := image(3, 3)
	s.Textures = []api.Texture{{W: 3, H: 1, Texels: x.Texels[:3]}, x, {W: 2, H: 3, Texels: x.Texels[3:]}}
	return s, api.Edit{H: handle(9, 1), C: handle(8, 4), Node: levelNode(far[:2]...), Mesh: m, Texture: x}
}

func TestP10_3Shared(t *testing.T) {
	for kind := uint8(1); kind <= 8; kind++ {
		for at := -1; at < 2; at++ {
			s, x := shared()
			x.Kind, x.At = kind, at
			want := wantDo(s, x)
			got, took, e := Do(s, x)
			if want.e != e || want.took != took || !wantSame(want.s, got) {
				t.Error(x, e)
			}
			checkApart(t, "Do", areas(got))
			for _, a := range slices.Concat(areas(s), areas(x)) {
				checkApart(t, "Do", append(areas(got), a))
			}
			runtime.KeepAlive([]any{got, s, x})
		}
	}
	s, _ := shared()
	twin := Twin(s)
	if checkApart(t, "Twin", areas(twin)); !wantSame(twin, s) {
		t.Error(twin)
	}
	runtime.KeepAlive(twin)
}
