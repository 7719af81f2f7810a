package scenefile

import (
	"reflect"
	"runtime"
	"slices"
	"testing"

	"diorama/api"
)

// walk goes through all that a value has, the spare room of its lists too: each number and each list.
func walk(v reflect.Value, number, list func(v reflect.Value)) {
	switch v.Kind() {
	case reflect.Struct:
		for i := range v.NumField() {
			walk(v.Field(i), number, list)
		}
	case reflect.Slice:
		list(v)
		walkEach(v.Slice(0, v.Cap()), number, list)
	case reflect.Array:
		walkEach(v, number, list)
	default:
		number(v)
	}
}

func walkEach(v reflect.Value, number, list func(v reflect.Value)) {
	for i := range v.Len() {
		walk(v.Index(i), number, list)
	}
}

func nothing(reflect.Value) {}

// junk puts numbers that may be nowhere into all that a value has.
func junk(v reflect.Value) {
	walk(v, func(v reflect.Value) {
		switch v.Kind() {
		case reflect.Bool:
			v.SetBool(!v.Bool())
		case reflect.Int:
			v.SetInt(v.Int() - 70001)
		default:
			v.SetUint(v.Uint() + 71)
		}
	}, nothing)
}

// roomy gives each list of what p points at spare room, with junk in it.
func roomy(p any) { makeRoom(reflect.ValueOf(p).Elem()) }

func makeRoom(v reflect.Value) {
	switch v.Kind() {
	case reflect.Struct:
		for i := range v.NumField() {
			makeRoom(v.Field(i))
		}
	case reflect.Slice:
		n := v.Len()
		whole := reflect.MakeSlice(v.Type(), n+3, n+3)
		reflect.Copy(whole, v)
		for i := range n {
			makeRoom(whole.Index(i))
		}
		for i := n; i < n+3; i++ {
			junk(whole.Index(i))
		}
		v.Set(whole.Slice(0, n))
	}
}

// view is all that a value has: the numbers, and where the lists are, how long, with how much room.
func view(x any) []uint64 {
	var l []uint64
	walk(reflect.ValueOf(x), func(v reflect.Value) {
		switch v.Kind() {
		case reflect.Bool:
			l = append(l, uint64(one(v.Bool())))
		case reflect.Int:
			l = append(l, uint64(v.Int()))
		default:
			l = append(l, v.Uint())
		}
	}, func(v reflect.Value) {
		l = append(l, uint64(v.Pointer()), uint64(v.Len()), uint64(v.Cap()))
	})
	return l
}

// area is memory, from one place to ahead of another one.
type area struct{ from, to uintptr }

// areas are those of all lists of a value, with their spare room.
func areas(x any) []area {
	var l []area
	walk(reflect.ValueOf(x), nothing, func(v reflect.Value) {
		if v.Cap() > 0 {
			l = append(l, area{v.Pointer(), v.Pointer() + uintptr(v.Cap())*v.Type().Elem().Size()})
		}
	})
	return l
}

// checkApart wants that no two of these share memory.
func checkApart(t *testing.T, what string, l []area) {
	t.Helper()
	slices.SortFunc(l, func(a, b area) int { return int(a.from) - int(b.from) })
	for i := 1; i < len(l); i++ {
		if l[i].from < l[i-1].to {
			t.Errorf("%s: two lists share memory", what)
			return
		}
	}
}

// someBytes are those of scenes, and of none.
func someBytes() [][]byte {
	l := [][]byte{{}, {10, 2, 0, 0, 0}, {10, 4, 0, 0, 0, 0}, make([]byte, 70000), wantList([]int{1, 1, 0, 0, 0, 1, 1, 0, 0, 0, 0, 0, 1, 0, 0})}
	for _, s := range scenes() {
		b := wantBytes(s)
		l = append(l, b, b[:len(b)-1], append(copied(b), 0))
	}
	return l
}

func TestP11_3OnlyRead(t *testing.T) {
	for _, s := range append(scenes(), wrong()...) {
		s := deep(s)
		roomy(&s)
		ahead := view(s)
		if Plain(s); !slices.Equal(view(s), ahead) {
			t.Error("Plain: what is handed in has changed:", s)
		}
		if Save(s); !slices.Equal(view(s), ahead) {
			t.Error("Save: what is handed in has changed:", s)
		}
	}
	for _, b := range someBytes() {
		roomy(&b)
		ahead := view(b)
		if Load(b); !slices.Equal(view(b), ahead) {
			t.Error("Load: what is handed in has changed:", short(b))
		}
	}
}

// What is in the spare room counts for nothing, and is not answered.
func TestP11_3SpareRoom(t *testing.T) {
	for _, s := range scenes() {
		r := deep(s)
		roomy(&r)
		p, e := Plain(r)
		b, f := Save(r)
		if e != api.OK || f != api.OK || !wantSame(p, wantPlain(s)) || !slices.Equal(b, wantBytes(s)) {
			t.Error(s, p, e, short(b), f)
		}
	}
	for _, s := range wrong() {
		roomy(&s)
		checkWrong(t, s)
	}
	for _, b := range someBytes() {
		want, wantE := wantLoad(b)
		roomy(&b)
		if got, e := Load(b); e != wantE || !wantSame(got, want) {
			t.Error(short(b), got, e)
		}
	}
}

// checkNew wants that two answers of one call share no memory with each other, with what was handed in, nor within themselves; and that what is done to one of these is not seen in the other one.
func checkNew[In, Out any](t *testing.T, what string, call func(In) (Out, api.Errno), in In, same func(a, b Out) bool) {
	t.Helper()
	roomy(&in)
	got, e := call(in)
	again, _ := call(in)
	third, _ := call(in)
	if e != api.OK {
		t.Fatal(what, in, e)
	}
	checkApart(t, what, slices.Concat(areas(got), areas(again), areas(third), areas(in)))
	junk(reflect.ValueOf(&in).Elem())
	junk(reflect.ValueOf(&again).Elem())
	if !same(got, third) {
		t.Errorf("%s: what is done elsewhere is seen in an answer: %v", what, got)
	}
	runtime.KeepAlive([]any{got, again, third, in})
}

func TestP11_3New(t *testing.T) {
	for _, s := range scenes() {
		want, bytes := wantPlain(s), wantBytes(s)
		same := func(a, b api.Scene) bool { return wantSame(a, want) && wantSame(b, want) }
		checkNew(t, "Plain", Plain, deep(s), same)
		checkNew(t, "Save", Save, deep(s), func(a, b []byte) bool { return slices.Equal(a, bytes) && slices.Equal(b, bytes) })
		checkNew(t, "Load", Load, copied(bytes), same)
	}
}

// shared is a scene whose lists share their memory wherever they can.
func shared() api.Scene {
	s := good()
	far := []int{0, 10, 10, 8192, 8192}
	s.Nodes[6].Far, s.Nodes[9] = far[:4], levelNode(far[1:4]...)
	kids := []api.Handle{handle(7, 9), handle(8, 4), handle(7, 9)}
	s.Graph.Kids[1], s.Graph.Kids[4], s.Graph.Kids[6] = kids, kids[:2], kids[1:]
	m := square()
	s.Meshes = []api.Mesh{m, m, {Verts: m.Verts[:3], UV: m.UV[1:]}}
	x := image(3, 3)
	s.Textures = []api.Texture{{W: 3, H: 1, Texels: x.Texels[:3]}, x, {W: 2, H: 3, Texels: x.Texels[3:]}}
	return s
}

func TestP11_3Shared(t *testing.T) {
	s := shared()
	p, e := Plain(s)
	if e != api.OK || !wantSame(p, wantPlain(s)) {
		t.Error(p, e)
	}
	checkApart(t, "Plain", areas(p))
	for _, a := range areas(s) {
		checkApart(t, "Plain", append(areas(p), a))
	}
	back, e := Load(checkBack(t, s))
	if e != api.OK {
		t.Fatal(e)
	}
	checkApart(t, "Load", areas(back))
	runtime.KeepAlive([]any{s, p, back})
}

// One call leaves nothing behind for the next one: whatever was asked between, the answers are the same.
func TestP11_3NothingKept(t *testing.T) {
	type told struct {
		p    api.Scene
		b    []byte
		e, f api.Errno
	}
	ask := func(s api.Scene) told {
		p, e := Plain(s)
		b, f := Save(s)
		return told{p, b, e, f}
	}
	all := append(scenes(), wrong()...)
	var l []told
	for _, s := range all {
		l = append(l, ask(s))
	}
	for i := len(all) - 1; i >= 0; i-- {
		x := ask(all[i])
		if x.e != l[i].e || x.f != l[i].f || !wantSame(x.p, l[i].p) || !slices.Equal(x.b, l[i].b) {
			t.Error(all[i], x)
		}
	}
}
