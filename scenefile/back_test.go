package scenefile

import (
	"slices"
	"testing"

	"diorama/api"
	"diorama/edit"
)

// numbersFrom are numbers from 0 to most - 1, the same ones in each run.
func numbersFrom(seed uint64) func(most int) int {
	return func(most int) int {
		seed = seed*6364136223846793005 + 1442695040888963407
		return int(seed>>33) % most
	}
}

// checkBack wants all that follows of a scene that may be, and answers its bytes.
func checkBack(t *testing.T, s api.Scene) []byte {
	t.Helper()
	p, e := Plain(s)
	b, f := Save(s)
	if e != api.OK || f != api.OK || !wantSame(p, wantPlain(s)) {
		t.Fatalf("of %v: Plain: %v, %d; Save: %d", s, p, e, f)
	}
	back, e := Load(b)
	if e != api.OK || !wantSame(back, p) || !edit.Same(back, p) {
		t.Errorf("%v comes back as %v, %d; want %v", s, back, e, p)
	}
	for _, x := range []api.Scene{p, back} {
		if again, e := Save(x); e != api.OK || !slices.Equal(again, b) {
			t.Errorf("%v is saved as %v, %d; want %v", x, short(again), e, short(b))
		}
		if again, e := Plain(x); e != api.OK || !wantSame(again, x) {
			t.Errorf("%v is plain, not %v, %d", x, again, e)
		}
	}
	return b
}

func TestP11_4Back(t *testing.T) {
	for _, s := range scenes() {
		checkBack(t, s)
	}
}

// What differs in nothing but its slots' Gens, and in slots that nobody has, is saved as the same bytes.
func TestP11_4SameBytes(t *testing.T) {
	l := holes()
	want := checkBack(t, l[0])
	for _, s := range l {
		if b := checkBack(t, s); !slices.Equal(b, want) {
			t.Errorf("%v is saved as %v; want %v", s, b, want)
		}
	}
}

// Two scenes whose plain ones differ are saved as other bytes.
func TestP11_4OtherBytes(t *testing.T) {
	saved := map[string]api.Scene{}
	for _, s := range scenes() {
		b := string(checkBack(t, s))
		if other, is := saved[b]; is && !wantSame(wantPlain(other), wantPlain(s)) {
			t.Error(s, other)
		}
		saved[b] = s
	}
	if len(saved) < 150 {
		t.Error("too few:", len(saved))
	}
}

// What is shared is shared behind it: one node that several have as a child, and one several times, is one.
func TestP11_4Shared(t *testing.T) {
	b := checkBack(t, good())
	s, e := Load(b)
	if e != api.OK || len(s.Nodes) != 7 {
		t.Fatal(s, e)
	}
	x, _, e := edit.Do(s, api.Edit{Kind: api.EditSet, H: s.Graph.Kids[1][0], Node: switchNode(77)})
	if e != api.OK {
		t.Fatal(e)
	}
	for _, h := range []api.Handle{x.Graph.Kids[0][2], x.Graph.Kids[1][0], x.Graph.Kids[3][0]} {
		if x.Nodes[h.Slot].On != 77 {
			t.Error(x)
		}
	}
	checkBack(t, x)
}

// wander is a scene under way, to which edits of all kinds are done.
type wander struct {
	s    api.Scene
	next func(most int) int
}

func (w *wander) some() api.Handle {
	if l := held(w.s); len(l) > 0 {
		return l[w.next(len(l))]
	}
	return api.Handle{}
}

func (w *wander) style() api.Style {
	y := someStyles()[w.next(len(someStyles()))]
	for thing := range y.Say {
		if y.Say[thing] > 0 && w.next(2) == 0 {
			y.Say[thing] = []uint8{1, 3, 5, 7}[w.next(4)]
		}
	}
	return y
}

func (w *wander) node() api.Node {
	n := someNodes()[w.next(len(someNodes()))]
	n.Style = w.style()
	if n.Kind == 3 {
		n.On = uint16(w.next(1 << 16))
	}
	if n.Kind == 2 {
		n.Mat.M[w.next(3)][w.next(3)] = w.next(2049) - 1024
		n.Mat.T.Y = w.next(8193) - 4096
	}
	return n
}

func (w *wander) edit() api.Edit {
	kinds := []uint8{1, 1, 2, 3, 3, 3, 3, 4, 5, 6, 7, 8}
	x := api.Edit{Kind: kinds[w.next(len(kinds))], H: w.some(), C: w.some(), At: w.next(3), Node: w.node()}
	x.Mesh = []api.Mesh{{}, triangle(w.next(250)), square()}[w.next(3)]
	x.Texture = image(1+w.next(16), 1+w.next(4))
	if x.Kind >= 6 && w.next(2) == 0 {
		x.At = -1
	}
	if x.Kind == 8 && w.next(4) == 0 {
		x.H = api.Handle{}
	}
	return x
}

// Behind any edits.
func TestP11_4Edits(t *testing.T) {
	for seed, start := range []api.Scene{{}, good(), small(), gone(5), alone(group())} {
		w := wander{start, numbersFrom(uint64(seed) + 1)}
		done := map[uint8]int{}
		for range 400 {
			x := w.edit()
			s, _, e := edit.Do(w.s, x)
			if e != api.OK {
				continue
			}
			w.s = s
			done[x.Kind]++
			checkBack(t, s)
		}
		if len(done) < 8 {
			t.Error(seed, done)
		}
	}
}

// From what is loaded all goes on as from what was saved: the same edits, with the plain one's handles, come to the same.
func TestP11_4GoesOn(t *testing.T) {
	s, e := Load(checkBack(t, good()))
	p, f := Plain(good())
	if e != api.OK || f != api.OK {
		t.Fatal(e, f)
	}
	w := wander{s, numbersFrom(99)}
	for range 300 {
		x := w.edit()
		a, tookA, e := edit.Do(w.s, x)
		b, tookB, f := edit.Do(p, x)
		if e != f || tookA != tookB || !wantSame(a, b) {
			t.Fatal(x, e, f)
		}
		if e == api.OK {
			w.s, p = a, b
		}
	}
}

// All that was taken of bytes that were changed here and there is saved as just these.
func TestP11_4Changed(t *testing.T) {
	next := numbersFrom(5)
	taken := 0
	for _, s := range []api.Scene{good(), small(), upward(), chain(), holes()[5]} {
		b := wantBytes(s)
		for range 2500 {
			c := copied(b)
			for range 1 + next(3) {
				c[next(len(c))] = byte(next(256))
			}
			if checkAny(t, c) {
				taken++
			}
		}
	}
	if taken < 300 {
		t.Error("too few:", taken)
	}
}
