package mesh

import (
	"math"
	"reflect"
	"slices"
	"testing"

	"diorama/api"
)

const (
	maxMesh  = 1024
	maxUV    = 255
	maxVerts = 64
	maxTris  = 64
	maxPrims = 16
	maxIndex = 200
)

var kinds = []uint8{0, 1, 2}

func prim(kind uint8, index ...int) api.Prim { return api.Prim{Kind: kind, Index: index} }

// counted are n numbers from 0 on.
func counted(n int) []int { return around(n, n) }

// around are n numbers from 0 on, which begin anew behind each round of them.
func around(n, round int) []int {
	l := make([]int, n)
	for i := range l {
		l[i] = i % round
	}
	return l
}

// plain is a mesh of n corners, with as many places, that has these primitives.
func plain(n int, prims ...api.Prim) api.Mesh {
	m := api.Mesh{Verts: make([]api.Vec, n), UV: make([][2]int, n), Prims: prims}
	for i := range n {
		m.Verts[i] = api.Vec{X: i, Y: -i, Z: 7 * i}
		m.UV[i] = [2]int{i, 255 - i}
	}
	return m
}

// good is made anew at each call, so that a test may turn it into another one.
func good() api.Mesh {
	return plain(5, prim(0, 0, 1, 2, 2, 3, 4), prim(1, 4, 3, 2, 1), prim(2, 0, 2, 4, 4), prim(1))
}

func goodTris() [][3]int {
	return [][3]int{{0, 1, 2}, {2, 3, 4}, {4, 3, 2}, {2, 3, 1}, {0, 2, 4}, {0, 4, 4}}
}

// deep is a copy that owes nothing to Twin.
func deep(m api.Mesh) api.Mesh {
	var c api.Mesh
	c.Verts = append(c.Verts, m.Verts...)
	c.UV = append(c.UV, m.UV...)
	for _, p := range m.Prims {
		c.Prims = append(c.Prims, prim(p.Kind, append([]int{}, p.Index...)...))
	}
	return c
}

// wantSame holds all numbers of two meshes against each other, told as one list each; it owes nothing to Same.
func wantSame(a, b api.Mesh) bool { return slices.Equal(flat(a), flat(b)) }

func flat(m api.Mesh) []int {
	l := []int{len(m.Verts), len(m.UV), len(m.Prims)}
	for _, v := range m.Verts {
		l = append(l, v.X, v.Y, v.Z)
	}
	for _, uv := range m.UV {
		l = append(l, uv[0], uv[1])
	}
	for _, p := range m.Prims {
		l = append(append(l, int(p.Kind), len(p.Index)), p.Index...)
	}
	return l
}

// wantPrim goes by which numbers each triangle has, told by formulas, and not by kinds of loops.
func wantPrim(p api.Prim) ([][3]int, api.Errno) {
	n := len(p.Index)
	switch {
	case p.Kind != 0 && p.Kind != 1 && p.Kind != 2:
		return nil, api.ErrArg
	case n > maxIndex:
		return nil, api.ErrMany
	case n == 0:
		return nil, api.OK
	case n < 3 || p.Kind == 0 && n/3*3 != n:
		return nil, api.ErrMesh
	}
	count := n - 2
	if p.Kind == 0 {
		count = n / 3
	}
	var l [][3]int
	for k := range count {
		at := [3][3]int{{3 * k, 3*k + 1, 3*k + 2}, {k + k&1, k + 1 - k&1, k + 2}, {0, k + 1, k + 2}}[p.Kind]
		l = append(l, [3]int{p.Index[at[0]], p.Index[at[1]], p.Index[at[2]]})
	}
	return l, api.OK
}

// wantTris gathers all that a mesh may be wrong by, and tells the error last.
func wantTris(m api.Mesh) ([][3]int, api.Errno) {
	many := len(m.Verts) > maxVerts || len(m.UV) > maxVerts || len(m.Prims) > maxPrims
	wrong := len(m.Verts) != len(m.UV)
	out := func(n, low, high int) { wrong = wrong || n < low || n > high }
	for _, v := range m.Verts {
		out(v.X, -maxMesh, maxMesh)
		out(v.Y, -maxMesh, maxMesh)
		out(v.Z, -maxMesh, maxMesh)
	}
	for _, uv := range m.UV {
		out(uv[0], 0, maxUV)
		out(uv[1], 0, maxUV)
	}
	var all [][3]int
	for _, p := range m.Prims {
		l, e := wantPrim(p)
		wrong = wrong || e != api.OK
		all = append(all, l...)
		for _, n := range p.Index {
			out(n, 0, len(m.Verts)-1)
		}
	}
	switch {
	case many:
		return nil, api.ErrMany
	case wrong || len(all) > maxTris:
		return nil, api.ErrMesh
	}
	return all, api.OK
}

// numbersFrom are numbers from 0 to most - 1, the same ones in each run.
func numbersFrom(seed uint64) func(most int) int {
	return func(most int) int {
		seed = seed*6364136223846793005 + 1442695040888963407
		return int(seed>>33) % most
	}
}

func checkPrim(t *testing.T, p api.Prim, want [][3]int, f api.Errno) {
	t.Helper()
	if got, e := Prim(p); !slices.Equal(got, want) || e != f {
		t.Errorf("Prim(Kind %d, %d numbers %v): %v, %d; want %v, %d", p.Kind, len(p.Index), p.Index, got, e, want, f)
	}
}

// checkMesh asks Check and Tris at once: their errors are the same ones.
func checkMesh(t *testing.T, m api.Mesh, want [][3]int, f api.Errno) {
	t.Helper()
	if e := Check(m); e != f {
		t.Errorf("Check(%v): %d, want %d", m, e, f)
	}
	if got, e := Tris(m); !slices.Equal(got, want) || e != f {
		t.Errorf("Tris(%v): %v, %d; want %v, %d", m, got, e, want, f)
	}
}

// checkFine and checkWrong turn one thing of the good mesh.
func checkFine(t *testing.T, turn func(m *api.Mesh)) {
	t.Helper()
	m := good()
	turn(&m)
	checkMesh(t, m, goodTris(), api.OK)
}

func checkWrong(t *testing.T, turn func(m *api.Mesh)) {
	t.Helper()
	m := good()
	turn(&m)
	checkMesh(t, m, nil, api.ErrMesh)
}

func TestP4_1PrimExamples(t *testing.T) {
	checkPrim(t, prim(1, 4, 5, 6, 7), [][3]int{{4, 5, 6}, {6, 5, 7}}, api.OK)
	checkPrim(t, prim(2, 0, 1, 2, 3), [][3]int{{0, 1, 2}, {0, 2, 3}}, api.OK)
	checkPrim(t, prim(0, 0, 1, 2, 3), nil, api.ErrMesh)
	checkPrim(t, prim(0, 9, 8, 7, 6, 5, 4), [][3]int{{9, 8, 7}, {6, 5, 4}}, api.OK)
	checkPrim(t, prim(1, 9, 8, 7, 6, 5, 4), [][3]int{{9, 8, 7}, {7, 8, 6}, {7, 6, 5}, {5, 6, 4}}, api.OK)
	checkPrim(t, prim(2, 9, 8, 7, 6, 5), [][3]int{{9, 8, 7}, {9, 7, 6}, {9, 6, 5}}, api.OK)
	for _, kind := range kinds {
		checkPrim(t, prim(kind, 3, 1, 2), [][3]int{{3, 1, 2}}, api.OK)
		checkPrim(t, prim(kind, 5, 5, 5), [][3]int{{5, 5, 5}}, api.OK)
		checkPrim(t, api.Prim{Kind: kind}, nil, api.OK)
		checkPrim(t, api.Prim{Kind: kind, Index: []int{}}, nil, api.OK)
	}
}

func TestP4_1PrimAnyNumbers(t *testing.T) {
	a, b, c, d := math.MinInt, math.MaxInt, -1, 1<<40
	checkPrim(t, prim(0, a, b, c), [][3]int{{a, b, c}}, api.OK)
	checkPrim(t, prim(1, a, b, c, d), [][3]int{{a, b, c}, {c, b, d}}, api.OK)
	checkPrim(t, prim(2, a, b, c, d), [][3]int{{a, b, c}, {a, c, d}}, api.OK)
}

func TestP4_1PrimKinds(t *testing.T) {
	for kind := range 256 {
		f, g := api.OK, api.ErrMany
		var want [][3]int
		if kind > 2 {
			f, g = api.ErrArg, api.ErrArg
		} else {
			want = [][3]int{{1, 2, 3}}
		}
		checkPrim(t, prim(uint8(kind), 1, 2, 3), want, f)
		checkPrim(t, prim(uint8(kind)), nil, f)
		checkPrim(t, prim(uint8(kind), counted(201)...), nil, g)
		checkPrim(t, prim(uint8(kind), counted(202)...), nil, g)
		if kind > 2 {
			checkPrim(t, prim(uint8(kind), 1, 2), nil, api.ErrArg)
		}
	}
}

func TestP4_1PrimLengths(t *testing.T) {
	for _, kind := range kinds {
		checkPrim(t, prim(kind, 1), nil, api.ErrMesh)
		checkPrim(t, prim(kind, 1, 2), nil, api.ErrMesh)
		// 201 and 204 are multiples of 3, 202 and 400 are not: too many is told first.
		for _, n := range []int{201, 202, 204, 400, 1 << 16} {
			checkPrim(t, prim(kind, counted(n)...), nil, api.ErrMany)
		}
	}
	for n, count := range map[int]int{3: 1, 4: 0, 5: 0, 6: 2, 7: 0, 197: 0, 198: 66, 199: 0, 200: 0} {
		l, e := Prim(prim(0, counted(n)...))
		if len(l) != count || (e == api.OK) != (count > 0) || count == 0 && e != api.ErrMesh {
			t.Error(n, len(l), e)
		}
	}
	for _, kind := range kinds[1:] {
		for _, n := range []int{3, 4, 5, 6, 199, 200} {
			if l, e := Prim(prim(kind, counted(n)...)); len(l) != n-2 || e != api.OK {
				t.Error(kind, n, len(l), e)
			}
		}
	}
}

func TestP4_1PrimAllLengths(t *testing.T) {
	next := numbersFrom(41)
	for _, kind := range kinds {
		for n := range 210 {
			p := prim(kind, counted(n)...)
			want, f := wantPrim(p)
			checkPrim(t, p, want, f)
			for i := range p.Index {
				p.Index[i] = next(9) - 4
			}
			want, f = wantPrim(p)
			checkPrim(t, p, want, f)
		}
	}
}

func TestP4_1CheckExamples(t *testing.T) {
	checkMesh(t, plain(3, prim(2, 0, 1, 3)), nil, api.ErrMesh)
	checkMesh(t, api.Mesh{}, nil, api.OK)
	checkMesh(t, api.Mesh{Verts: []api.Vec{}, UV: [][2]int{}, Prims: []api.Prim{}}, nil, api.OK)
	checkMesh(t, plain(0, prim(0), prim(1), prim(2)), nil, api.OK)
	checkMesh(t, plain(0, prim(0, 0, 0, 0)), nil, api.ErrMesh)
	checkMesh(t, plain(1, prim(0, 0, 0, 0)), [][3]int{{0, 0, 0}}, api.OK)
	checkMesh(t, plain(7), nil, api.OK)
	checkFine(t, func(m *api.Mesh) {})
}

func TestP4_1CheckMany(t *testing.T) {
	checkMesh(t, plain(64), nil, api.OK)
	checkMesh(t, plain(65), nil, api.ErrMany)
	last := plain(64, prim(0, 0, 63, 1))
	checkMesh(t, last, [][3]int{{0, 63, 1}}, api.OK)

	checkMesh(t, api.Mesh{Verts: make([]api.Vec, 65), UV: make([][2]int, 64)}, nil, api.ErrMany)
	checkMesh(t, api.Mesh{Verts: make([]api.Vec, 64), UV: make([][2]int, 65)}, nil, api.ErrMany)
	checkMesh(t, api.Mesh{Verts: make([]api.Vec, 65)}, nil, api.ErrMany)
	checkMesh(t, api.Mesh{UV: make([][2]int, 65)}, nil, api.ErrMany)
	checkMesh(t, api.Mesh{Verts: make([]api.Vec, 64)}, nil, api.ErrMesh)
	checkMesh(t, api.Mesh{UV: make([][2]int, 64)}, nil, api.ErrMesh)
	checkMesh(t, api.Mesh{Verts: make([]api.Vec, 64), UV: make([][2]int, 63)}, nil, api.ErrMesh)
	checkMesh(t, api.Mesh{Verts: make([]api.Vec, 63), UV: make([][2]int, 64)}, nil, api.ErrMesh)

	checkMesh(t, api.Mesh{Prims: make([]api.Prim, 16)}, nil, api.OK)
	checkMesh(t, api.Mesh{Prims: make([]api.Prim, 17)}, nil, api.ErrMany)
	checkMesh(t, plain(3, make([]api.Prim, 1000)...), nil, api.ErrMany)
}

// Whatever else is wrong, and wherever it stands, ErrMany is told first.
func TestP4_1CheckManyFirst(t *testing.T) {
	many := []func(m *api.Mesh){
		func(m *api.Mesh) { m.Verts = append(m.Verts, make([]api.Vec, 60)...) },
		func(m *api.Mesh) { m.UV = append(m.UV, make([][2]int, 60)...) },
		func(m *api.Mesh) { m.Prims = append(m.Prims, make([]api.Prim, 13)...) },
	}
	wrong := []func(m *api.Mesh){
		func(m *api.Mesh) { m.Verts[0].X = 1025 },
		func(m *api.Mesh) { m.UV[0][0] = -1 },
		func(m *api.Mesh) { m.Prims[0].Kind = 3 },
		func(m *api.Mesh) { m.Prims[0].Index[0] = -1 },
		func(m *api.Mesh) { m.Prims[0].Index = []int{0, 1} },
		func(m *api.Mesh) { m.Prims[0].Index = make([]int, 201) },
		func(m *api.Mesh) { m.Prims[0].Index = make([]int, 198) },
	}
	for _, more := range many {
		for _, turn := range wrong {
			m := good()
			more(&m)
			turn(&m)
			checkMesh(t, m, nil, api.ErrMany)
		}
	}
	for _, turn := range wrong {
		checkWrong(t, turn)
	}
}

func TestP4_1CheckCorners(t *testing.T) {
	for at := range 5 {
		for place := range 3 {
			set := func(n int) func(m *api.Mesh) {
				return func(m *api.Mesh) {
					v := &m.Verts[at]
					*[]*int{&v.X, &v.Y, &v.Z}[place] = n
				}
			}
			for _, n := range []int{0, 1, -1, 1023, -1023, 1024, -1024} {
				checkFine(t, set(n))
			}
			for _, n := range []int{1025, -1025, 2048, -2048, 1 << 32, -1 << 32, math.MaxInt, math.MinInt, math.MinInt + 1024} {
				checkWrong(t, set(n))
			}
		}
	}
}

func TestP4_1CheckPlaces(t *testing.T) {
	for at := range 5 {
		for place := range 2 {
			set := func(n int) func(m *api.Mesh) {
				return func(m *api.Mesh) { m.UV[at][place] = n }
			}
			for _, n := range []int{0, 1, 254, 255} {
				checkFine(t, set(n))
			}
			for _, n := range []int{-1, 256, -255, 512, 1 << 32, math.MaxInt, math.MinInt} {
				checkWrong(t, set(n))
			}
		}
	}
	checkWrong(t, func(m *api.Mesh) { m.UV = m.UV[:4] })
	checkWrong(t, func(m *api.Mesh) { m.UV = append(m.UV, [2]int{}) })
	checkWrong(t, func(m *api.Mesh) { m.UV = nil })
	checkWrong(t, func(m *api.Mesh) { m.Verts = append(m.Verts, api.Vec{}) })
}

func TestP4_1CheckNumbers(t *testing.T) {
	for at := range 3 {
		for i := range good().Prims[at].Index {
			for _, n := range []int{0, 1, 4} {
				m := good()
				m.Prims[at].Index[i] = n
				want, f := wantTris(m)
				checkMesh(t, m, want, f)
				if f != api.OK {
					t.Error(at, i, n, f)
				}
			}
			for _, n := range []int{-1, 5, 6, 63, 64, 1 << 32, math.MaxInt, math.MinInt} {
				checkWrong(t, func(m *api.Mesh) { m.Prims[at].Index[i] = n })
			}
		}
	}
}

func TestP4_1CheckPrims(t *testing.T) {
	for at := range 4 {
		for _, kind := range []uint8{3, 4, 7, 128, 255} {
			checkWrong(t, func(m *api.Mesh) { m.Prims[at].Kind = kind })
		}
		checkWrong(t, func(m *api.Mesh) { m.Prims[at].Index = []int{1} })
		checkWrong(t, func(m *api.Mesh) { m.Prims[at].Index = []int{1, 2} })
		// Too many numbers of one primitive are ErrMany of Prim, but make a mesh one that may not be.
		for _, n := range []int{200, 201, 204} {
			checkWrong(t, func(m *api.Mesh) { m.Prims[at].Index = make([]int, n) })
		}
	}
	checkWrong(t, func(m *api.Mesh) { m.Prims[0].Index = m.Prims[0].Index[:4] })
	checkWrong(t, func(m *api.Mesh) { m.Prims[0].Index = m.Prims[0].Index[:5] })
}

func TestP4_1CheckTriangles(t *testing.T) {
	for kind, n := range map[uint8]int{0: 192, 1: 66, 2: 66} {
		p := prim(kind, around(n, 64)...)
		want, _ := wantPrim(p)
		if len(want) != 64 {
			t.Fatal(kind, len(want))
		}
		checkMesh(t, plain(64, p), want, api.OK)
		checkMesh(t, plain(64, p, prim(kind)), want, api.OK)
		checkMesh(t, plain(64, p, prim(0, 0, 1, 2)), nil, api.ErrMesh)
		checkMesh(t, plain(64, prim(2, 0, 1, 2), p), nil, api.ErrMesh)
		more := prim(kind, around(n+3, 64)...)
		if kind != 0 {
			more = prim(kind, around(n+1, 64)...)
		}
		checkMesh(t, plain(64, more), nil, api.ErrMesh)
	}
	four := prim(1, 0, 1, 2, 3, 4, 5)
	m := plain(6, slices.Repeat([]api.Prim{four}, 16)...)
	want, _ := wantTris(m)
	if len(want) != 64 {
		t.Fatal(len(want))
	}
	checkMesh(t, m, want, api.OK)
	for at := range 16 {
		m.Prims[at] = prim(1, 0, 1, 2, 3, 4, 5, 0)
		checkMesh(t, m, nil, api.ErrMesh)
		m.Prims[at] = four
	}
}

func someMesh(next func(int) int) api.Mesh {
	m := plain(1 + next(64))
	for range next(17) {
		n := []int{0, 3, 4, 5, 6, 9}[next(6)]
		kind := uint8(next(3))
		if kind == 0 {
			n -= n % 3
		}
		p := prim(kind, counted(n)...)
		for i := range p.Index {
			p.Index[i] = next(len(m.Verts))
		}
		m.Prims = append(m.Prims, p)
	}
	return m
}

// spoil turns one thing of a mesh, now and then into what may not be.
func spoil(next func(int) int, m *api.Mesh) {
	i := next(len(m.Verts))
	switch next(8) {
	case 0:
		m.Verts[i].X = next(2060) - 1030
	case 1:
		m.Verts[i].Z = []int{-1025, -1024, 1024, 1025}[next(4)]
	case 2:
		m.UV[i] = [2]int{next(300) - 20, next(256)}
	case 3:
		m.UV[i] = [2]int{0, []int{-1, 0, 255, 256}[next(4)]}
	case 4:
		m.Prims = append(m.Prims, api.Prim{Kind: uint8(next(4)), Index: make([]int, next(8))})
	case 5:
		m.Prims = append(m.Prims, prim(0, i, next(66)-1, 0))
	case 6:
		m.UV = append(m.UV, [2]int{})[:len(m.UV)+next(2)]
	}
}

func TestP4_2TrisMany(t *testing.T) {
	next := numbersFrom(42)
	times := map[api.Errno]int{}
	for n := range 4000 {
		m := someMesh(next)
		if n%2 == 1 {
			spoil(next, &m)
		}
		want, f := wantTris(m)
		checkMesh(t, m, want, f)
		times[f]++
	}
	if times[api.OK] < 1000 || times[api.ErrMesh] < 300 || times[api.ErrMany] < 20 {
		t.Error("too few of one kind:", times)
	}
}

func TestP4_2TrisOrder(t *testing.T) {
	checkMesh(t, good(), goodTris(), api.OK)
	a, b, c := prim(0, 0, 1, 2), prim(1, 3, 2, 1, 0), prim(2, 3, 0, 1, 2)
	checkMesh(t, plain(4, a, b, c), [][3]int{{0, 1, 2}, {3, 2, 1}, {1, 2, 0}, {3, 0, 1}, {3, 1, 2}}, api.OK)
	checkMesh(t, plain(4, c, prim(0), a, b), [][3]int{{3, 0, 1}, {3, 1, 2}, {0, 1, 2}, {3, 2, 1}, {1, 2, 0}}, api.OK)
	checkMesh(t, plain(4, a, a), [][3]int{{0, 1, 2}, {0, 1, 2}}, api.OK)
}

// turns make another mesh of the good one, each by one thing alone, most of them one that may not be.
func turns() []func(m *api.Mesh) {
	l := []func(m *api.Mesh){
		func(m *api.Mesh) { m.Verts = m.Verts[1:] },
		func(m *api.Mesh) { m.Verts = m.Verts[:4] },
		func(m *api.Mesh) { m.Verts = append(m.Verts, api.Vec{}) },
		func(m *api.Mesh) { m.Verts = nil },
		func(m *api.Mesh) { m.Verts[1], m.Verts[2] = m.Verts[2], m.Verts[1] },
		func(m *api.Mesh) { m.UV = m.UV[1:] },
		func(m *api.Mesh) { m.UV = m.UV[:4] },
		func(m *api.Mesh) { m.UV = append(m.UV, [2]int{}) },
		func(m *api.Mesh) { m.UV = nil },
		func(m *api.Mesh) { m.UV[1], m.UV[2] = m.UV[2], m.UV[1] },
		func(m *api.Mesh) { m.Prims = m.Prims[1:] },
		func(m *api.Mesh) { m.Prims = m.Prims[:3] },
		func(m *api.Mesh) { m.Prims = append(m.Prims, api.Prim{}) },
		func(m *api.Mesh) { m.Prims = nil },
		func(m *api.Mesh) { m.Prims[1], m.Prims[2] = m.Prims[2], m.Prims[1] },
		func(m *api.Mesh) { m.Prims[3].Kind = 2 },
		func(m *api.Mesh) { m.Prims[3].Kind = 255 },
	}
	for i := range 5 {
		l = append(l, func(m *api.Mesh) { m.Verts[i].X = math.MinInt }, func(m *api.Mesh) { m.Verts[i].Y++ }, func(m *api.Mesh) { m.Verts[i].Z = math.MaxInt })
		l = append(l, func(m *api.Mesh) { m.UV[i][0] = -1 }, func(m *api.Mesh) { m.UV[i][1] = 256 })
	}
	for i := range 4 {
		l = append(l, func(m *api.Mesh) { m.Prims[i].Kind += 3 }, func(m *api.Mesh) { m.Prims[i].Index = append(m.Prims[i].Index, 0) })
		for k := range good().Prims[i].Index {
			l = append(l, func(m *api.Mesh) { m.Prims[i].Index[k] = -7 }, func(m *api.Mesh) { m.Prims[i].Index = slices.Delete(m.Prims[i].Index, k, k+1) })
		}
	}
	return l
}

func TestP4_2Same(t *testing.T) {
	all := []api.Mesh{good(), {}}
	for _, turn := range turns() {
		m := good()
		turn(&m)
		all = append(all, m)
	}
	for _, a := range all {
		for _, b := range all {
			if got, want := Same(a, deep(b)), wantSame(a, b); got != want {
				t.Fatalf("Same(%v, %v): %v", a, b, got)
			}
		}
		if !wantSame(a, good()) && Same(good(), a) {
			t.Fatal(a)
		}
	}
}

func TestP4_2SameEmpty(t *testing.T) {
	empty := api.Mesh{Verts: []api.Vec{}, UV: [][2]int{}, Prims: []api.Prim{}}
	if !Same(api.Mesh{}, empty) || !Same(empty, api.Mesh{}) || !Same(api.Mesh{}, api.Mesh{}) {
		t.Error("lists without elements may be nil or not")
	}
	a, b := plain(1, api.Prim{Kind: 9}), plain(1, api.Prim{Kind: 9, Index: []int{}})
	if !Same(a, b) || !Same(b, a) {
		t.Error("of a primitive, too")
	}
	if Same(a, plain(1)) || Same(plain(1, prim(1)), plain(1, prim(2))) || Same(plain(0, prim(0)), api.Mesh{}) {
		t.Error("a primitive without numbers is one")
	}
}

// huge has more of all than may be.
func huge() api.Mesh {
	m := plain(1000, slices.Repeat([]api.Prim{prim(200, counted(5000)...)}, 100)...)
	m.UV = m.UV[:77]
	return m
}

func TestP4_2Twin(t *testing.T) {
	all := []api.Mesh{good(), {}, huge(), {Verts: []api.Vec{}, UV: [][2]int{}, Prims: []api.Prim{}}}
	for _, turn := range turns() {
		m := good()
		turn(&m)
		all = append(all, m)
	}
	for _, m := range all {
		twin := Twin(m)
		if !wantSame(twin, m) || !Same(twin, m) {
			t.Errorf("Twin(%v): %v", m, twin)
		}
		if e, f := Check(twin), Check(m); e != f {
			t.Error(e, f)
		}
	}
	if m := huge(); Check(m) != api.ErrMany || !Same(m, huge()) {
		t.Error("a huge one")
	}
}

// roomy is a mesh whose lists all have spare room, with what may not be in it, and the whole of that.
func roomy() (api.Mesh, api.Mesh) {
	whole := good()
	whole.Verts = append(whole.Verts, api.Vec{X: 5000}, api.Vec{Y: 6000})
	whole.UV = append(whole.UV, [2]int{-5, -6}, [2]int{700, 800})
	for i := range whole.Prims {
		whole.Prims[i].Index = append(whole.Prims[i].Index, 90, 91, 92)
	}
	whole.Prims = append(whole.Prims, prim(77, 1, 2), prim(78))
	m := api.Mesh{Verts: whole.Verts[:5], UV: whole.UV[:5], Prims: slices.Clone(whole.Prims)[:4]}
	for i := range m.Prims {
		m.Prims[i].Index = m.Prims[i].Index[:len(m.Prims[i].Index)-3]
	}
	return m, whole
}

func TestP4_3OnlyRead(t *testing.T) {
	m, whole := roomy()
	before, kept, prims := deep(m), deep(whole), slices.Clone(m.Prims[:6])
	for range 2 {
		checkMesh(t, m, goodTris(), api.OK)
		if !Same(m, good()) || !Same(Twin(m), good()) {
			t.Error(m)
		}
		for _, p := range m.Prims {
			want, f := wantPrim(p)
			checkPrim(t, p, want, f)
		}
	}
	if !wantSame(m, before) || !wantSame(whole, kept) || !reflect.DeepEqual(m.Prims[:6], prims) {
		t.Error(m, whole)
	}
	wrong := deep(m)
	wrong.Prims[2].Index[1] = 99
	before = deep(wrong)
	checkMesh(t, wrong, nil, api.ErrMesh)
	if !wantSame(wrong, before) {
		t.Error(wrong)
	}
}

func spoilNumbers(l []int) {
	for i := range l {
		l[i] = -1000 - i
	}
}

// spoilWhole writes over all of a mesh, spare room with it.
func spoilWhole(m api.Mesh) {
	for i := range m.Prims {
		spoilNumbers(m.Prims[i].Index[:cap(m.Prims[i].Index)])
	}
	for i := range m.Verts[:cap(m.Verts)] {
		m.Verts[:cap(m.Verts)][i] = api.Vec{X: -2000}
	}
	for i := range m.UV[:cap(m.UV)] {
		m.UV[:cap(m.UV)][i] = [2]int{-3000, -3000}
	}
	for i := range m.Prims[:cap(m.Prims)] {
		m.Prims[:cap(m.Prims)][i] = prim(99, -4000)
	}
}

func TestP4_3TwinIsNew(t *testing.T) {
	m, whole := roomy()
	kept := deep(whole)
	a, b := Twin(m), Twin(m)
	spoilWhole(a)
	if !wantSame(m, good()) || !wantSame(whole, kept) || !wantSame(b, good()) {
		t.Error("what is done to a twin is seen elsewhere")
	}
	spoilWhole(m)
	if !wantSame(b, good()) {
		t.Error("what is done to a mesh is seen in its twin")
	}
}

// Primitives that share one list have lists of their own in a twin.
func TestP4_3TwinListsApart(t *testing.T) {
	index := counted(9)
	m := plain(9, prim(0, index[:3]...), prim(1, index[:6]...), prim(2, index...))
	for at := range m.Prims {
		twin := Twin(m)
		want := deep(m)
		spoilNumbers(twin.Prims[at].Index[:cap(twin.Prims[at].Index)])
		spoilNumbers(want.Prims[at].Index)
		if !wantSame(twin, want) || !slices.Equal(index, counted(9)) {
			t.Error(at, twin)
		}
	}
}

func spoilTris(l [][3]int) {
	l = l[:cap(l)]
	for i := range l {
		l[i] = [3]int{-1, -2, -3}
	}
}

func TestP4_3TrianglesAreNew(t *testing.T) {
	m := good()
	a, _ := Tris(m)
	b, _ := Tris(m)
	spoilTris(a)
	if !slices.Equal(b, goodTris()) || !wantSame(m, good()) {
		t.Error(b, m)
	}
	spoilWhole(m)
	if !slices.Equal(b, goodTris()) {
		t.Error(b)
	}
	for _, kind := range kinds {
		p := prim(kind, 1, 2, 3, 4, 5, 6)
		want, _ := wantPrim(p)
		a, _ := Prim(p)
		b, _ := Prim(p)
		spoilTris(a)
		if !slices.Equal(b, want) || !slices.Equal(p.Index, []int{1, 2, 3, 4, 5, 6}) {
			t.Error(kind, b, p)
		}
		spoilNumbers(p.Index)
		if !slices.Equal(b, want) {
			t.Error(kind, b)
		}
	}
}

func TestP4_4Counts(t *testing.T) {
	for _, kind := range kinds[1:] {
		for n := 3; n <= maxIndex; n++ {
			if l, e := Prim(prim(kind, counted(n)...)); len(l) != n-2 || e != api.OK {
				t.Error(kind, n, len(l), e)
			}
		}
	}
}

func TestP4_4CornersOfTheMesh(t *testing.T) {
	next := numbersFrom(44)
	for range 1000 {
		m := someMesh(next)
		l, e := Tris(m)
		if e != api.OK {
			continue
		}
		for _, c := range l {
			if min(c[0], c[1], c[2]) < 0 || max(c[0], c[1], c[2]) >= len(m.Verts) {
				t.Fatal(c, len(m.Verts))
			}
		}
	}
}

// sides are the pairs of numbers that stand behind one another in a triangle, going round.
func sides(t [3]int) [][2]int { return [][2]int{{t[0], t[1]}, {t[1], t[2]}, {t[2], t[0]}} }

func TestP4_4StripSides(t *testing.T) {
	l, e := Prim(prim(1, counted(maxIndex)...))
	if e != api.OK {
		t.Fatal(e)
	}
	for i := range len(l) - 1 {
		common := 0
		for _, a := range sides(l[i]) {
			for _, b := range sides(l[i+1]) {
				if a == b {
					t.Error(i, l[i], l[i+1], "the same way round")
				}
				if a[0] == b[1] && a[1] == b[0] {
					common++
				}
			}
		}
		if common != 1 {
			t.Error(i, l[i], l[i+1], common)
		}
	}
}
