package nodes

import (
	"math"
	"slices"
	"testing"

	"diorama/api"
)

const (
	maxSlots = 128
	maxGen   = 1 << 30
	maxKids  = 16
)

func live(gen int) api.Slot { return api.Slot{Gen: gen, Live: true} }

func dead(gen int) api.Slot { return api.Slot{Gen: gen} }

func handle(slot, gen int) api.Handle { return api.Handle{Slot: slot, Gen: gen} }

// in is the handle of a slot as it stands in a graph.
func in(g api.Graph, slot int) api.Handle { return handle(slot, g.Arena.Slots[slot].Gen) }

// graphOf is a graph of these slots, with the children told by their slots.
func graphOf(slots []api.Slot, kids ...[]int) api.Graph {
	g := api.Graph{Arena: api.Arena{Slots: slots}, Kids: make([][]api.Handle, len(slots))}
	for i, l := range kids {
		for _, k := range l {
			g.Kids[i] = append(g.Kids[i], in(g, k))
		}
	}
	return g
}

// plain is a graph all of whose n slots are Live, of the Gen 1, with no children but those that are told.
func plain(n int, kids ...[]int) api.Graph {
	return graphOf(slices.Repeat([]api.Slot{live(1)}, n), kids...)
}

// good is made anew at each call, so that a test may turn it into another one. Its first free slot is 2; 4 and 7 are children several times.
func good() api.Graph {
	slots := []api.Slot{live(3), dead(maxGen), dead(5), live(maxGen), live(1), live(2), dead(1), live(9)}
	return graphOf(slots, []int{3, 4, 3}, nil, nil, []int{4, 7}, []int{7, 7}, []int{4, 0})
}

// example is the chapter's: A has the children B, B; B has C.
func example() (g api.Graph, a, b, c api.Handle) {
	g = plain(3, []int{1, 1}, []int{2})
	return g, in(g, 0), in(g, 1), in(g, 2)
}

// chain is n nodes, each of which has the next one as a child so many times.
func chain(n, times int) api.Graph {
	kids := make([][]int, n)
	for i := range n - 1 {
		kids[i] = slices.Repeat([]int{i + 1}, times)
	}
	return plain(n, kids...)
}

// dense is n nodes, each of which has as many of those behind it as it may have.
func dense(n int) api.Graph {
	kids := make([][]int, n)
	for i := range n {
		for k := i + 1; k < n && k <= i+maxKids; k++ {
			kids[i] = append(kids[i], k)
		}
	}
	return plain(n, kids...)
}

// ring is a graph in which the nodes in l are a loop.
func ring(n int, l ...int) api.Graph {
	kids := make([][]int, n)
	for i, at := range l {
		kids[at] = []int{l[(i+1)%len(l)]}
	}
	return plain(n, kids...)
}

// deep is a copy that owes nothing to Twin.
func deep(g api.Graph) api.Graph {
	c := api.Graph{Arena: api.Arena{Slots: append([]api.Slot{}, g.Arena.Slots...)}}
	for _, l := range g.Kids {
		c.Kids = append(c.Kids, append([]api.Handle{}, l...))
	}
	return c
}

// wantSame holds two graphs against each other number by number; it owes nothing to Same.
func wantSame(a, b api.Graph) bool { return slices.Equal(flat(a), flat(b)) }

func flat(g api.Graph) []int {
	l := []int{len(g.Arena.Slots), len(g.Kids)}
	for _, s := range g.Arena.Slots {
		had := 0
		if s.Live {
			had = 1
		}
		l = append(l, s.Gen, had)
	}
	for _, kids := range g.Kids {
		l = append(l, len(kids))
		for _, k := range kids {
			l = append(l, k.Slot, k.Gen)
		}
	}
	return l
}

func wantAll(g api.Graph) []api.Handle {
	var l []api.Handle
	for i, s := range g.Arena.Slots {
		if s.Live {
			l = append(l, handle(i, s.Gen))
		}
	}
	return l
}

func wantHeld(g api.Graph, h api.Handle) bool { return slices.Contains(wantAll(g), h) }

func wantCheck(g api.Graph) api.Errno {
	if len(g.Arena.Slots) > maxSlots || len(g.Kids) != len(g.Arena.Slots) {
		return api.ErrBad
	}
	for i, s := range g.Arena.Slots {
		if s.Gen <= 0 || s.Gen > maxGen || len(g.Kids[i]) >= maxKids+1 || !s.Live && len(g.Kids[i]) != 0 {
			return api.ErrBad
		}
	}
	all := wantAll(g)
	for _, l := range g.Kids {
		if slices.ContainsFunc(l, func(h api.Handle) bool { return !slices.Contains(all, h) }) {
			return api.ErrBad
		}
	}
	if !peels(g) {
		return api.ErrBad
	}
	return api.OK
}

// peels takes the nodes whose children were all taken, again and again: where no loop is, all of them go.
func peels(g api.Graph) bool {
	taken := make([]bool, len(g.Kids))
	left := len(g.Kids)
	for round := len(g.Kids); round >= 0; round-- {
		for i, l := range g.Kids {
			if !taken[i] && !slices.ContainsFunc(l, func(h api.Handle) bool { return !taken[h.Slot] }) {
				taken[i] = true
				left--
			}
		}
	}
	return left == 0
}

// wantReach tells of each two slots of a graph that may be whether one reaches the other: over one node more each time.
func wantReach(g api.Graph) [][]bool {
	n := len(g.Kids)
	reach := make([][]bool, n)
	for i, l := range g.Kids {
		reach[i] = make([]bool, n)
		reach[i][i] = true
		for _, h := range l {
			reach[i][h.Slot] = true
		}
	}
	for over := range n {
		for from := range n {
			for to := 0; to < n && reach[from][over]; to++ {
				reach[from][to] = reach[from][to] || reach[over][to]
			}
		}
	}
	return reach
}

// with is a graph in which the children of a slot are others.
func with(g api.Graph, slot int, kids ...api.Handle) api.Graph {
	c := deep(g)
	c.Kids[slot] = kids
	return c
}

func wantMake(g api.Graph) (api.Graph, api.Handle, api.Errno) {
	c := deep(g)
	for i, s := range c.Arena.Slots {
		if !s.Live && s.Gen < maxGen {
			c.Arena.Slots[i] = live(s.Gen + 1)
			return c, handle(i, s.Gen+1), api.OK
		}
	}
	n := len(c.Kids)
	if n == maxSlots {
		return api.Graph{}, api.Handle{}, api.ErrFull
	}
	c.Arena.Slots = append(c.Arena.Slots, live(1))
	c.Kids = append(c.Kids, nil)
	return c, handle(n, 1), api.OK
}

func wantKill(g api.Graph, h api.Handle) (api.Graph, api.Errno) {
	if !wantHeld(g, h) {
		return api.Graph{}, api.ErrStale
	}
	c := deep(g)
	c.Arena.Slots[h.Slot] = dead(h.Gen)
	for i, l := range g.Kids {
		c.Kids[i] = nil
		for _, k := range l {
			if k != h && i != h.Slot {
				c.Kids[i] = append(c.Kids[i], k)
			}
		}
	}
	return c, api.OK
}

func wantLink(g api.Graph, reach [][]bool, parent, child api.Handle, at int) (api.Graph, api.Errno) {
	if !wantHeld(g, parent) || !wantHeld(g, child) {
		return api.Graph{}, api.ErrStale
	}
	l := g.Kids[parent.Slot]
	switch {
	case at < 0 || at > len(l):
		return api.Graph{}, api.ErrArg
	case len(l) == maxKids:
		return api.Graph{}, api.ErrFull
	case reach[child.Slot][parent.Slot]:
		return api.Graph{}, api.ErrLoop
	}
	return with(g, parent.Slot, slices.Concat(l[:at], []api.Handle{child}, l[at:])...), api.OK
}

func wantUnlink(g api.Graph, parent api.Handle, at int) (api.Graph, api.Errno) {
	if !wantHeld(g, parent) {
		return api.Graph{}, api.ErrStale
	}
	l := g.Kids[parent.Slot]
	if at < 0 || at >= len(l) {
		return api.Graph{}, api.ErrArg
	}
	return with(g, parent.Slot, slices.Concat(l[:at], l[at+1:])...), api.OK
}

// wantParents counts ahead of telling.
func wantParents(g api.Graph, h api.Handle) []api.Handle {
	var l []api.Handle
	for _, p := range wantAll(g) {
		times := 0
		for _, k := range g.Kids[p.Slot] {
			if k == h {
				times++
			}
		}
		l = append(l, slices.Repeat([]api.Handle{p}, times)...)
	}
	return l
}

// handlesAbout are handles in a graph, and around it: of each slot, one ahead and some behind, and of Gens around its own.
func handlesAbout(g api.Graph) []api.Handle {
	n := len(g.Arena.Slots)
	l := []api.Handle{{}, {Slot: -1, Gen: 1}, {Slot: n, Gen: 1}, {Slot: maxSlots, Gen: 1}, {Slot: math.MinInt, Gen: 1}, {Slot: math.MaxInt, Gen: 1}, {Slot: 1 << 32, Gen: 1}}
	for i, s := range g.Arena.Slots {
		l = append(l, handle(i, s.Gen), handle(i, s.Gen-1), handle(i, s.Gen+1), handle(i, -s.Gen))
	}
	return l
}

// placesAbout are places for children among count ones, and around them.
func placesAbout(count int) []int {
	return []int{math.MinInt, -1, 0, count / 2, count - 1, count, count + 1, maxKids, maxKids + 1, math.MaxInt}
}

// numbersFrom are numbers from 0 to most - 1, the same ones in each run.
func numbersFrom(seed uint64) func(most int) int {
	return func(most int) int {
		seed = seed*6364136223846793005 + 1442695040888963407
		return int(seed>>33) % most
	}
}

func checkMake(t *testing.T, g, want api.Graph, h api.Handle, f api.Errno) {
	t.Helper()
	got, made, e := Make(g)
	if !wantSame(got, want) || made != h || e != f {
		t.Errorf("Make(%v): %v, %v, %d; want %v, %v, %d", g, got, made, e, want, h, f)
	}
}

func checkKill(t *testing.T, g api.Graph, h api.Handle, want api.Graph, f api.Errno) {
	t.Helper()
	if got, e := Kill(g, h); !wantSame(got, want) || e != f {
		t.Errorf("Kill(%v, %v): %v, %d; want %v, %d", g, h, got, e, want, f)
	}
}

func checkLink(t *testing.T, g api.Graph, parent, child api.Handle, at int, want api.Graph, f api.Errno) {
	t.Helper()
	if got, e := Link(g, parent, child, at); !wantSame(got, want) || e != f {
		t.Errorf("Link(%v, %v, %v, %d): %v, %d; want %v, %d", g, parent, child, at, got, e, want, f)
	}
}

func checkUnlink(t *testing.T, g api.Graph, parent api.Handle, at int, want api.Graph, f api.Errno) {
	t.Helper()
	if got, e := Unlink(g, parent, at); !wantSame(got, want) || e != f {
		t.Errorf("Unlink(%v, %v, %d): %v, %d; want %v, %d", g, parent, at, got, e, want, f)
	}
}

func checkKids(t *testing.T, g api.Graph, h api.Handle, want []api.Handle, f api.Errno) {
	t.Helper()
	if got, e := Kids(g, h); !slices.Equal(got, want) || e != f {
		t.Errorf("Kids(%v, %v): %v, %d; want %v, %d", g, h, got, e, want, f)
	}
}

func checkParents(t *testing.T, g api.Graph, h api.Handle, want []api.Handle, f api.Errno) {
	t.Helper()
	if got, e := Parents(g, h); !slices.Equal(got, want) || e != f {
		t.Errorf("Parents(%v, %v): %v, %d; want %v, %d", g, h, got, e, want, f)
	}
}

func checkReaches(t *testing.T, g api.Graph, from, to api.Handle, want bool, f api.Errno) {
	t.Helper()
	if got, e := Reaches(g, from, to); got != want || e != f {
		t.Errorf("Reaches(%v, %v, %v): %v, %d; want %v, %d", g, from, to, got, e, want, f)
	}
}

// checkOne asks the calls that are handed one handle.
func checkOne(t *testing.T, g api.Graph, h api.Handle) {
	t.Helper()
	left, f := wantKill(g, h)
	checkKill(t, g, h, left, f)
	if f != api.OK {
		checkKids(t, g, h, nil, f)
		checkParents(t, g, h, nil, f)
		checkUnlink(t, g, h, 0, api.Graph{}, f)
		return
	}
	l := g.Kids[h.Slot]
	checkKids(t, g, h, l, api.OK)
	checkParents(t, g, h, wantParents(g, h), api.OK)
	for _, at := range placesAbout(len(l)) {
		left, f := wantUnlink(g, h, at)
		checkUnlink(t, g, h, at, left, f)
	}
}

// checkTwo asks the calls that are handed two handles.
func checkTwo(t *testing.T, g api.Graph, reach [][]bool, a, b api.Handle) {
	t.Helper()
	count := 0
	if wantHeld(g, a) && wantHeld(g, b) {
		count = len(g.Kids[a.Slot])
		checkReaches(t, g, a, b, reach[a.Slot][b.Slot], api.OK)
	} else {
		checkReaches(t, g, a, b, false, api.ErrStale)
	}
	for _, at := range placesAbout(count) {
		linked, f := wantLink(g, reach, a, b, at)
		checkLink(t, g, a, b, at, linked, f)
	}
}

// checkGood asks all calls of a graph that may be.
func checkGood(t *testing.T, g api.Graph) {
	t.Helper()
	if e := Check(g); e != api.OK {
		t.Errorf("Check(%v): %d", g, e)
	}
	made, h, f := wantMake(g)
	checkMake(t, g, made, h, f)
	reach := wantReach(g)
	about := handlesAbout(g)
	for i, h := range about {
		checkOne(t, g, h)
		// Of many handles only some stand beside each one: else a test would last too long.
		for k := i % (1 + len(about)/32); k < len(about); k += 1 + len(about)/32 {
			checkTwo(t, g, reach, h, about[k])
		}
	}
}

// checkBad asks all calls of a graph that may not be.
func checkBad(t *testing.T, g api.Graph) {
	t.Helper()
	if e := Check(g); e != api.ErrBad {
		t.Errorf("Check(%v): %d", g, e)
	}
	checkMake(t, g, api.Graph{}, api.Handle{}, api.ErrBad)
	for _, h := range handlesAbout(g) {
		checkKill(t, g, h, api.Graph{}, api.ErrBad)
		checkKids(t, g, h, nil, api.ErrBad)
		checkParents(t, g, h, nil, api.ErrBad)
		checkReaches(t, g, h, h, false, api.ErrBad)
		checkReaches(t, g, h, api.Handle{}, false, api.ErrBad)
		for _, at := range []int{-1, 0, 1, math.MaxInt} {
			checkUnlink(t, g, h, at, api.Graph{}, api.ErrBad)
			checkLink(t, g, h, h, at, api.Graph{}, api.ErrBad)
			checkLink(t, g, api.Handle{}, h, at, api.Graph{}, api.ErrBad)
		}
	}
}

func TestP6_1CheckGood(t *testing.T) {
	checkGood(t, api.Graph{})
	checkGood(t, api.Graph{Arena: api.Arena{Slots: []api.Slot{}}, Kids: [][]api.Handle{}})
	checkGood(t, good())
	for _, s := range []api.Slot{live(1), dead(1), live(maxGen), dead(maxGen)} {
		for _, n := range []int{1, 2, 5} {
			checkGood(t, graphOf(slices.Repeat([]api.Slot{s}, n)))
		}
	}
	// A list without elements may be nil or not, that of a slot that is not Live too.
	checkGood(t, deep(good()))
	for _, n := range []int{2, 3, 6} {
		for _, times := range []int{1, 2, maxKids} {
			checkGood(t, chain(n, times))
		}
	}
	checkGood(t, dense(20))
	// A node may be below another one over ways of unlike length.
	checkGood(t, plain(5, []int{1, 2, 3, 4}, []int{2, 3, 4}, []int{3, 4}, []int{4}))
	checkGood(t, plain(5, nil, []int{0}, []int{0, 1}, []int{0, 1, 2}, []int{3, 2, 1, 0}))
}

func TestP6_1CheckGreat(t *testing.T) {
	for _, g := range []api.Graph{plain(maxSlots), chain(maxSlots, 1), chain(maxSlots, maxKids), dense(maxSlots)} {
		if e := Check(g); e != api.OK {
			t.Error(e)
		}
		checkMake(t, g, api.Graph{}, api.Handle{}, api.ErrFull)
		checkReaches(t, g, in(g, 0), in(g, maxSlots-1), len(g.Kids[0]) > 0, api.OK)
		checkReaches(t, g, in(g, maxSlots-1), in(g, 0), false, api.OK)
		checkOne(t, g, in(g, 100))
	}
}

func TestP6_1CheckArena(t *testing.T) {
	for i := range good().Kids {
		for _, gen := range []int{0, -1, maxGen + 1, math.MinInt, math.MaxInt} {
			g := good()
			g.Arena.Slots[i].Gen = gen
			checkBad(t, g)
			// Nor if the children were of that Gen too.
			for _, l := range g.Kids {
				for k := range l {
					if l[k].Slot == i {
						l[k].Gen = gen
					}
				}
			}
			checkBad(t, g)
		}
	}
	checkBad(t, plain(maxSlots+1))
	checkBad(t, chain(maxSlots+1, 1))
	checkBad(t, graphOf(slices.Repeat([]api.Slot{dead(1)}, maxSlots+1)))
	if e := Check(plain(70000)); e != api.ErrBad {
		t.Error(e)
	}
}

func TestP6_1CheckLists(t *testing.T) {
	for n := range 12 {
		g := good()
		kids := append(g.Kids, make([][]api.Handle, 4)...)
		if g.Kids = kids[:n]; n != 8 {
			checkBad(t, g)
		}
	}
	checkBad(t, api.Graph{Kids: make([][]api.Handle, 1)})
	checkBad(t, api.Graph{Kids: [][]api.Handle{{{Slot: 0, Gen: 1}}}})
	checkBad(t, api.Graph{Arena: plain(1).Arena})
	checkBad(t, api.Graph{Arena: api.Arena{Slots: []api.Slot{dead(1)}}})
	checkBad(t, api.Graph{Arena: plain(maxSlots).Arena, Kids: make([][]api.Handle, maxSlots+1)})
	checkBad(t, api.Graph{Arena: plain(maxSlots).Arena, Kids: make([][]api.Handle, maxSlots-1)})
	checkBad(t, api.Graph{Arena: plain(2).Arena, Kids: make([][]api.Handle, 70000)})
}

// A slot that is not Live has no child, whoever that is.
func TestP6_1CheckDead(t *testing.T) {
	for _, slot := range []int{1, 2, 6} {
		for _, kid := range wantAll(good()) {
			checkBad(t, with(good(), slot, kid))
			checkBad(t, with(good(), slot, kid, kid))
		}
		checkBad(t, with(good(), slot, in(good(), slot)))
	}
	g := plain(2, []int{1})
	g.Arena.Slots[0].Live = false
	checkBad(t, g)
}

func TestP6_1CheckMany(t *testing.T) {
	for _, slot := range []int{0, 3, 4, 5} {
		for _, n := range []int{maxKids - 1, maxKids} {
			checkGood(t, with(good(), slot, slices.Repeat([]api.Handle{handle(7, 9)}, n)...))
		}
		for _, n := range []int{maxKids + 1, maxKids + 2, 300} {
			checkBad(t, with(good(), slot, slices.Repeat([]api.Handle{handle(7, 9)}, n)...))
		}
	}
	several := plain(18, []int{1, 2, 3, 4, 5, 6, 7, 8, 9, 10, 11, 12, 13, 14, 15, 16})
	if e := Check(several); e != api.OK {
		t.Error(e)
	}
	checkBad(t, with(several, 0, append(several.Kids[0], in(several, 17))...))
}

func TestP6_1CheckHeld(t *testing.T) {
	for _, kid := range handlesAbout(good()) {
		if wantHeld(good(), kid) {
			continue
		}
		for _, slot := range []int{0, 3, 4, 5, 7} {
			l := good().Kids[slot]
			for at := range len(l) + 1 {
				checkBad(t, with(good(), slot, slices.Insert(slices.Clone(l), at, kid)...))
			}
		}
	}
	// One that was a child, and is not held any more, or anew.
	for _, slot := range []int{4, 7} {
		g := good()
		g.Arena.Slots[slot].Gen++
		checkBad(t, g)
		g = good()
		g.Kids[slot], g.Arena.Slots[slot].Live = nil, false
		checkBad(t, g)
	}
}

func TestP6_1CheckOwnChild(t *testing.T) {
	for _, h := range wantAll(good()) {
		l := good().Kids[h.Slot]
		for at := range len(l) + 1 {
			checkBad(t, with(good(), h.Slot, slices.Insert(slices.Clone(l), at, h)...))
		}
	}
	checkBad(t, plain(1, []int{0}))
	checkBad(t, plain(1, []int{0, 0}))
	for i := range maxSlots {
		g := plain(maxSlots)
		if g.Kids[i] = []api.Handle{in(g, i)}; Check(g) != api.ErrBad {
			t.Error(i)
		}
	}
}

func TestP6_1CheckLoops(t *testing.T) {
	for _, l := range [][]int{{0, 1}, {1, 0}, {3, 5}, {0, 5}, {4, 5}, {0, 1, 2}, {2, 1, 0}, {5, 1, 3}, {0, 2, 4, 1}, {5, 4, 3, 2, 1, 0}, {0, 1, 2, 3, 4, 5}} {
		checkBad(t, ring(6, l...))
	}
	// A loop below another node, beside others, behind others, above others.
	checkBad(t, plain(4, []int{1}, []int{2}, []int{3}, []int{1}))
	checkBad(t, plain(4, []int{1, 2}, nil, []int{1, 3}, []int{1, 1, 2}))
	checkBad(t, plain(4, []int{2, 3}, []int{0}, []int{3, 1}, nil))
	checkBad(t, plain(6, []int{1, 2}, []int{3, 3}, []int{3}, []int{4, 5}, nil, []int{4, 2}))
	checkBad(t, plain(5, nil, []int{0}, []int{0, 1}, []int{4, 0}, []int{3}))
	for n := 2; n <= maxSlots; n += 7 {
		for _, times := range []int{1, maxKids} {
			g := chain(n, times)
			for _, to := range []int{0, n / 2, n - 1} {
				bad := with(g, n-1, in(g, to))
				if Check(g) != api.OK || Check(bad) != api.ErrBad {
					t.Error(n, times, to)
				}
			}
		}
	}
}

// Each graph of three nodes with up to two children each.
func TestP6_1CheckAllSmall(t *testing.T) {
	lists := [][]int{nil}
	for a := range 3 {
		lists = append(lists, []int{a})
		for b := range 3 {
			lists = append(lists, []int{a, b})
		}
	}
	well := 0
	for _, x := range lists {
		for _, y := range lists {
			for _, z := range lists {
				g := plain(3, x, y, z)
				f := wantCheck(g)
				if e := Check(g); e != f {
					t.Errorf("Check(%v): %d; want %d", g, e, f)
				}
				if f == api.OK {
					well++
				}
			}
		}
	}
	// 25 ways in which three nodes can be below one another without a loop: each list that is not empty has two forms.
	if well != 1+6*2+3*2+9*4+6*4 {
		t.Error(well)
	}
}

// turns make another graph of the good one, each by one thing alone, most of them one that may not be.
func turns() []func(g *api.Graph) {
	l := []func(g *api.Graph){
		func(g *api.Graph) { g.Arena.Slots = nil },
		func(g *api.Graph) { g.Kids = nil },
		func(g *api.Graph) { g.Kids = g.Kids[1:] },
		func(g *api.Graph) { g.Kids = g.Kids[:7] },
		func(g *api.Graph) { g.Kids = append(g.Kids, nil) },
		func(g *api.Graph) { g.Kids = append(g.Kids, make([][]api.Handle, 300)...) },
		func(g *api.Graph) { g.Arena.Slots = append(g.Arena.Slots, api.Slot{}) },
		func(g *api.Graph) { g.Kids[7] = make([]api.Handle, 1) },
		func(g *api.Graph) { g.Kids[7] = make([]api.Handle, 300) },
		func(g *api.Graph) { g.Kids[0] = g.Kids[0][1:] },
		func(g *api.Graph) { g.Kids[0] = g.Kids[0][:2] },
		func(g *api.Graph) { g.Kids[0][0], g.Kids[0][1] = g.Kids[0][1], g.Kids[0][0] },
		func(g *api.Graph) { g.Kids[3], g.Kids[4] = g.Kids[4], g.Kids[3] },
		func(g *api.Graph) { g.Kids[3], g.Kids[4] = nil, slices.Concat(g.Kids[3], g.Kids[4]) },
	}
	for i := range 8 {
		l = append(l, func(g *api.Graph) { g.Arena.Slots[i].Live = !g.Arena.Slots[i].Live })
		l = append(l, func(g *api.Graph) { g.Arena.Slots[i].Gen++ })
		l = append(l, func(g *api.Graph) { g.Kids[i] = append(g.Kids[i], handle(0, 3)) })
		if i%3 > 0 {
			l = append(l, func(g *api.Graph) { g.Kids[5][i%2].Gen += i })
			l = append(l, func(g *api.Graph) { g.Kids[5][i%2].Slot -= i << 33 })
		}
	}
	return l
}

func turned() []api.Graph {
	all := []api.Graph{good(), {}, {Arena: good().Arena, Kids: make([][]api.Handle, 8)}, {Kids: good().Kids}, ring(4, 0, 1, 2), plain(2, []int{0, 0}, []int{1})}
	for _, turn := range turns() {
		g := good()
		turn(&g)
		all = append(all, g)
	}
	return all
}

func TestP6_1Same(t *testing.T) {
	for i, a := range turned() {
		for k, b := range turned() {
			if got, want := Same(a, b), wantSame(a, b); got != want {
				t.Errorf("Same(%v, %v): %v", a, b, got)
			}
			if i == k && !Same(a, b) {
				t.Error(i)
			}
		}
		if i > 0 && Same(good(), a) {
			t.Error(i, a)
		}
	}
	none := api.Graph{Arena: api.Arena{Slots: []api.Slot{}}, Kids: [][]api.Handle{}}
	if !Same(api.Graph{}, none) || !Same(none, api.Graph{}) || !Same(good(), deep(good())) || !Same(deep(good()), good()) {
		t.Error("a list without elements may be nil or not")
	}
	if lists := (api.Graph{Kids: make([][]api.Handle, 1)}); Same(none, lists) || Same(lists, none) {
		t.Error("a list without elements is one")
	}
}

func TestP6_1Twin(t *testing.T) {
	all := append(turned(), dense(maxSlots), chain(maxSlots+1, 3), plain(5000), api.Graph{Kids: make([][]api.Handle, 5000)})
	for _, g := range all {
		twin := Twin(g)
		if !wantSame(twin, g) || !Same(twin, g) || Check(twin) != wantCheck(g) {
			t.Errorf("Twin(%v): %v", g, twin)
		}
	}
}

// What is asked of a graph that may not be is refused for that, whatever else is wrong.
func TestP6_1First(t *testing.T) {
	bad := 0
	for _, g := range turned() {
		if wantCheck(g) == api.OK {
			checkGood(t, g)
			continue
		}
		checkBad(t, g)
		bad++
	}
	if bad < 30 {
		t.Error("too few that may not be:", bad)
	}
	full := plain(maxSlots)
	full.Kids[9] = []api.Handle{in(full, 9)}
	checkMake(t, full, api.Graph{}, api.Handle{}, api.ErrBad)
}

func TestP6_1StaleFirst(t *testing.T) {
	g := with(good(), 0, slices.Repeat([]api.Handle{handle(7, 9)}, maxKids)...)
	stale := []api.Handle{{}, {Slot: -1, Gen: 3}, {Slot: 8, Gen: 1}, {Slot: 0, Gen: 2}, {Slot: 0, Gen: 4}, {Slot: 1, Gen: maxGen}, {Slot: 2, Gen: 5}, {Slot: 2, Gen: 6}}
	for _, h := range stale {
		for _, at := range []int{-1, 0, maxKids, maxKids + 1} {
			checkLink(t, g, handle(0, 3), h, at, api.Graph{}, api.ErrStale)
			checkLink(t, g, h, handle(0, 3), at, api.Graph{}, api.ErrStale)
			checkLink(t, g, h, h, at, api.Graph{}, api.ErrStale)
			checkUnlink(t, g, h, at, api.Graph{}, api.ErrStale)
		}
		checkReaches(t, g, handle(0, 3), h, false, api.ErrStale)
		checkReaches(t, g, h, handle(0, 3), false, api.ErrStale)
		checkReaches(t, g, h, h, false, api.ErrStale)
		checkOne(t, g, h)
	}
}

func TestP6_2Make(t *testing.T) {
	checkMake(t, api.Graph{}, plain(1), handle(0, 1), api.OK)
	checkMake(t, plain(1), plain(2), handle(1, 1), api.OK)
	want := good()
	want.Arena.Slots[2] = live(6)
	checkMake(t, good(), want, handle(2, 6), api.OK)
	// What stood there had children, and was a child.
	g, _, b, _ := example()
	left, _ := Kill(g, b)
	again := plain(3)
	again.Arena.Slots[1].Gen = 2
	checkMake(t, left, again, handle(1, 2), api.OK)
	for n := range maxSlots {
		g := chain(n+1, 1)
		g.Arena.Slots, g.Kids = g.Arena.Slots[:n], g.Kids[:n]
		if n > 0 {
			g.Kids[n-1] = nil
		}
		made, h, f := wantMake(g)
		checkMake(t, g, made, h, f)
		checkMake(t, graphOf(slices.Repeat([]api.Slot{dead(maxGen)}, n)), graphOf(append(slices.Repeat([]api.Slot{dead(maxGen)}, n), live(1))), handle(n, 1), api.OK)
	}
}

func TestP6_2MakeFull(t *testing.T) {
	for _, s := range []api.Slot{live(1), live(maxGen - 1), live(maxGen), dead(maxGen)} {
		checkMake(t, graphOf(slices.Repeat([]api.Slot{s}, maxSlots)), api.Graph{}, api.Handle{}, api.ErrFull)
	}
	g := chain(maxSlots, 1)
	g.Arena.Slots[0] = dead(3)
	g.Kids[0] = nil
	want := deep(g)
	want.Arena.Slots[0] = live(4)
	checkMake(t, g, want, handle(0, 4), api.OK)
	g.Arena.Slots[0] = dead(maxGen)
	checkMake(t, g, api.Graph{}, api.Handle{}, api.ErrFull)
}

func TestP6_2Kill(t *testing.T) {
	g, a, b, c := example()
	none := graphOf([]api.Slot{live(1), dead(1), live(1)})
	checkKill(t, g, b, none, api.OK)
	checkKids(t, none, a, nil, api.OK)
	checkKids(t, none, b, nil, api.ErrStale)
	checkKill(t, none, b, api.Graph{}, api.ErrStale)
	checkKill(t, g, a, graphOf([]api.Slot{dead(1), live(1), live(1)}, nil, []int{2}), api.OK)
	checkKill(t, g, c, graphOf([]api.Slot{live(1), live(1), dead(1)}, []int{1, 1}), api.OK)
	// One that is a child several times, of several, at all places.
	many := plain(4, []int{3, 1, 3, 2, 3}, []int{3}, []int{3, 3})
	checkKill(t, many, handle(3, 1), graphOf([]api.Slot{live(1), live(1), live(1), dead(1)}, []int{1, 2}), api.OK)
	checkKill(t, many, handle(1, 1), graphOf([]api.Slot{live(1), dead(1), live(1), live(1)}, []int{3, 3, 2, 3}, nil, []int{3, 3}), api.OK)
	full := chain(maxSlots, maxKids)
	for i := range maxSlots {
		left, f := wantKill(full, in(full, i))
		checkKill(t, full, in(full, i), left, f)
	}
}

func TestP6_3Examples(t *testing.T) {
	g, a, b, c := example()
	checkLink(t, g, c, a, 0, api.Graph{}, api.ErrLoop)
	checkLink(t, g, c, c, 0, api.Graph{}, api.ErrLoop)
	checkLink(t, g, a, c, 3, api.Graph{}, api.ErrArg)
	checkLink(t, g, a, c, 1, plain(3, []int{1, 2, 1}, []int{2}), api.OK)
	checkLink(t, g, a, c, 0, plain(3, []int{2, 1, 1}, []int{2}), api.OK)
	checkLink(t, g, a, c, 2, plain(3, []int{1, 1, 2}, []int{2}), api.OK)
	checkLink(t, g, a, b, 1, plain(3, []int{1, 1, 1}, []int{2}), api.OK)
	checkLink(t, g, a, c, -1, api.Graph{}, api.ErrArg)
	checkLink(t, g, b, a, 0, api.Graph{}, api.ErrLoop)
	checkLink(t, g, a, a, 2, api.Graph{}, api.ErrLoop)
}

// Which error comes first, where several things are wrong.
func TestP6_3LinkOrder(t *testing.T) {
	g := plain(4, slices.Repeat([]int{1}, maxKids), []int{2})
	a, b, c, d := in(g, 0), in(g, 1), in(g, 2), in(g, 3)
	for _, at := range []int{math.MinInt, -1, maxKids + 1, math.MaxInt} {
		checkLink(t, g, a, d, at, api.Graph{}, api.ErrArg)
		checkLink(t, g, a, a, at, api.Graph{}, api.ErrArg)
		checkLink(t, g, c, a, at, api.Graph{}, api.ErrArg)
	}
	for at := range maxKids + 1 {
		checkLink(t, g, a, b, at, api.Graph{}, api.ErrFull)
		checkLink(t, g, a, d, at, api.Graph{}, api.ErrFull)
		checkLink(t, g, a, a, at, api.Graph{}, api.ErrFull)
	}
	loop := with(g, 1, slices.Repeat([]api.Handle{c}, maxKids)...)
	checkLink(t, loop, b, a, 0, api.Graph{}, api.ErrFull)
	checkLink(t, loop, b, a, maxKids+1, api.Graph{}, api.ErrArg)
	checkLink(t, g, b, a, 0, api.Graph{}, api.ErrLoop)
	checkLink(t, g, b, a, 1, api.Graph{}, api.ErrLoop)
	checkLink(t, g, b, a, 2, api.Graph{}, api.ErrArg)
	checkLink(t, g, d, a, 0, plain(4, slices.Repeat([]int{1}, maxKids), []int{2}, nil, []int{0}), api.OK)
}

func TestP6_3LinkPlaces(t *testing.T) {
	for n := range maxKids + 1 {
		g := plain(20, make([]int, 0, n))
		for i := range n {
			g.Kids[0] = append(g.Kids[0], in(g, i+1))
		}
		child := in(g, 19)
		for at := -2; at <= n+2; at++ {
			switch {
			case at < 0 || at > n:
				checkLink(t, g, in(g, 0), child, at, api.Graph{}, api.ErrArg)
			case n == maxKids:
				checkLink(t, g, in(g, 0), child, at, api.Graph{}, api.ErrFull)
			default:
				want := slices.Concat(g.Kids[0][:at], []api.Handle{child}, g.Kids[0][at:])
				checkLink(t, g, in(g, 0), child, at, with(g, 0, want...), api.OK)
			}
		}
	}
}

func TestP6_3UnlinkPlaces(t *testing.T) {
	for n := range maxKids + 1 {
		g := plain(20)
		for i := range n {
			g.Kids[5] = append(g.Kids[5], in(g, 19-i%7))
		}
		for at := -2; at <= n+2; at++ {
			if at < 0 || at >= n {
				checkUnlink(t, g, in(g, 5), at, api.Graph{}, api.ErrArg)
				continue
			}
			want := slices.Concat(g.Kids[5][:at], g.Kids[5][at+1:])
			checkUnlink(t, g, in(g, 5), at, with(g, 5, want...), api.OK)
		}
		checkUnlink(t, g, in(g, 5), math.MinInt, api.Graph{}, api.ErrArg)
		checkUnlink(t, g, in(g, 5), math.MaxInt, api.Graph{}, api.ErrArg)
	}
}

// A child reaches the parent over several ways, near and far.
func TestP6_3LinkLoops(t *testing.T) {
	g := plain(7, []int{1, 2, 3}, []int{4, 3}, []int{4}, []int{4, 5}, []int{5}, nil)
	checkGood(t, g)
	for from := range 5 {
		checkLink(t, g, in(g, 5), in(g, from), 0, api.Graph{}, api.ErrLoop)
	}
	for at := range 7 {
		checkLink(t, g, in(g, at), in(g, at), 0, api.Graph{}, api.ErrLoop)
		if at != 6 {
			want := with(g, 6, in(g, at))
			checkLink(t, g, in(g, 6), in(g, at), 0, want, api.OK)
			want = with(g, at, slices.Concat([]api.Handle{in(g, 6)}, g.Kids[at])...)
			checkLink(t, g, in(g, at), in(g, 6), 0, want, api.OK)
		}
	}
	for _, times := range []int{1, maxKids - 1} {
		g := chain(maxSlots, times)
		for _, i := range []int{0, 1, 60, maxSlots - 2} {
			checkLink(t, g, in(g, maxSlots-1), in(g, i), 0, api.Graph{}, api.ErrLoop)
			checkLink(t, g, in(g, i), in(g, maxSlots-1), 0, with(g, i, slices.Concat([]api.Handle{in(g, maxSlots-1)}, g.Kids[i])...), api.OK)
		}
	}
}

func TestP6_4Examples(t *testing.T) {
	g, a, b, c := example()
	checkKids(t, g, a, []api.Handle{b, b}, api.OK)
	checkKids(t, g, b, []api.Handle{c}, api.OK)
	checkKids(t, g, c, nil, api.OK)
	checkParents(t, g, a, nil, api.OK)
	checkParents(t, g, b, []api.Handle{a, a}, api.OK)
	checkParents(t, g, c, []api.Handle{b}, api.OK)
	checkReaches(t, g, a, c, true, api.OK)
	checkReaches(t, g, c, a, false, api.OK)
	checkReaches(t, g, c, c, true, api.OK)
	linked, e := Link(g, a, c, 1)
	if e != api.OK {
		t.Fatal(e)
	}
	checkKids(t, linked, a, []api.Handle{b, c, b}, api.OK)
	checkParents(t, linked, c, []api.Handle{a, b}, api.OK)
	left, e := Kill(g, b)
	if e != api.OK {
		t.Fatal(e)
	}
	checkKids(t, left, a, nil, api.OK)
	checkReaches(t, left, a, c, false, api.OK)
	checkParents(t, left, c, nil, api.OK)
}

func TestP6_4Parents(t *testing.T) {
	g := good()
	checkParents(t, g, handle(7, 9), []api.Handle{{Slot: 3, Gen: maxGen}, {Slot: 4, Gen: 1}, {Slot: 4, Gen: 1}}, api.OK)
	checkParents(t, g, handle(4, 1), []api.Handle{{Slot: 0, Gen: 3}, {Slot: 3, Gen: maxGen}, {Slot: 5, Gen: 2}}, api.OK)
	checkParents(t, g, handle(3, maxGen), []api.Handle{{Slot: 0, Gen: 3}, {Slot: 0, Gen: 3}}, api.OK)
	checkParents(t, g, handle(0, 3), []api.Handle{{Slot: 5, Gen: 2}}, api.OK)
	checkParents(t, g, handle(5, 2), nil, api.OK)
	// As many as there can be, and the first and the last slot among them.
	all := plain(maxSlots)
	mid := in(all, 64)
	var want []api.Handle
	for i := range maxSlots {
		if i != 64 {
			all.Kids[i] = slices.Repeat([]api.Handle{mid}, 1+i%maxKids)
			want = append(want, slices.Repeat([]api.Handle{in(all, i)}, 1+i%maxKids)...)
		}
	}
	checkParents(t, all, mid, want, api.OK)
	checkParents(t, all, in(all, 0), nil, api.OK)
}

// Ways without number lead through a chain of nodes each of which has the next one several times, or all the next ones.
func TestP6_4ReachesQuickly(t *testing.T) {
	for _, g := range []api.Graph{chain(maxSlots-1, maxKids), dense(maxSlots - 1)} {
		g.Arena.Slots = append(g.Arena.Slots, live(1))
		g.Kids = append(g.Kids, nil)
		alone := in(g, maxSlots-1)
		for _, i := range []int{0, 1, 63, maxSlots - 2} {
			checkReaches(t, g, in(g, 0), in(g, i), true, api.OK)
			checkReaches(t, g, in(g, i), in(g, maxSlots-2), true, api.OK)
			checkReaches(t, g, in(g, i), in(g, 0), i == 0, api.OK)
			checkReaches(t, g, in(g, i), alone, false, api.OK)
			checkReaches(t, g, alone, in(g, i), false, api.OK)
			checkLink(t, g, in(g, maxSlots-2), in(g, i), 0, api.Graph{}, api.ErrLoop)
		}
	}
}

// someGraph is a graph that may be: of each two nodes only one, by a row in which they stand, can be below the other.
func someGraph(next func(int) int, most int) api.Graph {
	gens := []int{1, 1, 2, 3, maxGen / 2, maxGen - 1, maxGen}
	var slots []api.Slot
	for range next(most + 1) {
		slots = append(slots, api.Slot{Gen: gens[next(len(gens))], Live: next(5) > 0})
	}
	g := graphOf(slots)
	row := wantAll(g)
	for i := range row {
		k := i + next(len(row)-i)
		row[i], row[k] = row[k], row[i]
	}
	for i, h := range row {
		if behind := row[i+1:]; len(behind) > 0 {
			for range []int{next(3), next(4), next(maxKids + 1), maxKids}[next(4)] {
				g.Kids[h.Slot] = append(g.Kids[h.Slot], behind[next(len(behind))])
			}
		}
	}
	return g
}

// wrong turns one thing of a graph into another one, which may be or not.
func wrong(g *api.Graph, next func(int) int) {
	all := handlesAbout(*g)
	i := next(len(g.Kids))
	switch next(6) {
	case 0:
		g.Arena.Slots[i].Gen += []int{-1, 1, -maxGen, maxGen}[next(4)]
	case 1:
		g.Arena.Slots[i].Live = !g.Arena.Slots[i].Live
	case 2:
		g.Kids = g.Kids[:i]
	case 3:
		g.Kids[i] = append(g.Kids[i], all[next(len(all))])
	case 4:
		g.Kids[i] = append([]api.Handle{in(*g, next(len(g.Kids)))}, g.Kids[i]...)
	default:
		g.Kids[i] = append(g.Kids[i], in(*g, i))
	}
}

func TestP6_4ManyGraphs(t *testing.T) {
	next := numbersFrom(64)
	times := map[api.Errno]int{}
	for n := range 300 {
		g := someGraph(next, 7)
		if n%2 == 0 && len(g.Kids) > 0 {
			wrong(&g, next)
		}
		f := wantCheck(g)
		if times[f]++; f == api.OK {
			checkGood(t, g)
		} else {
			checkBad(t, g)
		}
	}
	if times[api.OK] < 100 || times[api.ErrBad] < 60 {
		t.Error("too few of one kind:", times)
	}
}

func TestP6_4GreatGraphs(t *testing.T) {
	next := numbersFrom(65)
	for range 12 {
		g := someGraph(next, maxSlots)
		if e := Check(g); e != api.OK {
			t.Fatal(e, g)
		}
		all, reach := wantAll(g), wantReach(g)
		for range min(len(all), 20) {
			a, b := all[next(len(all))], all[next(len(all))]
			checkOne(t, g, a)
			checkTwo(t, g, reach, a, b)
		}
	}
}

// roomy is a graph whose lists all have spare room, with what may not be in it, and all of that: the slots, the list of lists, the lists.
func roomy() (api.Graph, api.Graph) {
	g := good()
	whole := api.Graph{Arena: api.Arena{Slots: append(g.Arena.Slots, dead(-7), live(-8), live(2*maxGen))}}
	for _, l := range g.Kids {
		whole.Kids = append(whole.Kids, append(slices.Clone(l), handle(-5, 1), handle(70, 2)))
	}
	for i := range 3 {
		whole.Kids = append(whole.Kids, []api.Handle{{Slot: 500 + i, Gen: -1}})
	}
	part := api.Graph{Arena: api.Arena{Slots: whole.Arena.Slots[:8]}, Kids: make([][]api.Handle, 11)}
	for i, l := range whole.Kids {
		part.Kids[i] = l
		if i < 8 {
			part.Kids[i] = l[:len(g.Kids[i])]
		}
	}
	part.Kids = part.Kids[:8]
	return part, whole
}

// sameRoom tells whether the spare room of a roomy graph, and what it is the room of, are as they were.
func sameRoom(part, whole api.Graph) bool {
	_, kept := roomy()
	lists := part.Kids[:11]
	for i, l := range lists {
		if !slices.Equal(l, kept.Kids[i][:len(l)]) {
			return false
		}
	}
	return wantSame(whole, kept) && wantSame(part, good()) && len(lists[8]) == 1 && len(lists[9]) == 1 && len(lists[10]) == 1
}

func TestP6_5OnlyRead(t *testing.T) {
	part, whole := roomy()
	for range 2 {
		checkGood(t, part)
		if !Same(part, good()) || !Same(Twin(part), good()) {
			t.Error(part)
		}
		if !sameRoom(part, whole) {
			t.Fatal(part, whole)
		}
	}
	// None is free in that one: what is made stands behind the others.
	none := api.Graph{Arena: api.Arena{Slots: part.Arena.Slots[:2]}, Kids: [][]api.Handle{nil, nil, {{Slot: 9, Gen: 9}}}[:2]}
	checkMake(t, none, graphOf([]api.Slot{live(3), dead(maxGen), live(1)}), handle(2, 1), api.OK)
	if l := none.Kids[:3][2]; len(l) != 1 || l[0] != handle(9, 9) {
		t.Error(l)
	}
	bad := api.Graph{Arena: api.Arena{Slots: whole.Arena.Slots[:9]}, Kids: part.Kids[:9]}
	checkBad(t, bad)
	if !sameRoom(part, whole) {
		t.Error(part, whole)
	}
}

func spoilList(l []api.Handle) {
	l = l[:cap(l)]
	for i := range l {
		l[i] = handle(-1000-i, -1)
	}
}

// spoil writes over all that a graph has, its spare room too.
func spoil(g api.Graph) {
	slots := g.Arena.Slots[:cap(g.Arena.Slots)]
	for i := range slots {
		slots[i] = api.Slot{Gen: -1000 - i, Live: !slots[i].Live}
	}
	lists := g.Kids[:cap(g.Kids)]
	for i, l := range lists {
		spoilList(l)
		lists[i] = nil
	}
}

// answers are the graphs that the calls answer for one graph: with a node more, in a slot that was free or in a new one, with one less, with a child more and with one less, and a twin.
func answers(g api.Graph) []api.Graph {
	made, _, _ := Make(g)
	more, _, _ := Make(api.Graph{Arena: api.Arena{Slots: g.Arena.Slots[:2]}, Kids: make([][]api.Handle, 2, 9)})
	less, _ := Kill(g, handle(3, maxGen))
	childless, _ := Kill(g, handle(5, 2))
	linked, _ := Link(g, handle(0, 3), handle(7, 9), 1)
	first, _ := Link(g, handle(7, 9), api.Handle{}, 0)
	taken, _ := Unlink(g, handle(4, 1), 0)
	return []api.Graph{made, more, less, childless, linked, first, taken, Twin(g)}
}

func wantAnswers() []api.Graph {
	made, _, _ := wantMake(good())
	more := graphOf([]api.Slot{live(3), dead(maxGen), live(1)})
	less, _ := wantKill(good(), handle(3, maxGen))
	childless, _ := wantKill(good(), handle(5, 2))
	linked := with(good(), 0, handle(3, maxGen), handle(7, 9), handle(4, 1), handle(3, maxGen))
	taken := with(good(), 4, handle(7, 9))
	return []api.Graph{made, more, less, childless, linked, {}, taken, good()}
}

func TestP6_5GraphsAreNew(t *testing.T) {
	for at := range wantAnswers() {
		part, whole := roomy()
		got, others := answers(part), answers(part)
		spoil(got[at])
		if !sameRoom(part, whole) {
			t.Error(at, "what is done to an answer is seen in the argument", part, whole)
		}
		spoil(part)
		spoil(whole)
		for i, want := range wantAnswers() {
			if !wantSame(others[i], want) || i != at && !wantSame(got[i], want) {
				t.Error(at, i, "what is done elsewhere is seen in an answer", got[i], others[i])
			}
		}
	}
}

// No two lists of one answer share memory: what is written into one, its spare room too, is seen in none of the others.
func TestP6_5ListsAreApart(t *testing.T) {
	for at, want := range wantAnswers() {
		for list := range want.Kids {
			part, _ := roomy()
			g := answers(part)[at]
			spoilList(g.Kids[list])
			g.Kids[list] = want.Kids[list]
			if !wantSame(g, want) {
				t.Error(at, list, g)
			}
		}
	}
}

func TestP6_5HandlesAreNew(t *testing.T) {
	part, whole := roomy()
	for _, h := range wantAll(good()) {
		wantKids, wantOver := good().Kids[h.Slot], wantParents(good(), h)
		kids, _ := Kids(part, h)
		others, _ := Kids(part, h)
		over, _ := Parents(part, h)
		overs, _ := Parents(part, h)
		spoilList(kids)
		spoilList(over)
		if !slices.Equal(others, wantKids) || !slices.Equal(overs, wantOver) || !sameRoom(part, whole) {
			t.Error(h, others, overs, part)
		}
		spoil(part)
		spoil(whole)
		if !slices.Equal(others, wantKids) || !slices.Equal(overs, wantOver) {
			t.Error(h, others, overs)
		}
		part, whole = roomy()
	}
}

// checkWhole asks of one graph what is promised of each.
func checkWhole(t *testing.T, g api.Graph) {
	t.Helper()
	if e := Check(g); e != api.OK || wantCheck(g) != api.OK {
		t.Fatal(e, g)
	}
	all, reach := wantAll(g), wantReach(g)
	for _, a := range all {
		kids, _ := Kids(g, a)
		for _, b := range all {
			over, e := Parents(g, b)
			if slices.Contains(kids, b) != slices.Contains(over, a) || e != api.OK {
				t.Fatal("a parent, and no child of it, or so:", a, b, g)
			}
			is, e := Reaches(g, a, b)
			below := a == b
			for _, k := range kids {
				over, _ := Reaches(g, k, b)
				below = below || over
				if back, _ := Reaches(g, k, a); back {
					t.Fatal("it reaches itself:", a, k, g)
				}
			}
			if is != below || is != reach[a.Slot][b.Slot] || e != api.OK {
				t.Fatal("reaches:", a, b, is, g)
			}
		}
	}
}

// walk is a graph under way, and every handle that was ever given.
type walk struct {
	g     api.Graph
	given []api.Handle
	times map[api.Errno]int
}

// some is a handle that was given once; most of the time one that is held.
func (w *walk) some(next func(int) int) api.Handle {
	if all := wantAll(w.g); len(all) > 0 && next(20) > 0 {
		return all[next(len(all))]
	}
	if len(w.given) == 0 {
		return api.Handle{}
	}
	return w.given[next(len(w.given))]
}

// place is a place among the children of a node; now and then one that is not there.
func (w *walk) place(next func(int) int, parent api.Handle) int {
	if !wantHeld(w.g, parent) || next(6) == 0 {
		return next(8) - 2
	}
	return next(len(w.g.Kids[parent.Slot]) + 1)
}

// take goes on with what was answered, if that is what was wanted; with an error nothing has changed.
func (w *walk) take(t *testing.T, got, want api.Graph, e, f api.Errno) {
	t.Helper()
	if e != f || !wantSame(got, want) {
		t.Fatalf("of %v: %v, %d; want %v, %d", w.g, got, e, want, f)
	}
	if w.times[e]++; e == api.OK {
		w.g = got
	}
}

func (w *walk) makeOne(t *testing.T) {
	t.Helper()
	want, wantH, f := wantMake(w.g)
	got, h, e := Make(w.g)
	if h != wantH || e == api.OK && slices.Contains(w.given, h) {
		t.Fatal(h, wantH)
	}
	if e == api.OK {
		w.given = append(w.given, h)
	}
	w.take(t, got, want, e, f)
}

// link puts a child in, and takes it out at that place at once: all is as it was then.
func (w *walk) link(t *testing.T, next func(int) int) {
	t.Helper()
	parent, child := w.some(next), w.some(next)
	at := w.place(next, parent)
	want, f := wantLink(w.g, wantReach(w.g), parent, child, at)
	got, e := Link(w.g, parent, child, at)
	if e == api.OK {
		if back, e := Unlink(got, parent, at); !wantSame(back, w.g) || !Same(back, w.g) || e != api.OK {
			t.Fatal("linked, and taken out:", back, e, w.g)
		}
	}
	w.take(t, got, want, e, f)
}

func (w *walk) unlink(t *testing.T, next func(int) int) {
	t.Helper()
	parent := w.some(next)
	at := w.place(next, parent)
	want, f := wantUnlink(w.g, parent, at)
	got, e := Unlink(w.g, parent, at)
	w.take(t, got, want, e, f)
}

func (w *walk) kill(t *testing.T, next func(int) int) {
	t.Helper()
	h := w.some(next)
	want, f := wantKill(w.g, h)
	got, e := Kill(w.g, h)
	w.take(t, got, want, e, f)
}

func (w *walk) turn(t *testing.T, next func(int) int) {
	t.Helper()
	switch n := next(40); {
	case n < 4:
		w.makeOne(t)
	case n < 6:
		w.kill(t, next)
	case n < 9:
		w.unlink(t, next)
	default:
		w.link(t, next)
	}
}

// Whatever is made, killed, linked and taken out: no node reaches itself.
func TestP6_6Turns(t *testing.T) {
	worn := graphOf(append(slices.Repeat([]api.Slot{dead(maxGen)}, maxSlots-9), slices.Repeat([]api.Slot{dead(maxGen - 40)}, 9)...))
	for seed, start := range []api.Graph{{}, good(), worn, dense(30)} {
		w := walk{g: start, given: wantAll(start), times: map[api.Errno]int{}}
		next := numbersFrom(uint64(seed) + 660)
		for n := range 1200 {
			w.turn(t, next)
			if e := Check(w.g); e != api.OK {
				t.Fatal(seed, n, e, w.g)
			}
			if n%300 == 299 && len(wantAll(w.g)) < 20 {
				checkWhole(t, w.g)
			}
		}
		if w.times[api.OK] < 300 || w.times[api.ErrStale] < 10 || w.times[api.ErrArg] < 50 || w.times[api.ErrLoop] < 50 {
			t.Error(seed, w.times)
		}
	}
}

// Few nodes, and many links: they come to have as many children as may be, and each order of nodes is tried.
func TestP6_6FewNodes(t *testing.T) {
	full := 0
	for seed := range 40 {
		w := walk{g: plain(2 + seed%5), times: map[api.Errno]int{}}
		w.given = wantAll(w.g)
		next := numbersFrom(uint64(seed) + 6600)
		for n := range 150 {
			if n == 75 {
				w.kill(t, next)
			}
			w.link(t, next)
		}
		checkWhole(t, w.g)
		full += w.times[api.ErrFull]
	}
	if full < 100 {
		t.Error("too few were full:", full)
	}
}

func TestP6_6WholeGraphs(t *testing.T) {
	checkWhole(t, api.Graph{})
	checkWhole(t, good())
	g, _, _, _ := example()
	checkWhole(t, g)
	checkWhole(t, chain(12, maxKids))
	checkWhole(t, dense(14))
	next := numbersFrom(661)
	for range 60 {
		checkWhole(t, someGraph(next, 10))
	}
}

// What is linked, and taken out at that place, is as it was: at each place, of each two.
func TestP6_6ThereAndBack(t *testing.T) {
	next := numbersFrom(662)
	for range 40 {
		g := someGraph(next, 8)
		for _, parent := range wantAll(g) {
			for _, child := range wantAll(g) {
				for at := range len(g.Kids[parent.Slot]) + 1 {
					linked, e := Link(g, parent, child, at)
					if e != api.OK {
						continue
					}
					checkUnlink(t, linked, parent, at, g, api.OK)
				}
			}
		}
	}
}
