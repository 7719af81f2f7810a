package arena

import (
	"math"
	"slices"
	"testing"

	"diorama/api"
)

const (
	maxSlots = 128
	maxGen   = 1 << 30
)

func live(gen int) api.Slot { return api.Slot{Gen: gen, Live: true} }

func dead(gen int) api.Slot { return api.Slot{Gen: gen} }

func arenaOf(l ...api.Slot) api.Arena { return api.Arena{Slots: l} }

func handle(slot, gen int) api.Handle { return api.Handle{Slot: slot, Gen: gen} }

// many is an arena of n slots of one kind.
func many(n int, s api.Slot) api.Arena { return arenaOf(slices.Repeat([]api.Slot{s}, n)...) }

// good is made anew at each call, so that a test may turn it into another one. Its first free slot is 2.
func good() api.Arena {
	return arenaOf(live(3), dead(maxGen), dead(5), live(maxGen), dead(1), live(1))
}

func goodHandles() []api.Handle {
	return []api.Handle{{Slot: 0, Gen: 3}, {Slot: 3, Gen: maxGen}, {Slot: 5, Gen: 1}}
}

// deep is a copy that owes nothing to Twin.
func deep(a api.Arena) api.Arena { return arenaOf(append([]api.Slot{}, a.Slots...)...) }

// wantSame holds two arenas against each other number by number; it owes nothing to Same.
func wantSame(a, b api.Arena) bool { return slices.Equal(flat(a), flat(b)) }

func flat(a api.Arena) []int {
	l := []int{len(a.Slots)}
	for _, s := range a.Slots {
		had := 0
		if s.Live {
			had = 1
		}
		l = append(l, s.Gen, had)
	}
	return l
}

func wantCheck(a api.Arena) api.Errno {
	wrong := func(s api.Slot) bool { return s.Gen <= 0 || s.Gen-1 >= maxGen }
	if len(a.Slots) >= maxSlots+1 || slices.ContainsFunc(a.Slots, wrong) {
		return api.ErrBad
	}
	return api.OK
}

// wantAll goes from the last slot to the first.
func wantAll(a api.Arena) []api.Handle {
	var l []api.Handle
	for i := len(a.Slots) - 1; i >= 0; i-- {
		if a.Slots[i].Live {
			l = append([]api.Handle{{Slot: i, Gen: a.Slots[i].Gen}}, l...)
		}
	}
	return l
}

// wantMake tells, of an arena that may be, the handle alone: the arena follows from it.
func wantMake(a api.Arena) (api.Handle, api.Errno) {
	at := slices.IndexFunc(a.Slots, func(s api.Slot) bool { return s.Gen != maxGen && !s.Live })
	switch {
	case at >= 0:
		return handle(at, a.Slots[at].Gen+1), api.OK
	case len(a.Slots) == maxSlots:
		return api.Handle{}, api.ErrFull
	}
	return handle(len(a.Slots), 1), api.OK
}

// with is an arena with another slot at a place, or with one more.
func with(a api.Arena, at int, s api.Slot) api.Arena {
	c := deep(a)
	if at == len(c.Slots) {
		c.Slots = append(c.Slots, s)
	}
	c.Slots[at] = s
	return c
}

// handlesAbout are handles in an arena, and around it: of each slot, one ahead and some behind, and of Gens around its own.
func handlesAbout(a api.Arena) []api.Handle {
	l := []api.Handle{{}, {Slot: math.MinInt, Gen: 1}, {Slot: math.MaxInt, Gen: 1}, {Slot: 1 << 32, Gen: 1}}
	for _, i := range []int{-1, len(a.Slots), len(a.Slots) + 1, maxSlots - 1, maxSlots, maxSlots + 1} {
		l = append(l, handle(i, 0), handle(i, 1), handle(i, 2), handle(i, maxGen))
	}
	for i, s := range a.Slots {
		for _, gen := range []int{s.Gen - 1, s.Gen, s.Gen + 1, -s.Gen, s.Gen + 1<<32, 0, 1, maxGen, maxGen + 1, math.MinInt, math.MaxInt} {
			l = append(l, handle(i, gen))
		}
	}
	return l
}

// numbersFrom are numbers from 0 to most - 1, the same ones in each run.
func numbersFrom(seed uint64) func(most int) int {
	return func(most int) int {
		seed = seed*6364136223846793005 + 1442695040888963407
		return int(seed>>33) % most
	}
}

func checkMake(t *testing.T, a, want api.Arena, h api.Handle, f api.Errno) {
	t.Helper()
	got, made, e := Make(a)
	if !wantSame(got, want) || made != h || e != f {
		t.Errorf("Make(%v): %v, %v, %d; want %v, %v, %d", a, got, made, e, want, h, f)
	}
}

func checkKill(t *testing.T, a api.Arena, h api.Handle, want api.Arena, f api.Errno) {
	t.Helper()
	if got, e := Kill(a, h); !wantSame(got, want) || e != f {
		t.Errorf("Kill(%v, %v): %v, %d; want %v, %d", a, h, got, e, want, f)
	}
}

func checkAll(t *testing.T, a api.Arena, want []api.Handle, f api.Errno) {
	t.Helper()
	if got, e := All(a); !slices.Equal(got, want) || e != f {
		t.Errorf("All(%v): %v, %d; want %v, %d", a, got, e, want, f)
	}
}

// checkHandles asks Holds and Kill at once: what is killed is just what is held.
func checkHandles(t *testing.T, a api.Arena) {
	t.Helper()
	held := wantAll(a)
	for _, h := range handlesAbout(a) {
		is := slices.Contains(held, h)
		if Holds(a, h) != is {
			t.Errorf("Holds(%v, %v): %v", a, h, !is)
		}
		if is {
			checkKill(t, a, h, with(a, h.Slot, dead(h.Gen)), api.OK)
		} else {
			checkKill(t, a, h, api.Arena{}, api.ErrStale)
		}
	}
}

// checkGood asks all calls of an arena that may be.
func checkGood(t *testing.T, a api.Arena) {
	t.Helper()
	if e := Check(a); e != api.OK {
		t.Errorf("Check(%v): %d", a, e)
	}
	h, f := wantMake(a)
	if f == api.OK {
		checkMake(t, a, with(a, h.Slot, live(h.Gen)), h, f)
	} else {
		checkMake(t, a, api.Arena{}, h, f)
	}
	checkAll(t, a, wantAll(a), api.OK)
	checkHandles(t, a)
}

// checkBad asks all calls of an arena that may not be.
func checkBad(t *testing.T, a api.Arena) {
	t.Helper()
	if e := Check(a); e != api.ErrBad {
		t.Errorf("Check(%v): %d", a, e)
	}
	checkMake(t, a, api.Arena{}, api.Handle{}, api.ErrBad)
	checkAll(t, a, nil, api.ErrBad)
	for _, h := range handlesAbout(a) {
		if Holds(a, h) {
			t.Errorf("Holds(%v, %v) of an arena that may not be", a, h)
		}
		checkKill(t, a, h, api.Arena{}, api.ErrBad)
	}
}

func TestP5_1CheckGens(t *testing.T) {
	for _, had := range []bool{false, true} {
		for _, gen := range []int{1, 2, 1000, maxGen - 1, maxGen} {
			for at := range 6 {
				checkGood(t, with(good(), at, api.Slot{Gen: gen, Live: had}))
			}
			checkGood(t, arenaOf(api.Slot{Gen: gen, Live: had}))
		}
		for _, gen := range []int{0, -1, -maxGen, maxGen + 1, 2 * maxGen, 1<<32 + 1, math.MinInt, math.MaxInt} {
			for at := range 6 {
				checkBad(t, with(good(), at, api.Slot{Gen: gen, Live: had}))
			}
			checkBad(t, arenaOf(api.Slot{Gen: gen, Live: had}))
			checkBad(t, with(many(maxSlots, live(1)), maxSlots-1, api.Slot{Gen: gen, Live: had}))
		}
	}
}

func TestP5_1CheckLengths(t *testing.T) {
	checkGood(t, api.Arena{})
	checkGood(t, arenaOf([]api.Slot{}...))
	for _, s := range []api.Slot{live(1), dead(1), live(maxGen), dead(maxGen)} {
		for _, n := range []int{1, 2, maxSlots - 1, maxSlots} {
			checkGood(t, many(n, s))
		}
		for _, n := range []int{maxSlots + 1, maxSlots + 2, 2 * maxSlots} {
			checkBad(t, many(n, s))
		}
	}
	if e := Check(many(70000, dead(1))); e != api.ErrBad {
		t.Error(e)
	}
}

func TestP5_1Holds(t *testing.T) {
	a := good()
	for _, h := range goodHandles() {
		if !Holds(a, h) {
			t.Error(h)
		}
	}
	for _, h := range []api.Handle{{}, {Slot: -1, Gen: 3}, {Slot: 5, Gen: 2}, {Slot: 6, Gen: 1}, {Slot: 5, Gen: 0}, {Slot: 0, Gen: 2}, {Slot: 0, Gen: 4}, {Slot: 1, Gen: maxGen}, {Slot: 2, Gen: 5}, {Slot: 2, Gen: 6}, {Slot: 3, Gen: maxGen - 1}, {Slot: 3, Gen: maxGen + 1}, {Slot: 4, Gen: 1}} {
		if Holds(a, h) {
			t.Error(h)
		}
	}
	// What stands in the spare room behind an arena's slots is none of them.
	if Holds(arenaOf(a.Slots[:5]...), handle(5, 1)) {
		t.Error("spare room")
	}
}

// turns make another arena of the good one, each by one thing alone, most of them one that may not be.
func turns() []func(a *api.Arena) {
	l := []func(a *api.Arena){
		func(a *api.Arena) { a.Slots = nil },
		func(a *api.Arena) { a.Slots = a.Slots[1:] },
		func(a *api.Arena) { a.Slots = a.Slots[:5] },
		func(a *api.Arena) { a.Slots = append(a.Slots, api.Slot{}) },
		func(a *api.Arena) { a.Slots = append(a.Slots, live(1)) },
		func(a *api.Arena) { a.Slots = append(a.Slots, make([]api.Slot, 300)...) },
	}
	for i := range 6 {
		l = append(l, func(a *api.Arena) { a.Slots[i].Live = !a.Slots[i].Live })
		l = append(l, func(a *api.Arena) { a.Slots[i].Gen++ })
		l = append(l, func(a *api.Arena) { a.Slots[i].Gen = -1 })
		l = append(l, func(a *api.Arena) { a.Slots[i] = api.Slot{} })
		l = append(l, func(a *api.Arena) { a.Slots[i].Gen += 1 << 32 })
		l = append(l, func(a *api.Arena) { a.Slots[i], a.Slots[(i+1)%6] = a.Slots[(i+1)%6], a.Slots[i] })
	}
	return l
}

func turned() []api.Arena {
	all := []api.Arena{good(), {}, {Slots: []api.Slot{}}}
	for _, turn := range turns() {
		a := good()
		turn(&a)
		all = append(all, a)
	}
	return all
}

func TestP5_1Same(t *testing.T) {
	for i, a := range turned() {
		for k, b := range turned() {
			if got, want := Same(a, b), wantSame(a, b); got != want {
				t.Errorf("Same(%v, %v): %v", a, b, got)
			}
			if i == k && !Same(a, b) {
				t.Error(i)
			}
		}
		if i > 0 && Same(good(), a) {
			t.Error(i, a)
		}
	}
	if !Same(api.Arena{}, arenaOf([]api.Slot{}...)) || !Same(arenaOf([]api.Slot{}...), api.Arena{}) {
		t.Error("a list without elements may be nil or not")
	}
	if Same(api.Arena{}, arenaOf(api.Slot{})) || Same(arenaOf(api.Slot{}), api.Arena{}) {
		t.Error("a slot of zeros is one")
	}
}

func TestP5_1Twin(t *testing.T) {
	all := append(turned(), many(maxSlots, live(7)), many(maxSlots+1, dead(0)), many(5000, live(math.MinInt)))
	for _, a := range all {
		twin := Twin(a)
		if !wantSame(twin, a) || !Same(twin, a) || Check(twin) != wantCheck(a) {
			t.Errorf("Twin(%v): %v", a, twin)
		}
	}
}

func TestP5_2Examples(t *testing.T) {
	one := arenaOf(live(1))
	checkMake(t, api.Arena{}, one, handle(0, 1), api.OK)
	two := arenaOf(live(1), live(1))
	checkMake(t, one, two, handle(1, 1), api.OK)
	left := arenaOf(dead(1), live(1))
	checkKill(t, two, handle(0, 1), left, api.OK)
	again := arenaOf(live(2), live(1))
	checkMake(t, left, again, handle(0, 2), api.OK)
	if Holds(again, handle(0, 1)) || !Holds(again, handle(0, 2)) {
		t.Error("the one ahead, and the one that has it")
	}
	checkKill(t, again, handle(0, 1), api.Arena{}, api.ErrStale)
	checkKill(t, again, handle(5, 1), api.Arena{}, api.ErrStale)
	checkKill(t, left, handle(0, 1), api.Arena{}, api.ErrStale)
}

func TestP5_2MakeFirstFree(t *testing.T) {
	a, b, c := live(4), live(5), live(6)
	checkMake(t, arenaOf(dead(9), a, b, c), arenaOf(live(10), a, b, c), handle(0, 10), api.OK)
	checkMake(t, arenaOf(a, b, dead(9), c), arenaOf(a, b, live(10), c), handle(2, 10), api.OK)
	checkMake(t, arenaOf(a, b, c, dead(9)), arenaOf(a, b, c, live(10)), handle(3, 10), api.OK)
	checkMake(t, arenaOf(a, dead(9), b, dead(1), c), arenaOf(a, live(10), b, dead(1), c), handle(1, 10), api.OK)
	checkMake(t, arenaOf(a, dead(1), b, dead(9), c), arenaOf(a, live(2), b, dead(9), c), handle(1, 2), api.OK)
	checkMake(t, good(), with(good(), 2, live(6)), handle(2, 6), api.OK)
	for at := range maxSlots {
		full := many(maxSlots, live(3))
		checkMake(t, with(full, at, dead(8)), with(full, at, live(9)), handle(at, 9), api.OK)
	}
}

func TestP5_2MakeNoneFree(t *testing.T) {
	for _, s := range []api.Slot{live(1), live(maxGen - 1), live(maxGen), dead(maxGen)} {
		for n := range maxSlots {
			checkMake(t, many(n, s), with(many(n, s), n, live(1)), handle(n, 1), api.OK)
		}
		checkMake(t, many(maxSlots, s), api.Arena{}, api.Handle{}, api.ErrFull)
	}
	full := many(maxSlots, live(1))
	for at := range maxSlots {
		checkMake(t, with(full, at, dead(maxGen)), api.Arena{}, api.Handle{}, api.ErrFull)
	}
}

func TestP5_2MakeLastGen(t *testing.T) {
	last, worn := live(maxGen), dead(maxGen)
	checkMake(t, arenaOf(dead(maxGen-2)), arenaOf(live(maxGen-1)), handle(0, maxGen-1), api.OK)
	checkMake(t, arenaOf(dead(maxGen-1)), arenaOf(last), handle(0, maxGen), api.OK)
	checkKill(t, arenaOf(last), handle(0, maxGen), arenaOf(worn), api.OK)
	checkMake(t, arenaOf(worn), arenaOf(worn, live(1)), handle(1, 1), api.OK)
	checkMake(t, arenaOf(worn, dead(maxGen-1)), arenaOf(worn, last), handle(1, maxGen), api.OK)
	checkMake(t, arenaOf(live(maxGen-1), worn, last), arenaOf(live(maxGen-1), worn, last, live(1)), handle(3, 1), api.OK)
}

func TestP5_2Kill(t *testing.T) {
	for _, h := range goodHandles() {
		checkKill(t, good(), h, with(good(), h.Slot, dead(h.Gen)), api.OK)
	}
	full := many(maxSlots, live(2))
	for at := range maxSlots {
		checkKill(t, full, handle(at, 2), with(full, at, dead(2)), api.OK)
		checkKill(t, full, handle(at, 1), api.Arena{}, api.ErrStale)
		checkKill(t, full, handle(at, 3), api.Arena{}, api.ErrStale)
	}
	checkKill(t, full, handle(-1, 2), api.Arena{}, api.ErrStale)
	checkKill(t, full, handle(maxSlots, 2), api.Arena{}, api.ErrStale)
	checkKill(t, api.Arena{}, api.Handle{}, api.Arena{}, api.ErrStale)
}

func TestP5_2All(t *testing.T) {
	checkAll(t, good(), goodHandles(), api.OK)
	checkAll(t, api.Arena{}, nil, api.OK)
	checkAll(t, many(maxSlots, dead(1)), nil, api.OK)
	checkAll(t, arenaOf(live(9), live(1), live(5)), []api.Handle{{Slot: 0, Gen: 9}, {Slot: 1, Gen: 1}, {Slot: 2, Gen: 5}}, api.OK)
	l, e := All(many(maxSlots, live(maxGen)))
	if len(l) != maxSlots || e != api.OK {
		t.Fatal(len(l), e)
	}
	for i, h := range l {
		if h != handle(i, maxGen) {
			t.Error(i, h)
		}
	}
}

// An arena that may not be is told of ahead of a handle that is not held, and of a lack of room.
func TestP5_2ErrorsInOrder(t *testing.T) {
	wrong := with(many(maxSlots, live(1)), 100, live(0))
	checkMake(t, wrong, api.Arena{}, api.Handle{}, api.ErrBad)
	checkKill(t, wrong, handle(-1, 1), api.Arena{}, api.ErrBad)
	checkKill(t, wrong, handle(0, 1), api.Arena{}, api.ErrBad)
	checkKill(t, wrong, handle(100, 0), api.Arena{}, api.ErrBad)
	long := many(maxSlots+1, live(1))
	checkMake(t, long, api.Arena{}, api.Handle{}, api.ErrBad)
	checkKill(t, long, handle(maxSlots, 1), api.Arena{}, api.ErrBad)
	checkKill(t, long, handle(maxSlots+1, 1), api.Arena{}, api.ErrBad)
	// Free slots help neither of them.
	checkMake(t, with(wrong, 0, dead(1)), api.Arena{}, api.Handle{}, api.ErrBad)
	checkMake(t, with(long, 0, dead(1)), api.Arena{}, api.Handle{}, api.ErrBad)
}

func someArena(next func(int) int) api.Arena {
	gens := []int{1, 1, 2, 3, maxGen / 2, maxGen - 1, maxGen, maxGen}
	n := []int{next(6), next(maxSlots), maxSlots, maxSlots}[next(4)]
	mostly := 1 + next(12)
	l := make([]api.Slot, n)
	for i := range l {
		l[i] = api.Slot{Gen: gens[next(len(gens))], Live: next(mostly) > 0}
		// Where all are used up there is no room, though not all are Live.
		if mostly > 8 && !l[i].Live {
			l[i].Gen = maxGen
		}
	}
	return arenaOf(l...)
}

func TestP5_2ManyArenas(t *testing.T) {
	next := numbersFrom(52)
	times := map[api.Errno]int{}
	for n := range 600 {
		a := someArena(next)
		if n%3 == 0 && len(a.Slots) > 0 {
			a.Slots[next(len(a.Slots))].Gen = []int{0, -1, maxGen + 1, maxGen}[next(4)]
		}
		if wantCheck(a) != api.OK {
			checkBad(t, a)
			times[api.ErrBad]++
			continue
		}
		checkGood(t, a)
		_, f := wantMake(a)
		times[f]++
	}
	if times[api.OK] < 100 || times[api.ErrFull] < 30 || times[api.ErrBad] < 100 {
		t.Error("too few of one kind:", times)
	}
}

// roomy is an arena whose list has spare room, with what may not be in it, and the whole of that.
func roomy() (api.Arena, api.Arena) {
	whole := arenaOf(append(good().Slots, dead(-7), live(-8), live(2*maxGen))...)
	return arenaOf(whole.Slots[:6]...), whole
}

func TestP5_3OnlyRead(t *testing.T) {
	a, whole := roomy()
	kept := deep(whole)
	for range 2 {
		checkGood(t, a)
		if !Same(a, good()) || !Same(Twin(a), good()) {
			t.Error(a)
		}
	}
	// None is free in that one: what is made stands behind the others.
	none := arenaOf(whole.Slots[:2]...)
	for range 2 {
		checkMake(t, none, arenaOf(live(3), dead(maxGen), live(1)), handle(2, 1), api.OK)
	}
	checkBad(t, arenaOf(whole.Slots[:7]...))
	if !wantSame(whole, kept) {
		t.Error(whole)
	}
}

func spoil(a api.Arena) {
	l := a.Slots[:cap(a.Slots)]
	for i := range l {
		l[i] = api.Slot{Gen: -1000 - i, Live: !l[i].Live}
	}
}

// answers are the arenas that the calls answer for one arena: with a slot that was free, one more, one less, and a twin.
func answers(a api.Arena) []api.Arena {
	made, _, _ := Make(a)
	more, _, _ := Make(arenaOf(a.Slots[:2]...))
	less, _ := Kill(a, handle(0, 3))
	return []api.Arena{made, more, less, Twin(a)}
}

func wantAnswers() []api.Arena {
	return []api.Arena{with(good(), 2, live(6)), arenaOf(live(3), dead(maxGen), live(1)), with(good(), 0, dead(3)), good()}
}

func TestP5_3ArenasAreNew(t *testing.T) {
	for at := range wantAnswers() {
		a, whole := roomy()
		kept := deep(whole)
		got, others := answers(a), answers(a)
		spoil(got[at])
		if !wantSame(whole, kept) {
			t.Error(at, "what is done to an answer is seen in the argument", whole)
		}
		spoil(whole)
		for i, want := range wantAnswers() {
			if !wantSame(others[i], want) || i != at && !wantSame(got[i], want) {
				t.Error(at, i, "what is done elsewhere is seen in an answer", got[i], others[i])
			}
		}
	}
}

func TestP5_3HandlesAreNew(t *testing.T) {
	a := good()
	l, _ := All(a)
	other, _ := All(a)
	for i := range l[:cap(l)] {
		l[:cap(l)][i] = handle(-5, -6)
	}
	if !slices.Equal(other, goodHandles()) || !wantSame(a, good()) {
		t.Error(other, a)
	}
	spoil(a)
	if !slices.Equal(other, goodHandles()) {
		t.Error(other)
	}
}

// ledger has each handle that an arena gave from its beginning on, and whether it was killed.
type ledger struct {
	a      api.Arena
	killed map[api.Handle]bool
}

func (b *ledger) make(t *testing.T) {
	t.Helper()
	a, h, e := Make(b.a)
	if _, given := b.killed[h]; e != api.OK || given {
		t.Fatal("given twice, or not at all:", h, e)
	}
	b.a, b.killed[h] = a, false
}

func (b *ledger) kill(t *testing.T, h api.Handle) {
	t.Helper()
	a, e := Kill(b.a, h)
	if e != api.OK {
		t.Fatal("not held any more:", h, e)
	}
	b.a, b.killed[h] = a, true
}

// check asks for each handle that was given, whatever became of it.
func (b *ledger) check(t *testing.T) {
	t.Helper()
	if e := Check(b.a); e != api.OK {
		t.Fatal(e, b.a)
	}
	held := 0
	for h, killed := range b.killed {
		if Holds(b.a, h) == killed {
			t.Fatal("held:", !killed, h)
		}
		if !killed {
			held++
			continue
		}
		if _, e := Kill(b.a, h); e != api.ErrStale {
			t.Fatal("killed twice:", h, e)
		}
	}
	if l, e := All(b.a); len(l) != held || e != api.OK {
		t.Fatal(len(l), held, e)
	}
}

func ledgerOf(a api.Arena) *ledger {
	b := &ledger{a: a, killed: map[api.Handle]bool{}}
	for _, h := range wantAll(a) {
		b.killed[h] = false
	}
	return b
}

// turn makes one, or kills one that is held; where there is no room, making is refused.
func (b *ledger) turn(t *testing.T, next func(int) int, makes bool) {
	t.Helper()
	l := wantAll(b.a)
	_, f := wantMake(b.a)
	switch {
	case makes && f == api.OK:
		b.make(t)
	case makes:
		if _, _, e := Make(b.a); e != api.ErrFull {
			t.Fatal(e)
		}
	case len(l) > 0:
		b.kill(t, l[next(len(l))])
	}
}

func TestP5_4Turns(t *testing.T) {
	starts := []api.Arena{{}, good(), many(20, dead(maxGen-2)), many(maxSlots, live(maxGen-3)), many(maxSlots, dead(maxGen-1))}
	for seed, start := range starts {
		b := ledgerOf(start)
		next := numbersFrom(uint64(seed))
		for n := range 3000 {
			likely := []int{9, 2, 6, 4}[n/200%4]
			b.turn(t, next, next(10) < likely)
			if n%20 == 0 {
				b.check(t)
			}
		}
		b.check(t)
		if len(b.killed) < maxSlots {
			t.Error("too few were given:", seed, len(b.killed))
		}
	}
}

// One slot that is made and killed again and again gives another handle each time, till its last Gen; then it is never given again.
func TestP5_4WornOut(t *testing.T) {
	b := ledgerOf(arenaOf(dead(maxGen - 50)))
	for range 50 {
		b.make(t)
		b.check(t)
		b.kill(t, wantAll(b.a)[0])
		b.check(t)
	}
	if !wantSame(b.a, arenaOf(dead(maxGen))) {
		t.Error(b.a)
	}
	b.make(t)
	b.check(t)
	if !wantSame(b.a, arenaOf(dead(maxGen), live(1))) {
		t.Error(b.a)
	}
}

func TestP5_4UsedUp(t *testing.T) {
	b := ledgerOf(many(maxSlots, dead(maxGen-2)))
	given := 0
	for {
		_, h, e := Make(b.a)
		if e == api.ErrFull {
			break
		}
		b.make(t)
		b.kill(t, h)
		given++
	}
	b.check(t)
	if given != 2*maxSlots || !wantSame(b.a, many(maxSlots, dead(maxGen))) {
		t.Error(given, b.a)
	}
}
