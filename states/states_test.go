package states

import (
	"math"
	"slices"
	"testing"

	"diorama/api"
)

const (
	maxTextures = 16
	maxBias     = 1024
	maxBin      = 15
	maxSlots    = 128
	things5     = 5
)

// kinds are all that a style may say of a thing.
func kinds() [5]uint8 { return [5]uint8{0, 1, 3, 5, 7} }

func white() api.Look { return api.Look{Color: api.Color{255, 255, 255, 255}, Texture: -1} }

// full is a look that may be, and has a value that is not zero of each thing.
func full() api.Look {
	return api.Look{Color: api.Color{1, 2, 3, 4}, Texture: 5, Cull: 2, Bias: -9, Blend: true, Bin: 3}
}

// only is what a look has of one thing, with all else zero.
func only(l api.Look, thing int) api.Look {
	switch thing {
	case 0:
		return api.Look{Color: l.Color}
	case 1:
		return api.Look{Texture: l.Texture}
	case 2:
		return api.Look{Cull: l.Cull}
	case 3:
		return api.Look{Bias: l.Bias}
	}
	return api.Look{Blend: l.Blend, Bin: l.Bin}
}

// put makes one look of five, each of which has one thing.
func put(l [things5]api.Look) api.Look {
	return api.Look{Color: l[0].Color, Texture: l[1].Texture, Cull: l[2].Cull, Bias: l[3].Bias, Blend: l[4].Blend, Bin: l[4].Bin}
}

// putThing is a look with one thing of another one.
func putThing(l, of api.Look, thing int) api.Look {
	var parts [things5]api.Look
	for other := range parts {
		parts[other] = only(l, other)
	}
	parts[thing] = only(of, thing)
	return put(parts)
}

// styleOf is a style that says so of each thing, with the look's values where it says one.
func styleOf(say [things5]uint8, l api.Look) api.Style {
	var parts [things5]api.Look
	for thing := range things5 {
		if say[thing] != 0 {
			parts[thing] = only(l, thing)
		}
	}
	return api.Style{Say: say, Look: put(parts)}
}

// says is a style that says so of one thing, and nothing of all others.
func says(thing int, say uint8, l api.Look) api.Style {
	var all [things5]uint8
	all[thing] = say
	return styleOf(all, l)
}

// allSaid is a style that says all of a look, whatever that is.
func allSaid(l api.Look) api.Style {
	return api.Style{Say: [things5]uint8{1, 1, 1, 1, 1}, Look: l}
}

// wantLook tells whether a look may be, by the words of the chapter.
func wantLook(l api.Look) bool {
	return -1 <= l.Texture && l.Texture <= maxTextures-1 && (l.Cull == 0 || l.Cull == 1 || l.Cull == 2) &&
		-maxBias <= l.Bias && l.Bias <= maxBias && 0 <= l.Bin && l.Bin <= maxBin
}

// wantStyle tells whether a style may be, by the words of the chapter.
func wantStyle(s api.Style) bool {
	all := kinds()
	for thing, say := range s.Say {
		if !slices.Contains(all[:], say) || say == 0 && only(s.Look, thing) != (api.Look{}) {
			return false
		}
	}
	return wantLook(s.Look)
}

// wantUnder is what a style makes of a look, thing by thing, by the words of the chapter.
func wantUnder(i api.Inherit, s api.Style) api.Inherit {
	var parts [things5]api.Look
	kept := i.Kept
	for thing, say := range s.Say {
		over, free := say == 3 || say == 7, say == 5 || say == 7
		parts[thing] = only(i.Look, thing)
		if say != 0 && (!i.Kept[thing] || free) {
			parts[thing], kept[thing] = only(s.Look, thing), over
		}
	}
	return api.Inherit{Look: put(parts), Kept: kept}
}

// wantThing is what styles make of one thing, told at once by all of them, as P7.4 tells it.
func wantThing(l []api.Style, thing int) api.Look {
	value := func(at int) api.Look { return only(l[at].Look, thing) }
	f := -1
	for at, s := range l {
		if s.Say[thing] == 5 || s.Say[thing] == 7 {
			f = at
		}
	}
	if f >= 0 && l[f].Say[thing] == 7 {
		return value(f)
	}
	for at := f + 1; at < len(l); at++ {
		if l[at].Say[thing] == 3 {
			return value(at)
		}
	}
	for at := len(l) - 1; at >= 0; at-- {
		if l[at].Say[thing] != 0 {
			return value(at)
		}
	}
	return only(white(), thing)
}

func wantAlong(l []api.Style) api.Look {
	var parts [things5]api.Look
	for thing := range things5 {
		parts[thing] = wantThing(l, thing)
	}
	return put(parts)
}

// numbersFrom are numbers from 0 to most - 1, the same ones in each run.
func numbersFrom(seed uint64) func(most int) int {
	return func(most int) int {
		seed = seed*6364136223846793005 + 1442695040888963407
		return int(seed>>33) % most
	}
}

func someColor(next func(int) int) api.Color {
	var c api.Color
	for i := range c {
		c[i] = uint8(next(256))
	}
	return c
}

// someLook is a look that may be.
func someLook(next func(int) int) api.Look {
	return api.Look{
		Color:   someColor(next),
		Texture: next(maxTextures+1) - 1,
		Cull:    uint8(next(3)),
		Bias:    next(2*maxBias+1) - maxBias,
		Blend:   next(2) == 1,
		Bin:     next(maxBin + 1),
	}
}

func someSay(next func(int) int) [things5]uint8 {
	var say [things5]uint8
	for thing := range say {
		say[thing] = kinds()[next(5)]
	}
	return say
}

// someStyle is a style that may be.
func someStyle(next func(int) int) api.Style { return styleOf(someSay(next), someLook(next)) }

func someKept(next func(int) int) [things5]bool {
	var kept [things5]bool
	for thing := range kept {
		kept[thing] = next(2) == 1
	}
	return kept
}

func checkStyle(t *testing.T, s api.Style, f api.Errno) {
	t.Helper()
	if e := Check(s); e != f {
		t.Errorf("Check(%v): %d; want %d", s, e, f)
	}
}

func checkLook(t *testing.T, l api.Look, f api.Errno) {
	t.Helper()
	if e := CheckLook(l); e != f {
		t.Errorf("CheckLook(%v): %d; want %d", l, e, f)
	}
}

func checkUnder(t *testing.T, i api.Inherit, s api.Style, want api.Inherit, f api.Errno) {
	t.Helper()
	if got, e := Under(i, s); got != want || e != f {
		t.Errorf("Under(%v, %v): %v, %d; want %v, %d", i, s, got, e, want, f)
	}
}

func checkAlong(t *testing.T, l []api.Style, want api.Look, f api.Errno) {
	t.Helper()
	if got, e := Along(l); got != want || e != f {
		t.Errorf("Along(%v): %v, %d; want %v, %d", l, got, e, want, f)
	}
}

// goodLooks are looks at their bounds.
func goodLooks() []api.Look {
	return []api.Look{
		{}, white(), full(),
		{Color: api.Color{255, 0, 255, 0}}, {Color: api.Color{0, 0, 0, 1}},
		{Texture: -1}, {Texture: 1}, {Texture: maxTextures - 1},
		{Cull: 1}, {Cull: 2},
		{Bias: maxBias}, {Bias: -maxBias}, {Bias: maxBias - 1}, {Bias: 1 - maxBias}, {Bias: 1}, {Bias: -1},
		{Bin: 1}, {Bin: maxBin - 1}, {Bin: maxBin}, {Blend: true}, {Blend: true, Bin: maxBin},
		{Texture: -1, Cull: 2, Bias: -maxBias, Bin: maxBin},
		{Texture: maxTextures - 1, Cull: 2, Bias: maxBias, Blend: true, Bin: maxBin},
	}
}

// badLook is a look that may not be, for one thing of it.
type badLook struct {
	thing int
	look  api.Look
}

func badLooks() []badLook {
	var l []badLook
	for _, n := range []int{-2, maxTextures, maxTextures + 1, -maxTextures, 255, math.MaxInt, math.MinInt} {
		l = append(l, badLook{1, api.Look{Texture: n}})
	}
	for _, n := range []uint8{3, 4, 127, 128, 254, 255} {
		l = append(l, badLook{2, api.Look{Cull: n}})
	}
	for _, n := range []int{maxBias + 1, -maxBias - 1, 2048, -2048, math.MaxInt, math.MinInt} {
		l = append(l, badLook{3, api.Look{Bias: n}})
	}
	for _, n := range []int{-1, maxBin + 1, -maxBin, 255, math.MaxInt, math.MinInt} {
		l = append(l, badLook{4, api.Look{Bin: n}}, badLook{4, api.Look{Blend: true, Bin: n}})
	}
	return l
}

// badStyles are styles that may not be, each for one reason.
func badStyles() []api.Style {
	var l []api.Style
	for _, b := range badLooks() {
		l = append(l, says(b.thing, 1, b.look), says(b.thing, 7, b.look))
	}
	for thing := range things5 {
		for _, say := range []uint8{2, 4, 6, 8, 9, 255} {
			l = append(l, says(thing, say, full()))
		}
		l = append(l, api.Style{Look: only(full(), thing)})
	}
	return append(l, api.Style{Look: api.Look{Blend: true}}, api.Style{Look: api.Look{Bin: 1}})
}

func TestP7_1CheckLook(t *testing.T) {
	for _, l := range goodLooks() {
		checkLook(t, l, api.OK)
	}
	for _, b := range badLooks() {
		checkLook(t, b.look, api.ErrBad)
		checkLook(t, putThing(full(), b.look, b.thing), api.ErrBad)
	}
}

func TestP7_1CheckLookNearBounds(t *testing.T) {
	check := func(l api.Look) {
		t.Helper()
		f := api.ErrBad
		if wantLook(l) {
			f = api.OK
		}
		checkLook(t, l, f)
	}
	for n := -1100; n <= 1100; n++ {
		check(api.Look{Texture: n})
		check(api.Look{Bias: n})
		check(api.Look{Bin: n})
	}
	for n := range 256 {
		check(api.Look{Cull: uint8(n)})
		check(api.Look{Color: api.Color{uint8(n), uint8(n), uint8(n), uint8(n)}})
	}
}

func TestP7_1CheckOfGoodStyles(t *testing.T) {
	checkStyle(t, api.Style{}, api.OK)
	for _, l := range goodLooks() {
		checkStyle(t, allSaid(l), api.OK)
		for thing := range things5 {
			for _, say := range kinds() {
				checkStyle(t, says(thing, say, l), api.OK)
			}
		}
	}
}

func TestP7_1CheckOfEachSay(t *testing.T) {
	for thing := range things5 {
		for n := range 256 {
			say := uint8(n)
			f := api.ErrBad
			if say == 0 || say == 1 || say == 3 || say == 5 || say == 7 {
				f = api.OK
			}
			checkStyle(t, says(thing, say, full()), f)
			checkStyle(t, says(thing, say, api.Look{}), f)
			s := allSaid(full())
			s.Say[thing] = say
			if say == 0 { // then the values that are left are of things that are not said
				f = api.ErrBad
			}
			checkStyle(t, s, f)
		}
	}
}

func TestP7_1CheckOfLooksThatMayNotBe(t *testing.T) {
	for _, b := range badLooks() {
		checkStyle(t, allSaid(b.look), api.ErrBad)
		for _, say := range kinds() {
			checkStyle(t, says(b.thing, max(say, 1), b.look), api.ErrBad)
		}
		checkStyle(t, api.Style{Look: b.look}, api.ErrBad)
	}
}

func TestP7_1CheckOfValuesThatAreNotSaid(t *testing.T) {
	looks := []badLook{
		{0, api.Look{Color: api.Color{1}}}, {0, api.Look{Color: api.Color{0, 1}}},
		{0, api.Look{Color: api.Color{0, 0, 1}}}, {0, api.Look{Color: api.Color{0, 0, 0, 1}}},
		{1, api.Look{Texture: -1}}, {1, api.Look{Texture: 3}},
		{2, api.Look{Cull: 1}}, {2, api.Look{Cull: 2}},
		{3, api.Look{Bias: 1}}, {3, api.Look{Bias: -1}},
		{4, api.Look{Blend: true}}, {4, api.Look{Bin: 1}}, {4, api.Look{Blend: true, Bin: 1}},
	}
	for _, c := range looks {
		checkStyle(t, api.Style{Look: c.look}, api.ErrBad)
		for _, say := range []uint8{1, 3, 5, 7} {
			s := api.Style{Say: [things5]uint8{say, say, say, say, say}, Look: c.look}
			checkStyle(t, s, api.OK)
			s.Say[c.thing] = 0
			checkStyle(t, s, api.ErrBad)
			alone := api.Style{Look: c.look}
			alone.Say[c.thing] = say
			checkStyle(t, alone, api.OK)
		}
	}
}

func TestP7_1CheckOfManyStyles(t *testing.T) {
	next := numbersFrom(71)
	times := map[api.Errno]int{}
	for range 20000 {
		s := someStyle(next)
		switch next(6) {
		case 0:
			s.Say[next(things5)] = uint8(next(10))
		case 1:
			s.Look = someLook(next)
		case 2:
			s.Look.Texture = next(maxTextures+4) - 2
		case 3:
			s.Look.Bin = next(maxBin+4) - 2
		}
		f := api.ErrBad
		if wantStyle(s) {
			f = api.OK
		}
		times[f]++
		checkStyle(t, s, f)
	}
	if times[api.OK] < 1000 || times[api.ErrBad] < 1000 {
		t.Error(times)
	}
}

func TestP7_1Begin(t *testing.T) {
	if i := Begin(); i != (api.Inherit{Look: white()}) {
		t.Error(i)
	}
	checkLook(t, Begin().Look, api.OK)
}

func TestP7_2UnderOfOneThing(t *testing.T) {
	for thing := range things5 {
		for _, say := range kinds() {
			for _, kept := range []bool{false, true} {
				i := api.Inherit{Look: white()}
				i.Kept[thing] = kept
				s := says(thing, say, full())
				checkUnder(t, i, s, wantUnder(i, s), api.OK)
			}
		}
	}
}

// TestP7_2UnderOfAllTogether goes through all that can be said of the five things, and each of them kept or not.
func TestP7_2UnderOfAllTogether(t *testing.T) {
	was := api.Look{Color: api.Color{9, 8, 7, 6}, Texture: 2, Cull: 1, Bias: 77, Bin: 12}
	for n := range 100000 {
		i := api.Inherit{Look: was}
		var say [things5]uint8
		for thing, rest := 0, n; thing < things5; thing, rest = thing+1, rest/10 {
			say[thing], i.Kept[thing] = kinds()[rest%5], rest/5%2 == 1
		}
		s := styleOf(say, full())
		if got, e := Under(i, s); got != wantUnder(i, s) || e != api.OK {
			t.Fatal(i, s, got, e)
		}
	}
}

func TestP7_2UnderOfSome(t *testing.T) {
	next := numbersFrom(72)
	for range 20000 {
		i := api.Inherit{Look: someLook(next), Kept: someKept(next)}
		s := someStyle(next)
		checkUnder(t, i, s, wantUnder(i, s), api.OK)
	}
}

// Blend and Bin go together: a style that says one of them says the other one, too.
func TestP7_2BlendWithItsBin(t *testing.T) {
	i := api.Inherit{Look: api.Look{Blend: true, Bin: 7}}
	checkUnder(t, i, says(4, 1, api.Look{}), api.Inherit{}, api.OK)
	checkUnder(t, i, says(4, 1, api.Look{Bin: 2}), api.Inherit{Look: api.Look{Bin: 2}}, api.OK)
	checkUnder(t, i, says(4, 1, api.Look{Blend: true}), api.Inherit{Look: api.Look{Blend: true}}, api.OK)
	i.Kept[4] = true
	checkUnder(t, i, says(4, 3, api.Look{Bin: 2}), i, api.OK)
	checkUnder(t, i, says(4, 5, api.Look{Bin: 2}), api.Inherit{Look: api.Look{Bin: 2}}, api.OK)
}

func TestP7_2UnderRefused(t *testing.T) {
	good := []api.Inherit{Begin(), {}, {Look: full(), Kept: [things5]bool{true, true, true, true, true}}}
	for _, s := range badStyles() {
		for _, i := range good {
			checkUnder(t, i, s, api.Inherit{}, api.ErrBad)
		}
	}
	for _, b := range badLooks() {
		i := api.Inherit{Look: b.look, Kept: [things5]bool{0: true, 4: true}}
		for _, s := range []api.Style{{}, allSaid(full()), says(b.thing, 7, full()), says(0, 1, white())} {
			checkUnder(t, i, s, api.Inherit{}, api.ErrBad)
		}
		for _, s := range badStyles() {
			checkUnder(t, i, s, api.Inherit{}, api.ErrBad)
		}
	}
}

// What is kept tells nothing of whether a look may be.
func TestP7_2UnderOfAnyKept(t *testing.T) {
	for n := range 1 << things5 {
		i := api.Inherit{Look: full()}
		for thing := range things5 {
			i.Kept[thing] = n>>thing&1 == 1
		}
		checkUnder(t, i, api.Style{}, i, api.OK)
		for _, l := range goodLooks() {
			s := allSaid(l)
			checkUnder(t, i, s, wantUnder(i, s), api.OK)
		}
	}
}

func TestP7_2UnderOfLooksAtTheirBounds(t *testing.T) {
	for _, l := range goodLooks() {
		i := api.Inherit{Look: l}
		checkUnder(t, i, api.Style{}, i, api.OK)
		checkUnder(t, i, allSaid(full()), api.Inherit{Look: full()}, api.OK)
		checkUnder(t, Begin(), allSaid(l), i, api.OK)
	}
}

// colours are styles that say a colour alone, told by the colour's first letter and the Say.
func colours(words ...string) []api.Style {
	by := map[byte]api.Color{'r': {255, 0, 0, 255}, 'g': {0, 255, 0, 255}}
	var l []api.Style
	for _, w := range words {
		l = append(l, api.Style{Say: [things5]uint8{w[1] - '0'}, Look: api.Look{Color: by[w[0]]}})
	}
	return l
}

func TestP7_3Examples(t *testing.T) {
	look := func(c api.Color) api.Look { return api.Look{Color: c, Texture: -1} }
	red, green := look(api.Color{255, 0, 0, 255}), look(api.Color{0, 255, 0, 255})
	checkAlong(t, colours("r1", "g1"), green, api.OK)
	checkAlong(t, colours("r3", "g1"), red, api.OK)
	checkAlong(t, colours("r3", "g5"), green, api.OK)
	checkAlong(t, colours("r7", "g1"), red, api.OK)
	checkAlong(t, colours("r3", "g7", "r5"), red, api.OK)
	checkAlong(t, nil, white(), api.OK)
	checkAlong(t, []api.Style{}, white(), api.OK)
	checkAlong(t, []api.Style{{}}, white(), api.OK)
	checkStyle(t, api.Style{Say: [things5]uint8{2}}, api.ErrBad)
	checkStyle(t, api.Style{Look: api.Look{Texture: 3}}, api.ErrBad)
}

func TestP7_3AlongOfOne(t *testing.T) {
	for _, l := range goodLooks() {
		for _, say := range []uint8{1, 3, 5, 7} {
			s := api.Style{Say: [things5]uint8{say, say, say, say, say}, Look: l}
			checkAlong(t, []api.Style{s}, l, api.OK)
		}
	}
}

func TestP7_3AlongIsOneUnderTheOther(t *testing.T) {
	next := numbersFrom(73)
	for range 2000 {
		var l []api.Style
		i := api.Inherit{Look: white()}
		for range next(12) {
			s := someStyle(next)
			l, i = append(l, s), wantUnder(i, s)
		}
		checkAlong(t, l, i.Look, api.OK)
	}
}

func TestP7_3AlongOfMany(t *testing.T) {
	l := slices.Repeat([]api.Style{{}}, maxSlots)
	checkAlong(t, l, white(), api.OK)
	l[maxSlots-1] = allSaid(full())
	checkAlong(t, l, full(), api.OK)
	l[0] = says(3, 3, api.Look{Bias: 4})
	want := full()
	want.Bias = 4
	checkAlong(t, l, want, api.OK)
	checkAlong(t, append(l, api.Style{}), api.Look{}, api.ErrMany)
	checkAlong(t, make([]api.Style, maxSlots+1), api.Look{}, api.ErrMany)
	checkAlong(t, make([]api.Style, 5000), api.Look{}, api.ErrMany)
}

func TestP7_3AlongRefused(t *testing.T) {
	for _, bad := range badStyles() {
		checkAlong(t, []api.Style{bad}, api.Look{}, api.ErrBad)
		checkAlong(t, []api.Style{allSaid(full()), bad}, api.Look{}, api.ErrBad)
		checkAlong(t, []api.Style{bad, allSaid(full())}, api.Look{}, api.ErrBad)
		checkAlong(t, []api.Style{{}, bad, {}}, api.Look{}, api.ErrBad)
		// It is refused, too, where nothing of it would come through.
		kept := api.Style{Say: [things5]uint8{3, 3, 3, 3, 3}, Look: full()}
		checkAlong(t, []api.Style{kept, bad, kept}, api.Look{}, api.ErrBad)
		for _, at := range []int{0, 1, maxSlots / 2, maxSlots - 1} {
			l := make([]api.Style, maxSlots)
			l[at] = bad
			checkAlong(t, l, api.Look{}, api.ErrBad)
		}
		for _, at := range []int{0, maxSlots - 1, maxSlots} {
			l := make([]api.Style, maxSlots+1)
			l[at] = bad
			checkAlong(t, l, api.Look{}, api.ErrMany)
		}
	}
}

// TestP7_4EachThingOfAllKinds goes through all that up to five styles can say of one thing.
func TestP7_4EachThingOfAllKinds(t *testing.T) {
	values := []api.Look{
		{Color: api.Color{1}, Texture: 0, Cull: 0, Bias: 0, Bin: 1},
		{Color: api.Color{0, 2}, Texture: 4, Cull: 1, Bias: -3, Blend: true},
		{Color: api.Color{0, 0, 3}, Texture: -1, Cull: 2, Bias: maxBias},
		{Color: api.Color{0, 0, 0, 4}, Texture: 15, Cull: 0, Bias: 5, Bin: 15},
		{Color: api.Color{}, Texture: 8, Cull: 2, Bias: -maxBias, Blend: true, Bin: 2},
	}
	for thing := range things5 {
		for length, count := 0, 1; length <= 5; length, count = length+1, count*5 {
			for n := range count * len(values) {
				l := make([]api.Style, length)
				for at, rest := 0, n/len(values); at < length; at, rest = at+1, rest/5 {
					l[at] = says(thing, kinds()[rest%5], values[(at+n)%len(values)])
				}
				checkAlong(t, l, putThing(white(), wantThing(l, thing), thing), api.OK)
			}
		}
	}
}

func TestP7_4ManyStyles(t *testing.T) {
	next := numbersFrom(74)
	for range 1500 {
		l := make([]api.Style, next(maxSlots+1))
		// How seldom a style sets free tells how far back the deciding one lies.
		seldom := 1 + next(40)
		for at := range l {
			say := someSay(next)
			for thing, s := range say {
				if s >= 5 && next(seldom) != 0 {
					say[thing] = s - 4
				}
				if say[thing] == 3 && next(seldom) != 0 {
					say[thing] = uint8(next(2))
				}
			}
			l[at] = styleOf(say, someLook(next))
		}
		checkAlong(t, l, wantAlong(l), api.OK)
	}
}

// The first that keeps a thing holds it to the end, unless one sets it free.
func TestP7_4FarApart(t *testing.T) {
	for thing := range things5 {
		l := slices.Repeat([]api.Style{says(thing, 1, white())}, maxSlots)
		l[0] = says(thing, 3, full())
		want := putThing(white(), full(), thing)
		checkAlong(t, l, want, api.OK)
		l[maxSlots-1] = says(thing, 5, white())
		checkAlong(t, l, white(), api.OK)
		l[maxSlots-2] = says(thing, 7, full())
		l[maxSlots-1] = says(thing, 3, white())
		checkAlong(t, l, want, api.OK)
	}
}

func TestP7_5NothingSaidChangesNothing(t *testing.T) {
	next := numbersFrom(75)
	for range 3000 {
		i := api.Inherit{Look: someLook(next), Kept: someKept(next)}
		checkUnder(t, i, api.Style{}, i, api.OK)
	}
	checkUnder(t, Begin(), api.Style{}, Begin(), api.OK)
	checkUnder(t, api.Inherit{}, api.Style{}, api.Inherit{}, api.OK)
}

func TestP7_5NothingSaidAmongOthers(t *testing.T) {
	next := numbersFrom(76)
	for range 2000 {
		var plain, among []api.Style
		for range next(10) {
			s := someStyle(next)
			plain = append(plain, s)
			among = append(among, slices.Repeat([]api.Style{{}}, next(4))...)
			among = append(among, s)
		}
		among = append(among, slices.Repeat([]api.Style{{}}, next(4))...)
		want, e := Along(plain)
		if e != api.OK {
			t.Fatal(plain, e)
		}
		checkAlong(t, among, want, api.OK)
	}
}

func TestMemory(t *testing.T) {
	next := numbersFrom(77)
	for n := range 500 {
		room := make([]api.Style, maxSlots+20)
		for at := range room {
			room[at] = someStyle(next)
		}
		l := room[:next(maxSlots+3)]
		if n%3 == 0 && len(l) > 0 {
			l[next(len(l))].Say[0] = 2
		}
		was := slices.Clone(room)
		first, e := Along(l)
		if !slices.Equal(room, was) {
			t.Fatal("Along changed its list, or its spare room")
		}
		// R2: nothing is left of the call ahead.
		if again, f := Along(slices.Clone(l)); again != first || f != e {
			t.Fatal(first, e, again, f)
		}
	}
}
