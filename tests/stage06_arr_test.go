package tests

import (
	"fmt"
	"math"
	"slices"
	"testing"

	"loop.example/g00398/impl"
)

const (
	mostOfAnArr = 60000
	mostFuse    = 1000
	firstStripe = 6
)

// wantNewArr is what the document says of a new array, sector by sector.
func wantNewArr(id int, g impl.Geo) impl.Arr {
	a := impl.Arr{Id: id, G: g, Lost: -1, Fuse: -1}
	for role := range g.N {
		m := impl.Mem{Secs: make([][]int, firstStripe+g.S)}
		m.Secs[0] = wantSuperWords(impl.Super{Id: id, Role: role, N: g.N, S: g.S, Lost: -1})
		for s := range g.S {
			m.Secs[firstStripe+s] = []int{0}
		}
		a.Mems = append(a.Mems, m)
	}
	return a
}

// wantArrOk is what the document says of an Arr, reason by reason.
func wantArrOk(a impl.Arr) bool {
	if !within(a.G.N, fewestDisks, mostDisks) || !within(a.G.S, 1, impl.MaxStripes) || len(a.Mems) != a.G.N {
		return false
	}
	for i, m := range a.Mems {
		if !impl.MemOk(m) || len(m.Secs) != 2+impl.Slots+a.G.S || m.Failed && a.Lost != i && !a.Broken {
			return false
		}
	}
	if !within(a.Id, 1, mostOfAnArr) || !within(a.Lost, -1, a.G.N-1) || !within(a.Built, 0, a.G.S) || a.Lost == -1 && a.Built != 0 {
		return false
	}
	for _, n := range []int{a.Seq, a.Tail, a.Gen} {
		if !within(n, 0, mostOfAnArr) {
			return false
		}
	}
	last := -1
	for _, e := range a.Dirty {
		if e.Stripe <= last || e.Stripe >= a.G.S || len(e.Data) != a.G.N-1 || slices.ContainsFunc(e.Data, func(n int) bool { return !within(n, 0, 65535) }) {
			return false
		}
		last = e.Stripe
	}
	return a.Tail <= a.Seq && a.Seq <= a.Tail+impl.Slots && within(a.Fuse, -1, mostFuse)
}

// filled answers an array whose stripes are even, and what each disk holds of
// each stripe. Of some the word is only in the cache, above another one.
func filled(g impl.Geo, next func(int) int) (impl.Arr, [][]int) {
	a, held := wantNewArr(arrayId, g), [][]int{}
	for s, disks := range laidOut(g) {
		words, parity := make([]int, g.N), 0
		for m, block := range disks {
			if block >= 0 {
				words[m] = next(65536)
				parity ^= words[m]
			}
		}
		words[slices.Index(disks, -1)] = parity
		for m, w := range words {
			if next(3) == 0 {
				a.Mems[m].Cache = append(a.Mems[m].Cache, impl.Wr{N: firstStripe + s, S: []int{w}})
				w = next(65536)
			}
			a.Mems[m].Secs[firstStripe+s] = []int{w}
		}
		held = append(held, words)
	}
	return a, held
}

// blocksOf answers the words of a stripe's blocks in their order, of what each
// disk holds.
func blocksOf(g impl.Geo, s int, words []int) []int {
	out, first := make([]int, g.N-1), s*(g.N-1)
	for m, block := range laidOut(g)[s] {
		if block >= 0 {
			out[block-first] = words[m]
		}
	}
	return out
}

// withMem answers a with this disk changed, and a as it was.
func withMem(a impl.Arr, m int, change func(*impl.Mem)) impl.Arr {
	a.Mems = slices.Clone(a.Mems)
	x := a.Mems[m]
	x.Secs, x.Cache, x.Bad = slices.Clone(x.Secs), slices.Clone(x.Cache), slices.Clone(x.Bad)
	change(&x)
	a.Mems[m] = x
	return a
}

func withLost(a impl.Arr, m, built int) impl.Arr {
	a.Lost, a.Built = m, built
	return a
}

func withFailed(a impl.Arr, m int) impl.Arr {
	return withMem(a, m, func(x *impl.Mem) { x.Failed = true })
}

func withSector(a impl.Arr, m, n int, words ...int) impl.Arr {
	return withMem(a, m, func(x *impl.Mem) {
		x.Cache = slices.DeleteFunc(x.Cache, func(w impl.Wr) bool { return w.N == n })
		x.Secs[n] = words
	})
}

func withWr(a impl.Arr, m, n int, words ...int) impl.Arr {
	return withMem(a, m, func(x *impl.Mem) { x.Cache = append(x.Cache, impl.Wr{N: n, S: words}) })
}

func withBad(a impl.Arr, m, n int) impl.Arr {
	return withMem(a, m, func(x *impl.Mem) {
		x.Bad = append(x.Bad, n)
		slices.Sort(x.Bad)
	})
}

// A lack is a way in which a disk has no word of a stripe. One that loses the
// whole disk cannot come twice.
type lack struct {
	name string
	lost bool
	of   func(a impl.Arr, m, s int) impl.Arr
}

func lacks() []lack {
	at := func(s int) int { return firstStripe + s }
	return []lack{
		{"Failed and Lost", true, func(a impl.Arr, m, s int) impl.Arr { return withLost(withFailed(a, m), m, 0) }},
		{"Failed and Lost, built above it", true, func(a impl.Arr, m, s int) impl.Arr { return withLost(withFailed(a, m), m, s+1) }},
		{"Failed and Lost, all built", true, func(a impl.Arr, m, s int) impl.Arr { return withLost(withFailed(a, m), m, a.G.S) }},
		{"Lost, nothing built", true, func(a impl.Arr, m, s int) impl.Arr { return withLost(a, m, 0) }},
		{"Lost, built up to it", true, func(a impl.Arr, m, s int) impl.Arr { return withLost(a, m, s) }},
		{"Lost, another word in its place", true, func(a impl.Arr, m, s int) impl.Arr { return withLost(withSector(a, m, at(s), 65535), m, s) }},
		{"Bad", false, func(a impl.Arr, m, s int) impl.Arr { return withBad(a, m, at(s)) }},
		{"Bad, with another word in the cache", false, func(a impl.Arr, m, s int) impl.Arr { return withBad(withWr(a, m, at(s), 65535), m, at(s)) }},
		{"no word", false, func(a impl.Arr, m, s int) impl.Arr { return withSector(a, m, at(s)) }},
		{"no word in the cache", false, func(a impl.Arr, m, s int) impl.Arr { return withWr(withSector(a, m, at(s), 5), m, at(s)) }},
		{"two words", false, func(a impl.Arr, m, s int) impl.Arr { return withSector(a, m, at(s), 5, 6) }},
		{"two words in the cache", false, func(a impl.Arr, m, s int) impl.Arr { return withWr(withSector(a, m, at(s), 5), m, at(s), 7, 8) }},
		{"as many words as there can be", false, func(a impl.Arr, m, s int) impl.Arr { return withSector(a, m, at(s), upTo(impl.MaxSec)...) }},
	}
}

func noWords(l []int, ok bool) bool { return len(l) == 0 && !ok }

// wantStripe asks for the words of a stripe, those of its blocks among them.
func wantStripe(t *testing.T, name string, a impl.Arr, s int, words []int) {
	t.Helper()
	if l, ok := impl.Words(a, s); !ok || !slices.Equal(l, words) {
		t.Fatal(name, a.G, "stripe", s, "Words:", l, ok, "not", words)
	}
	if l, ok := impl.DataOf(a, s); !ok || !slices.Equal(l, blocksOf(a.G, s, words)) {
		t.Fatal(name, a.G, "stripe", s, "DataOf:", l, ok, "of", words)
	}
}

func wantNoStripe(t *testing.T, name string, a impl.Arr, s int) {
	t.Helper()
	if l, ok := impl.Words(a, s); !noWords(l, ok) {
		t.Fatal(name, a.G, "stripe", s, "Words:", l, ok)
	}
	if l, ok := impl.DataOf(a, s); !noWords(l, ok) {
		t.Fatal(name, a.G, "stripe", s, "DataOf:", l, ok)
	}
}

func TestArrNew(t *testing.T) {
	for _, g := range rightGeos() {
		for _, id := range []int{1, 2, arrayId, mostOfAnArr - 1, mostOfAnArr} {
			a := impl.ArrNew(id, g)
			if !alike(a, wantNewArr(id, g)) || !impl.ArrOk(a) {
				t.Error(id, g, a)
			}
		}
		for _, id := range append([]int{0, -1, mostOfAnArr + 1, mostOfAnArr + 2, 65536}, far()...) {
			if a := impl.ArrNew(id, g); !alike(a, impl.Arr{}) || impl.ArrOk(a) {
				t.Error("wrong id", id, g, a)
			}
		}
	}
	for _, g := range append(wrongGeos(), impl.Geo{}) {
		for _, id := range []int{0, 1, mostOfAnArr, mostOfAnArr + 1} {
			if a := impl.ArrNew(id, g); !alike(a, impl.Arr{}) || impl.ArrOk(a) {
				t.Error("wrong Geo", id, g, a)
			}
		}
	}
}

func TestNewArrAsItIsTold(t *testing.T) {
	for _, g := range rightGeos() {
		a := impl.ArrNew(5, g)
		if len(a.Mems) != g.N || a.Lost != -1 || a.Fuse != -1 || a.Down || a.Broken || a.Seq+a.Tail+a.Gen+a.Built+len(a.Dirty) != 0 {
			t.Fatal(g, a)
		}
		for role, m := range a.Mems {
			if len(m.Cache) != 0 || len(m.Bad) != 0 || m.Failed || len(m.Secs) != 2+impl.Slots+g.S {
				t.Error(g, role, m)
			}
			if s, ok := impl.BestSuper(m, 5); !ok || s != (impl.Super{Id: 5, Role: role, N: g.N, S: g.S, Lost: -1}) {
				t.Error(g, role, s, ok)
			}
			if s, ok := impl.BestSuper(impl.FallMem(m, 0), 5); !ok || s.Role != role {
				t.Error("not flushed", g, role, s, ok)
			}
			// Neither an elder Super nor a record is there.
			for n := 1; n < firstStripe; n++ {
				if s, ok := impl.ReadSec(m, n); !ok || len(s) != 0 {
					t.Error(g, role, n, s, ok)
				}
			}
		}
		for s := range g.S {
			wantStripe(t, "new", a, s, make([]int, g.N))
		}
	}
}

// rightArrs answers arrays that are ArrOk: each edge that the document names,
// in arrays of all kinds.
func rightArrs() []impl.Arr {
	l, next := []impl.Arr{}, drawn(17)
	for _, g := range rightGeos() {
		a, _ := filled(g, next)
		l = append(l, wantNewArr(1, g), wantNewArr(mostOfAnArr, g), a)
		for m := range g.N {
			for _, built := range []int{0, g.S - 1, g.S} {
				l = append(l, withLost(a, m, built), withLost(withFailed(a, m), m, built))
			}
		}
		l = append(l, arrsOfNumbers(a)...)
		l = append(l, arrsOfDirty(a)...)
		l = append(l, arrsThatBroke(a)...)
	}
	return l
}

func arrsOfNumbers(a impl.Arr) []impl.Arr {
	l := []impl.Arr{}
	for _, tail := range []int{0, 1, 777, mostOfAnArr - impl.Slots - 1, mostOfAnArr - impl.Slots, mostOfAnArr - 1, mostOfAnArr} {
		for recs := 0; recs <= impl.Slots && tail+recs <= mostOfAnArr; recs++ {
			a.Tail, a.Seq, a.Gen = tail, tail+recs, mostOfAnArr-tail
			l = append(l, a)
		}
	}
	for _, fuse := range []int{-1, 0, 1, mostFuse - 1, mostFuse} {
		for _, down := range []bool{false, true} {
			a.Fuse, a.Down = fuse, down
			l = append(l, a)
		}
	}
	return l
}

func arrsOfDirty(a impl.Arr) []impl.Arr {
	l, all := []impl.Arr{}, []impl.Ent{}
	for s := range a.G.S {
		e := impl.Ent{Stripe: s, Data: upTo(a.G.N - 1)}
		e.Data[0], e.Data[len(e.Data)-1] = 65535, 0
		all = append(all, e)
		a.Dirty = []impl.Ent{e}
		l = append(l, a)
	}
	a.Dirty = all
	return append(l, a)
}

// arrsThatBroke may have any disk Failed, or none.
func arrsThatBroke(a impl.Arr) []impl.Arr {
	a.Broken = true
	l := []impl.Arr{a, withLost(a, 0, a.G.S)}
	for m := range a.G.N {
		l = append(l, withFailed(a, m), withLost(withFailed(a, m), (m+1)%a.G.N, 0), withLost(withFailed(withFailed(a, m), (m+1)%a.G.N), m, 1))
	}
	all := a
	for m := range a.G.N {
		all = withFailed(all, m)
	}
	return append(l, all)
}

// cornerArrs are right, new or full, lost or not, Broken or not.
func cornerArrs() []impl.Arr {
	small, _ := filled(impl.Geo{N: fewestDisks, S: 1}, drawn(19))
	great, _ := filled(impl.Geo{N: mostDisks, S: impl.MaxStripes}, drawn(23))
	great.Id, great.Tail, great.Seq, great.Gen, great.Fuse, great.Down = mostOfAnArr, mostOfAnArr-impl.Slots, mostOfAnArr, mostOfAnArr, mostFuse, true
	great.Dirty = arrsOfDirty(great)[impl.MaxStripes].Dirty
	broken := withFailed(withFailed(great, 0), 3)
	broken.Broken = true
	return []impl.Arr{
		wantNewArr(arrayId, impl.Geo{N: 4, S: 6}),
		small,
		withLost(withFailed(small, 2), 2, 1),
		great,
		withLost(great, 4, impl.MaxStripes),
		withLost(great, 0, 0),
		withLost(broken, 3, 0),
	}
}

// wrongArrs answers Arrs that are not ArrOk, for each reason that the document
// gives: of each there is one that is wrong for it alone.
func wrongArrs() map[string]impl.Arr {
	l := map[string]impl.Arr{"the zero one": {}}
	for i, a := range cornerArrs() {
		for _, part := range []map[string]impl.Arr{wrongByNumbers(a), wrongByGeo(a), wrongByMems(a), wrongByDirty(a)} {
			for name, x := range part {
				l[fmt.Sprint(i, " ", name)] = x
			}
		}
	}
	return l
}

func wrongByNumbers(a impl.Arr) map[string]impl.Arr {
	l := map[string]impl.Arr{}
	put := func(name string, of func(*impl.Arr) *int, wrong ...int) {
		for _, n := range append(wrong, far()...) {
			x := a
			*of(&x) = n
			l[fmt.Sprint(name, " ", n)] = x
		}
	}
	put("Id", func(x *impl.Arr) *int { return &x.Id }, 0, -1, 60001, 60002, 65536)
	put("Lost", func(x *impl.Arr) *int { return &x.Lost }, -2, -3, a.G.N, a.G.N+1)
	put("Built", func(x *impl.Arr) *int { return &x.Built }, -1, -2, a.G.S+1, a.G.S+2)
	put("Gen", func(x *impl.Arr) *int { return &x.Gen }, -1, -2, 60001, 60002, 65536)
	put("Fuse", func(x *impl.Arr) *int { return &x.Fuse }, -2, -3, 1001, 1002, 60000)
	put("Seq", func(x *impl.Arr) *int { return &x.Seq }, a.Tail-1, a.Tail-2, a.Tail+impl.Slots+1, a.Tail+impl.Slots+2)
	put("Tail", func(x *impl.Arr) *int { return &x.Tail }, a.Seq+1, a.Seq+2, a.Seq-impl.Slots-1, a.Seq-impl.Slots-2)
	if a.Lost == -1 {
		put("Built of nothing", func(x *impl.Arr) *int { return &x.Built }, 1, a.G.S)
	}
	// As many records as can be, but their numbers go past the limits.
	for _, c := range []struct{ tail, seq int }{{-1, -1}, {-1, 0}, {-1, 3}, {-4, 0}, {60001, 60001}, {60000, 60001}, {59997, 60001}, {math.MinInt, math.MaxInt}, {math.MaxInt, math.MinInt}, {math.MaxInt, math.MinInt + 2}, {math.MinInt, math.MinInt}, {math.MaxInt, math.MaxInt}} {
		x := a
		x.Tail, x.Seq = c.tail, c.seq
		l[fmt.Sprint("records ", c)] = x
	}
	return l
}

// wrongByGeo has the disks, sectors and Dirty that would be right, so far as
// there can be any.
func wrongByGeo(a impl.Arr) map[string]impl.Arr {
	l := map[string]impl.Arr{}
	for _, g := range wrongGeos() {
		x := a
		x.G = g
		l[fmt.Sprint("Geo ", g)] = x
		if !within(g.N, 0, 7) || !within(g.S, 0, 10) {
			continue
		}
		for _, lost := range []int{-1, 0} {
			x = wantNewArr(arrayId, g)
			x.Lost = lost
			l[fmt.Sprint("Geo and disks ", g, lost)] = x
		}
	}
	return l
}

func wrongByMems(a impl.Arr) map[string]impl.Arr {
	l := map[string]impl.Arr{}
	put := func(name string, mems []impl.Mem) {
		x := a
		x.Mems = mems
		l[name] = x
	}
	put("no disk", nil)
	put("one disk less", slices.Clone(a.Mems[:a.G.N-1]))
	put("one disk less, behind it the last", a.Mems[:a.G.N-1])
	put("one disk more", append(slices.Clone(a.Mems), a.Mems[1]))
	put("twice the disks", slices.Concat(a.Mems, a.Mems))
	less, more := []impl.Mem{}, []impl.Mem{}
	for m := range a.Mems {
		fewer := sectorLess(a, m)
		further := sectorMore(a, m)
		less, more = append(less, fewer.Mems[m]), append(more, further.Mems[m])
		l[fmt.Sprint("a sector less ", m)], l[fmt.Sprint("a sector more ", m)] = fewer, further
		for name, change := range wrongChanges(a.G) {
			l[fmt.Sprint(name, " ", m)] = withMem(a, m, change)
		}
		if m != a.Lost && !a.Broken {
			l[fmt.Sprint("Failed, not Lost ", m)] = withFailed(a, m)
		}
	}
	put("a sector less each", less)
	put("a sector more each", more)
	return l
}

// sectorLess has nothing in the cache, so that it is still MemOk.
func sectorLess(a impl.Arr, m int) impl.Arr {
	return withMem(a, m, func(x *impl.Mem) { x.Secs, x.Cache = x.Secs[:len(x.Secs)-1], nil })
}

func sectorMore(a impl.Arr, m int) impl.Arr {
	return withMem(a, m, func(x *impl.Mem) { x.Secs = append(x.Secs, []int{0}) })
}

func wrongChanges(g impl.Geo) map[string]func(*impl.Mem) {
	secs := firstStripe + g.S
	return map[string]func(*impl.Mem){
		"no sectors":           func(x *impl.Mem) { *x = impl.Mem{} },
		"no sectors, Failed":   func(x *impl.Mem) { *x = impl.Mem{Failed: true} },
		"a word too great":     func(x *impl.Mem) { x.Secs[secs-1] = []int{65536} },
		"a word below 0":       func(x *impl.Mem) { x.Secs[0] = []int{-1} },
		"too many words":       func(x *impl.Mem) { x.Secs[3] = upTo(impl.MaxSec + 1) },
		"too many Wrs":         func(x *impl.Mem) { x.Cache = wrsOf(mostWrs+1, secs) },
		"a Wr at the end":      func(x *impl.Mem) { x.Cache = append(x.Cache, impl.Wr{N: secs}) },
		"a Wr below 0":         func(x *impl.Mem) { x.Cache = append(x.Cache, impl.Wr{N: -1}) },
		"a Wr of a wrong word": func(x *impl.Mem) { x.Cache = append(x.Cache, impl.Wr{S: []int{65536}}) },
		"Bad twice":            func(x *impl.Mem) { x.Bad = []int{6, 6} },
		"Bad falls":            func(x *impl.Mem) { x.Bad = []int{6, 5} },
		"Bad at the end":       func(x *impl.Mem) { x.Bad = []int{secs} },
		"too many sectors":     func(x *impl.Mem) { *x = memOf(impl.MaxSecs+1, nil) },
	}
}

func wrongByDirty(a impl.Arr) map[string]impl.Arr {
	l := map[string]impl.Arr{}
	put := func(name string, dirty ...impl.Ent) {
		x := a
		x.Dirty = dirty
		l["Dirty: "+name] = x
	}
	ent := func(s int) impl.Ent { return impl.Ent{Stripe: s, Data: upTo(a.G.N - 1)} }
	last := a.G.S - 1
	put("twice", ent(last), ent(last))
	put("twice the first", ent(0), ent(0))
	if last > 0 {
		put("out of order", ent(1), ent(0))
		put("twice at last", ent(0), ent(last), ent(last))
		put("the first again", ent(0), ent(last), ent(0))
	}
	for _, s := range append([]int{-1, -2, a.G.S, a.G.S + 1, a.G.S + 1000}, far()...) {
		put(fmt.Sprint("stripe ", s), ent(s))
	}
	put("below 0, then 0", ent(-1), ent(0))
	put("the last, then past it", ent(last), ent(a.G.S))
	for n := range mostDisks + 8 {
		if n != a.G.N-1 {
			put(fmt.Sprint("words: ", n), impl.Ent{Stripe: last, Data: upTo(n)})
		}
	}
	put("too few words, the others behind", impl.Ent{Stripe: 0, Data: upTo(a.G.N - 1)[:a.G.N-2]})
	for _, w := range wrongWords() {
		for at := range a.G.N - 1 {
			e := ent(0)
			e.Data[at] = w
			put(fmt.Sprint("word ", w, " at ", at), e)
		}
	}
	return l
}

func TestArrOk(t *testing.T) {
	for _, a := range append(rightArrs(), cornerArrs()...) {
		if !impl.ArrOk(a) || !wantArrOk(a) {
			t.Error("refused", a)
		}
	}
	for _, a := range cornerArrs() {
		if !impl.ArrOk(roomy(a)) {
			t.Error("what lies behind was read", a)
		}
	}
	for name, a := range wrongArrs() {
		if impl.ArrOk(a) || wantArrOk(a) {
			t.Error("accepted:", name)
		}
	}
	for name, a := range wrongArrs() {
		if impl.ArrOk(roomy(a)) {
			t.Error("what lies behind was read:", name)
		}
	}
}

func TestArrOkAtEachEdge(t *testing.T) {
	g := impl.Geo{N: 4, S: 3}
	for _, c := range []struct {
		name   string
		ok     bool
		change func(*impl.Arr)
	}{
		{"Id 0", false, func(a *impl.Arr) { a.Id = 0 }},
		{"Id 1", true, func(a *impl.Arr) { a.Id = 1 }},
		{"Id 60000", true, func(a *impl.Arr) { a.Id = 60000 }},
		{"Id 60001", false, func(a *impl.Arr) { a.Id = 60001 }},
		{"Lost -2", false, func(a *impl.Arr) { a.Lost = -2 }},
		{"Lost -1", true, func(a *impl.Arr) { a.Lost = -1 }},
		{"Lost N less 1", true, func(a *impl.Arr) { a.Lost = 3 }},
		{"Lost N", false, func(a *impl.Arr) { a.Lost = 4 }},
		{"Built -1", false, func(a *impl.Arr) { a.Lost, a.Built = 1, -1 }},
		{"Built 0", true, func(a *impl.Arr) { a.Lost, a.Built = 1, 0 }},
		{"Built S", true, func(a *impl.Arr) { a.Lost, a.Built = 1, 3 }},
		{"Built S and 1", false, func(a *impl.Arr) { a.Lost, a.Built = 1, 4 }},
		{"Built 1 of none", false, func(a *impl.Arr) { a.Built = 1 }},
		{"Built S of none", false, func(a *impl.Arr) { a.Built = 3 }},
		{"Built -1 of none", false, func(a *impl.Arr) { a.Built = -1 }},
		{"Gen -1", false, func(a *impl.Arr) { a.Gen = -1 }},
		{"Gen 60000", true, func(a *impl.Arr) { a.Gen = 60000 }},
		{"Gen 60001", false, func(a *impl.Arr) { a.Gen = 60001 }},
		{"Seq and Tail -1", false, func(a *impl.Arr) { a.Seq, a.Tail = -1, -1 }},
		{"Seq and Tail 60000", true, func(a *impl.Arr) { a.Seq, a.Tail = 60000, 60000 }},
		{"Seq and Tail 60001", false, func(a *impl.Arr) { a.Seq, a.Tail = 60001, 60001 }},
		{"Seq 60001", false, func(a *impl.Arr) { a.Seq, a.Tail = 60001, 60000 }},
		{"Tail -1", false, func(a *impl.Arr) { a.Seq, a.Tail = 0, -1 }},
		{"one record", true, func(a *impl.Arr) { a.Seq, a.Tail = 8, 7 }},
		{"Slots records", true, func(a *impl.Arr) { a.Seq, a.Tail = 11, 7 }},
		{"one more than Slots", false, func(a *impl.Arr) { a.Seq, a.Tail = 12, 7 }},
		{"Tail above Seq", false, func(a *impl.Arr) { a.Seq, a.Tail = 6, 7 }},
		{"Fuse -2", false, func(a *impl.Arr) { a.Fuse = -2 }},
		{"Fuse -1", true, func(a *impl.Arr) { a.Fuse = -1 }},
		{"Fuse 0", true, func(a *impl.Arr) { a.Fuse = 0 }},
		{"Fuse 1000", true, func(a *impl.Arr) { a.Fuse = 1000 }},
		{"Fuse 1001", false, func(a *impl.Arr) { a.Fuse = 1001 }},
		{"Down", true, func(a *impl.Arr) { a.Down = true }},
		{"Broken", true, func(a *impl.Arr) { a.Broken = true }},
		{"Failed", false, func(a *impl.Arr) { a.Mems[3].Failed = true }},
		{"Failed and Lost", true, func(a *impl.Arr) { a.Mems[3].Failed, a.Lost = true, 3 }},
		{"Failed, another Lost", false, func(a *impl.Arr) { a.Mems[3].Failed, a.Lost = true, 2 }},
		{"Failed, Broken", true, func(a *impl.Arr) { a.Mems[3].Failed, a.Broken = true, true }},
		{"two Failed, one Lost", false, func(a *impl.Arr) { a.Mems[3].Failed, a.Mems[0].Failed, a.Lost = true, true, 3 }},
		{"two Failed, one Lost, Broken", true, func(a *impl.Arr) { a.Mems[3].Failed, a.Mems[0].Failed, a.Lost, a.Broken = true, true, 3, true }},
		{"Dirty", true, func(a *impl.Arr) { a.Dirty = []impl.Ent{{Stripe: 0, Data: upTo(3)}, {Stripe: 2, Data: upTo(3)}} }},
		{"Dirty of no words", false, func(a *impl.Arr) { a.Dirty = []impl.Ent{{}} }},
		{"Dirty of the stripe S", false, func(a *impl.Arr) { a.Dirty = []impl.Ent{{Stripe: 3, Data: upTo(3)}} }},
		{"what would be wrong is cut off", true, func(a *impl.Arr) {
			a.Dirty = []impl.Ent{{Stripe: 2, Data: []int{1, 2, 3, -1}[:3]}, {Stripe: 1}}[:1]
			a.Mems = append(a.Mems, impl.Mem{})[:4]
		}},
	} {
		a := wantNewArr(arrayId, g)
		c.change(&a)
		if impl.ArrOk(a) != c.ok {
			t.Error(c.name, impl.ArrOk(a))
		}
	}
}

// Whatever the numbers are together, ArrOk is what the document says.
func TestArrOkOfAllEdges(t *testing.T) {
	next, oks := drawn(29), 0
	pick := func(l ...int) int { return l[next(len(l))] }
	for range 100000 {
		g := impl.Geo{N: pick(3, 3, 4, 5), S: pick(1, 2, 8)}
		a := wantNewArr(pick(1, 1, 60000, 60000, 0, 60001), g)
		a.Lost = pick(-1, -1, 0, 1, g.N-1, g.N-1, g.N, -2)
		a.Built = pick(0, 0, 0, 1, g.S, g.S+1, -1)
		a.Tail = pick(0, 0, 5, 59996, 60000, 59997, -1)
		a.Seq = a.Tail + pick(0, 1, 2, 3, 4, 4, 5, -1)
		a.Gen, a.Fuse = pick(0, 1, 60000, 60000, 60001, -1), pick(-1, -1, 0, 1000, 1000, 1001, -2)
		a.Broken, a.Down = next(3) == 0, next(3) == 0
		if next(3) == 0 {
			a.Mems[next(g.N)].Failed = true
		}
		for range next(3) {
			a.Dirty = append(a.Dirty, impl.Ent{Stripe: pick(0, 0, 1, g.S-1, g.S-1, g.S), Data: make([]int, pick(g.N-1, g.N-1, g.N-1, g.N))})
		}
		ok := impl.ArrOk(a)
		if ok != wantArrOk(a) {
			t.Fatal(a, ok)
		}
		if ok {
			oks++
		}
	}
	if oks < 1000 {
		t.Error("few were right:", oks)
	}
}

// wantLive is LiveAt by the document's words: neither the Geo nor whether there
// is such a stripe is asked.
func wantLive(a impl.Arr, m, s int) bool {
	if m < 0 || m >= len(a.Mems) || a.Mems[m].Failed {
		return false
	}
	return m != a.Lost || s < a.Built
}

func TestLiveAt(t *testing.T) {
	all := append(rightArrs(), cornerArrs()...)
	for _, a := range wrongArrs() {
		all = append(all, a)
	}
	for _, a := range all {
		disks := append(outside(len(a.Mems)), a.G.N-1, a.G.N, a.Lost)
		for m := range a.Mems {
			disks = append(disks, m)
		}
		for _, m := range disks {
			for _, s := range []int{math.MinInt, -1, 0, 1, a.Built - 1, a.Built, a.Built + 1, a.G.S - 1, a.G.S, math.MaxInt} {
				if impl.LiveAt(a, m, s) != wantLive(a, m, s) {
					t.Fatal(a, "disk", m, "stripe", s, "not", wantLive(a, m, s))
				}
			}
		}
	}
}

func TestLiveAtOfEachState(t *testing.T) {
	g := impl.Geo{N: 4, S: 5}
	a := wantNewArr(arrayId, g)
	lost := withLost(a, 2, 3)
	failing := withLost(withFailed(a, 2), 2, 3)
	for _, c := range []struct {
		a    impl.Arr
		m, s int
		live bool
	}{
		{a, -1, 0, false}, {a, 0, 0, true}, {a, 3, 4, true}, {a, 4, 0, false},
		{lost, 2, 0, true}, {lost, 2, 2, true}, {lost, 2, 3, false}, {lost, 2, 4, false},
		{lost, 0, 4, true}, {lost, 3, 0, true}, {lost, 4, 0, false}, {lost, -1, 0, false},
		{failing, 2, 0, false}, {failing, 2, 2, false}, {failing, 2, 3, false}, {failing, 1, 3, true},
		{withLost(a, 2, 0), 2, 0, false}, {withLost(a, 2, 5), 2, 4, true},
		// Where none is Lost, the one that is none is not there all the same.
		{withLost(a, -1, 3), -1, 0, false}, {withLost(a, 4, 3), 4, 0, false},
		{withFailed(a, 1), 1, 0, false}, {withFailed(a, 1), 0, 0, true},
		{impl.Arr{}, 0, 0, false}, {impl.Arr{}, 0, -1, false}, {impl.Arr{G: g}, 0, 0, false},
	} {
		if impl.LiveAt(c.a, c.m, c.s) != c.live {
			t.Error(c.a, "disk", c.m, "stripe", c.s, "not", c.live)
		}
	}
	// One disk less than the Geo says: the last is not there, though it lies
	// behind the length.
	short := a
	short.Mems = a.Mems[:3]
	if impl.LiveAt(short, 3, 0) || !impl.LiveAt(short, 2, 0) {
		t.Error("what lies behind was read")
	}
}

func TestWordsWhereNoneIsMissing(t *testing.T) {
	for _, g := range rightGeos() {
		a, held := filled(g, drawn(31))
		for s := range g.S {
			wantStripe(t, "all there", a, s, held[s])
			// What is Lost, but built, has its own word, as all others.
			for m := range g.N {
				wantStripe(t, "built", withLost(a, m, s+1), s, held[s])
				wantStripe(t, "all built", withLost(a, m, g.S), s, held[s])
			}
		}
		for _, s := range outside(g.S) {
			wantNoStripe(t, "no such stripe", a, s)
		}
	}
}

// The words are those that are held, also where they are not even: none is
// made of the others where none is missing.
func TestWordsAreNotMadeEven(t *testing.T) {
	for _, g := range rightGeos() {
		a := wantNewArr(arrayId, g)
		for s := range g.S {
			words := make([]int, g.N)
			for m := range g.N {
				words[m] = 1 + 7*m + 100*s
				a.Mems[m].Secs[firstStripe+s] = []int{words[m]}
			}
			wantStripe(t, "uneven", a, s, words)
			for m := range g.N {
				wantStripe(t, "uneven, Lost, but built", withLost(a, m, s+1), s, words)
				want := slices.Clone(words)
				want[m] = 0
				for i, w := range words {
					if i != m {
						want[m] ^= w
					}
				}
				wantStripe(t, "uneven, not built", withLost(a, m, s), s, want)
				wantStripe(t, "uneven, Bad", withBad(a, m, firstStripe+s), s, want)
			}
		}
	}
}

// The promise itself: whichever disk lacks its word alone, and why, it is what
// all others make.
func TestWordThatOneDiskLacks(t *testing.T) {
	for _, g := range rightGeos() {
		a, held := filled(g, drawn(37))
		for _, why := range lacks() {
			for m := range g.N {
				for s := range g.S {
					x := why.of(a, m, s)
					if !impl.ArrOk(x) {
						t.Fatal("not right:", why.name, x)
					}
					wantStripe(t, why.name, x, s, held[s])
					others := slices.Clone(held[s])
					others[m] = 4321
					if l, _ := impl.Words(x, s); l[m] != impl.MissingWord(others, m) {
						t.Fatal(why.name, g, m, s, l)
					}
					// No other stripe lacks more than this disk's word either.
					for other := range g.S {
						wantStripe(t, why.name, x, other, held[other])
					}
				}
			}
		}
	}
}

// Where two lack their word there is none to make it of.
func TestWordsThatTwoDisksLack(t *testing.T) {
	for _, g := range rightGeos() {
		a, held := filled(g, drawn(41))
		for _, one := range lacks() {
			for _, two := range lacks() {
				for s := range g.S {
					if !one.lost || !two.lost {
						wantNoneOfPairs(t, a, held, s, one, two)
					}
				}
			}
		}
	}
}

// wantNoneOfPairs asks it of each two disks, and that the next stripe, where
// one of them lacks its word at most, is there.
func wantNoneOfPairs(t *testing.T, a impl.Arr, held [][]int, s int, one, two lack) {
	t.Helper()
	name, beside := one.name+" and "+two.name, (s+1)%a.G.S
	for m := range a.G.N {
		first := one.of(a, m, s)
		for n := range a.G.N {
			if m == n {
				continue
			}
			x := two.of(first, n, s)
			if !impl.ArrOk(x) {
				t.Fatal("not right:", name, x)
			}
			wantNoStripe(t, name, x, s)
			if beside != s {
				wantStripe(t, name, x, beside, held[beside])
			}
		}
	}
}

func TestWordsThatMoreDisksLack(t *testing.T) {
	for _, g := range rightGeos() {
		a, held := filled(g, drawn(43))
		for s := range g.S {
			x := a
			for m := range g.N {
				x = withSector(x, m, firstStripe+s)
				if m == 0 {
					wantStripe(t, "one of no words", x, s, held[s])
				} else {
					wantNoStripe(t, "several of no words", x, s)
				}
			}
			wantNoStripe(t, "all of no words, one Lost", withLost(x, 1, 0), s)
		}
	}
}

// A disk that lacks its word for two reasons is still one.
func TestWordThatOneDiskLacksTwice(t *testing.T) {
	for _, g := range rightGeos() {
		a, held := filled(g, drawn(47))
		for _, one := range lacks() {
			for _, two := range lacks() {
				for m := range g.N {
					s := m % g.S
					if x := two.of(one.of(a, m, s), m, s); impl.ArrOk(x) {
						wantStripe(t, one.name+" and "+two.name, x, s, held[s])
					}
				}
			}
		}
	}
}

// Just below Built the disk's own word counts, at it that of the others.
func TestWordsAtBuilt(t *testing.T) {
	for _, g := range rightGeos() {
		a := wantNewArr(arrayId, g)
		for m := range g.N {
			x := a
			for s := range g.S {
				x = withSector(x, m, firstStripe+s, 9)
			}
			for built := 0; built <= g.S; built++ {
				for s := range g.S {
					want := make([]int, g.N)
					if s < built {
						want[m] = 9
					}
					wantStripe(t, fmt.Sprint("built ", built, " of ", m), withLost(x, m, built), s, want)
				}
				// Where another one is Bad two are missing, but only from Built on.
				spoilt := withLost(x, m, built)
				for s := range g.S {
					spoilt = withBad(spoilt, (m+1)%g.N, firstStripe+s)
				}
				for s := range g.S {
					if l, ok := impl.Words(spoilt, s); ok != (s < built) || !ok && len(l) != 0 {
						t.Fatal(g, m, built, s, l, ok)
					}
				}
			}
		}
	}
}

// What waits in the cache is what is read, the last of it.
func TestWordsInTheCache(t *testing.T) {
	for _, g := range rightGeos() {
		a := wantNewArr(arrayId, g)
		for m := range g.N {
			want := make([]int, g.N)
			want[m] = 65535
			at := firstStripe + g.S - 1
			x := withWr(withWr(withWr(a, m, at, 1), m, at), m, at, 65535)
			wantStripe(t, "three in the cache", x, g.S-1, want)
			want[m] = 0
			wantStripe(t, "Lost", withLost(x, m, g.S-1), g.S-1, want)
			// What is in the other sectors is none of the stripe's.
			x = a
			for n := range firstStripe {
				x = withWr(withBad(withSector(x, m, n, 3), m, n), (m+1)%g.N, n, 4)
			}
			wantStripe(t, "other sectors", x, g.S-1, want)
		}
	}
}

// Neither the power, nor what is only in memory, nor the numbers turn the
// words that the disks hold.
func TestWordsHangOnTheDisksAlone(t *testing.T) {
	for _, g := range rightGeos() {
		a, held := filled(g, drawn(53))
		for _, x := range append(arrsOfNumbers(a), arrsOfDirty(a)...) {
			x.Id = mostOfAnArr
			for s := range g.S {
				wantStripe(t, "other numbers", x, s, held[s])
			}
		}
	}
}

func TestWordsOfWhatBroke(t *testing.T) {
	for _, g := range rightGeos() {
		a, _ := filled(g, drawn(59))
		for _, x := range arrsThatBroke(a) {
			if !impl.ArrOk(x) {
				t.Fatal("not right:", x)
			}
			for s := -1; s <= g.S; s++ {
				wantNoStripe(t, "Broken", x, s)
			}
		}
	}
}

func TestWordsOfWrongArrs(t *testing.T) {
	for name, a := range wrongArrs() {
		for _, s := range []int{-1, 0, 1, a.G.S - 1, a.G.S, a.G.S + 1, math.MinInt, math.MaxInt} {
			wantNoWords(t, name, a, s)
		}
	}
	for name, a := range wrongArrs() {
		wantNoWords(t, name+", with room", roomy(a), 0)
	}
}

// wantNoWords is for arrays whose Geo may be wrong.
func wantNoWords(t *testing.T, name string, a impl.Arr, s int) {
	t.Helper()
	if l, ok := impl.Words(a, s); !noWords(l, ok) {
		t.Error(name, s, l, ok)
	}
	if l, ok := impl.DataOf(a, s); !noWords(l, ok) {
		t.Error(name, s, l, ok)
	}
}

func TestDataOfWhereverTheParityIs(t *testing.T) {
	a := wantNewArr(arrayId, impl.Geo{N: 4, S: 6})
	for s := range 6 {
		for m := range 4 {
			a.Mems[m].Secs[firstStripe+s] = []int{10*s + m}
		}
	}
	for s, want := range [][]int{{0, 1, 2}, {13, 10, 11}, {22, 23, 20}, {31, 32, 33}, {40, 41, 42}, {53, 50, 51}} {
		if l, ok := impl.DataOf(a, s); !ok || !slices.Equal(l, want) {
			t.Error(s, l, ok)
		}
	}
	// The parity is none of the blocks; that it is missing turns nothing.
	for s, parity := range []int{3, 2, 1, 0, 3, 2} {
		x := withSector(a, parity, firstStripe+s)
		l, ok := impl.DataOf(x, s)
		if want, _ := impl.DataOf(a, s); !ok || !slices.Equal(l, want) {
			t.Error("without its parity", s, l, ok)
		}
	}
}

// wantWords is Words by the document's words, of what each disk holds.
func wantWords(a impl.Arr, s int) ([]int, bool) {
	words, missing := make([]int, a.G.N), []int{}
	for m := range words {
		held, ok := impl.ReadSec(a.Mems[m], firstStripe+s)
		if ok && wantLive(a, m, s) && len(held) == 1 {
			words[m] = held[0]
		} else {
			missing = append(missing, m)
		}
	}
	if a.Broken || len(missing) > 1 {
		return nil, false
	}
	for _, m := range missing {
		words[m] = impl.MissingWord(words, m)
	}
	return words, true
}

// Whatever the disks hold, and whatever they lack.
func TestWordsOfAnyDisks(t *testing.T) {
	next, there, gone := drawn(61), 0, 0
	for range 20000 {
		g := rightGeos()[next(24)]
		a, _ := filled(g, next)
		for range next(5) {
			why, m, s := lacks()[next(len(lacks()))], next(g.N), next(g.S)
			if x := why.of(a, m, s); impl.ArrOk(x) {
				a = x
			}
		}
		a.Broken = next(20) == 0
		for s := range g.S {
			want, ok := wantWords(a, s)
			if ok {
				there++
				wantStripe(t, "any", a, s, want)
			} else {
				gone++
				wantNoStripe(t, "any", a, s)
			}
		}
	}
	if there < 10000 || gone < 5000 {
		t.Error("few were there, or few were gone:", there, gone)
	}
}

func TestArrsHoldApart(t *testing.T) {
	all := append(cornerArrs(), wrongArrs()["0 Id 0"], wrongArrs()["3 one disk less"], impl.Arr{})
	for _, a := range cornerArrs() {
		for _, why := range lacks() {
			all = append(all, why.of(a, 1, 0), why.of(why.of(a, 1, 0), 2, 0))
		}
	}
	for _, part := range []map[string]impl.Arr{wrongByMems(all[0]), wrongByDirty(all[0])} {
		for _, a := range part {
			all = append(all, a)
		}
	}
	for _, plainly := range all {
		a := roomy(plainly)
		holdsApart(t, "ArrOk", []any{a}, func() []any { return []any{impl.ArrOk(a)} })
		for _, s := range []int{-1, 0, a.G.S - 1, a.G.S} {
			holdsApart(t, "LiveAt", []any{a}, func() []any { return []any{impl.LiveAt(a, 1, s)} })
			holdsApart(t, "Words", []any{a}, func() []any {
				l, _ := impl.Words(a, s)
				m, _ := impl.Words(a, s)
				return []any{l, m}
			})
			holdsApart(t, "DataOf", []any{a}, func() []any {
				l, _ := impl.DataOf(a, s)
				m, _ := impl.DataOf(a, s)
				return []any{l, m}
			})
		}
	}
	for _, g := range append(rightGeos(), impl.Geo{}) {
		for _, id := range []int{0, 1, 60000, 60001} {
			holdsApart(t, "ArrNew", nil, func() []any { return []any{impl.ArrNew(id, g), impl.ArrNew(id, g)} })
		}
	}
}

// With room behind each list the answers are the same.
func TestWhatLiesBehindAnArrIsNotRead(t *testing.T) {
	for _, g := range []impl.Geo{{N: 3, S: 1}, {N: 4, S: 6}, {N: 5, S: 8}} {
		a, held := filled(g, drawn(67))
		for _, why := range lacks() {
			for m := range g.N {
				s := g.S - 1
				wantStripe(t, why.name, roomy(why.of(a, m, s)), s, held[s])
				x := roomy(withSector(why.of(a, m, s), (m+1)%g.N, firstStripe+s))
				wantNoStripe(t, why.name+", and another one", x, s)
				if impl.LiveAt(x, g.N, 0) || impl.LiveAt(x, g.N+1, 0) {
					t.Error("a disk behind the last", g)
				}
			}
		}
		// A sector whose words are cut off it has none, or one.
		two := []int{held[0][1], 6}
		wantStripe(t, "one word, and one behind it", withSector(a, 1, firstStripe, two[:1]...), 0, held[0])
		x := withSector(a, 1, firstStripe, two[:0]...)
		wantStripe(t, "no word, and two behind it", x, 0, held[0])
		wantNoStripe(t, "no word, and two behind it", withBad(x, 0, firstStripe), 0)
	}
}

// What is answered turns nothing of the array, and the other way round.
func TestArrsTurnApart(t *testing.T) {
	a := impl.ArrNew(arrayId, impl.Geo{N: 3, S: 2})
	a.Mems[0].Secs[firstStripe][0] = 5
	for i, m := range a.Mems {
		for s := range 2 {
			if want := i == 0 && s == 0; (m.Secs[firstStripe+s][0] == 5) != want {
				t.Error("two sectors are one", i, s)
			}
		}
	}
	words, _ := impl.Words(a, 0)
	data, _ := impl.DataOf(a, 0)
	words[0], data[0] = 77, 78
	if a.Mems[0].Secs[firstStripe][0] != 5 || words[0] != 77 {
		t.Error("it turned", a, words)
	}
	a.Mems[0].Secs[firstStripe][0] = 6
	if words[0] != 77 || data[0] != 78 {
		t.Error("it turned", words, data)
	}
}
