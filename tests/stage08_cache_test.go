package tests

import (
	"fmt"
	"math"
	"slices"
	"testing"

	"loop.example/g00398/impl"
)

// entOf answers what is in memory of a stripe.
func entOf(a impl.Arr, s int) ([]int, bool) {
	for _, e := range a.Dirty {
		if e.Stripe == s {
			return slices.Clone(e.Data), true
		}
	}
	return nil, false
}

// withEnts answers a with these stripes, and no others, in memory.
func withEnts(a impl.Arr, stripes ...int) impl.Arr {
	a.Dirty = nil
	for _, s := range stripes {
		e := impl.Ent{Stripe: s, Data: upTo(a.G.N - 1)}
		e.Data[0] = 100 + s
		a.Dirty = append(a.Dirty, e)
	}
	return a
}

// stripesIn answers the stripes whose bit is set, ascending.
func stripesIn(some, stripes int) []int {
	l := []int{}
	for s := range stripes {
		if some>>s&1 == 1 {
			l = append(l, s)
		}
	}
	return l
}

func stripesInMemory(a impl.Arr) []int {
	l := []int{}
	for _, e := range a.Dirty {
		l = append(l, e.Stripe)
	}
	return l
}

// wantAskCode is what each call of the chapter that has a code asks first.
func wantAskCode(a impl.Arr) int {
	switch {
	case !wantArrOk(a):
		return impl.CoForm
	case a.Down:
		return impl.CoDown
	}
	return impl.CoGood
}

// wantNow answers a stripe's words as the document says of a block's: of its
// Ent, else of the disks.
func wantNow(a impl.Arr, s int) ([]int, bool) {
	if data, there := entOf(a, s); there {
		return data, true
	}
	words, ok := wantWords(a, s)
	if !ok {
		return nil, false
	}
	return blocksOf(a.G, s, words), true
}

func wantGot(a impl.Arr, b int) (int, int) {
	if code := wantAskCode(a); code != impl.CoGood {
		return 0, code
	}
	each := a.G.N - 1
	if !within(b, 0, a.G.S*each-1) {
		return 0, impl.CoRange
	}
	data, ok := wantNow(a, b/each)
	if !ok {
		return 0, impl.CoIo
	}
	return data[b%each], impl.CoGood
}

func wantSet(a impl.Arr, b, n int) (impl.Arr, int) {
	_, code := wantGot(a, b)
	if (code == impl.CoGood || code == impl.CoIo) && !within(n, 0, 65535) {
		return a, impl.CoSize
	}
	if code != impl.CoGood {
		return a, code
	}
	a = plain(a)
	each := a.G.N - 1
	data, _ := wantNow(a, b/each)
	data[b%each] = n
	a.Dirty = slices.DeleteFunc(a.Dirty, func(e impl.Ent) bool { return e.Stripe == b/each })
	a.Dirty = append(a.Dirty, impl.Ent{Stripe: b / each, Data: data})
	slices.SortFunc(a.Dirty, func(x, y impl.Ent) int { return x.Stripe - y.Stripe })
	return a, impl.CoGood
}

func wantStripeFlushed(a impl.Arr, s int) (impl.Arr, int) {
	if code := wantAskCode(a); code != impl.CoGood {
		return a, code
	}
	if !within(s, 0, a.G.S-1) {
		return a, impl.CoRange
	}
	data, there := entOf(a, s)
	if !there {
		return a, impl.CoGood
	}
	out, code := wantWritten(a, s, data)
	if code == impl.CoGood {
		out.Dirty = slices.DeleteFunc(plain(out).Dirty, func(e impl.Ent) bool { return e.Stripe == s })
	}
	return out, code
}

func wantAllFlushed(a impl.Arr) (impl.Arr, int) {
	if code := wantAskCode(a); code != impl.CoGood {
		return a, code
	}
	out, code := a, impl.CoGood
	for _, s := range stripesInMemory(a) {
		if code == impl.CoGood {
			out, code = wantStripeFlushed(out, s)
		}
	}
	return out, code
}

// wantSetBlock, wantFlush and wantFlushAll ask a call for all that the
// document says of it, and answer what it answered.
func wantSetBlock(t *testing.T, name string, a impl.Arr, b, n int) (impl.Arr, int) {
	t.Helper()
	x, code := impl.SetBlock(a, b, n)
	if want, wantedCode := wantSet(a, b, n); code != wantedCode || !alike(x, want) {
		t.Fatal(name, "block", b, n, "\nof", a, "\nis", code, x, "\nnot", wantedCode, want)
	}
	return x, code
}

func wantFlush(t *testing.T, name string, a impl.Arr, s int) (impl.Arr, int) {
	t.Helper()
	x, code := impl.FlushStripe(a, s)
	if want, wantedCode := wantStripeFlushed(a, s); code != wantedCode || !alike(x, want) {
		t.Fatal(name, "stripe", s, "\nof", a, "\nis", code, x, "\nnot", wantedCode, want)
	}
	return x, code
}

func wantFlushAll(t *testing.T, name string, a impl.Arr) (impl.Arr, int) {
	t.Helper()
	x, code := impl.FlushAll(a)
	if want, wantedCode := wantAllFlushed(a); code != wantedCode || !alike(x, want) {
		t.Fatal(name, "\nof", a, "\nis", code, x, "\nnot", wantedCode, want)
	}
	return x, code
}

// wantBlocks asks for each block's word.
func wantBlocks(t *testing.T, name string, a impl.Arr, words []int) {
	t.Helper()
	for b, want := range words {
		if n, code := impl.GetBlock(a, b); n != want || code != impl.CoGood {
			t.Fatal(name, a.G, "block", b, "is", n, code, "not", want)
		}
	}
}

// wantOnlyInMemory asks that nothing but Dirty differs.
func wantOnlyInMemory(t *testing.T, name string, was, is impl.Arr) {
	t.Helper()
	is.Dirty = was.Dirty
	if !alike(is, was) {
		t.Fatal(name, "\nwas", was, "\nis", is)
	}
}

// blockWords answers the word of each block, of what each disk holds.
func blockWords(g impl.Geo, held [][]int) []int {
	l := []int{}
	for s, words := range held {
		l = append(l, blocksOf(g, s, words)...)
	}
	return l
}

// The promise itself: whichever block is set, and whatever is lost, it is got,
// and no other block turns; what is set is only in memory.
func TestBlockThatIsSetIsGot(t *testing.T) {
	t.Parallel()
	next := drawn(137)
	for _, g := range rightGeos() {
		a, held := filled(g, next)
		words := blockWords(g, held)
		for b := range words {
			s := b / (g.N - 1)
			for i, c := range standingsAt(a, s) {
				c.a.Fuse, c.a.Tail, c.a.Seq = i%3-1, 5, 5+i%(impl.Slots+1)
				wantBlocks(t, c.name, c.a, words)
				n := next(65536)
				x, code := impl.SetBlock(c.a, b, n)
				if code != impl.CoGood || !impl.ArrOk(x) {
					t.Fatal(c.name, g, b, n, code, x)
				}
				want := slices.Clone(words)
				want[b] = n
				wantBlocks(t, c.name, x, want)
				wantOnlyInMemory(t, c.name, c.a, x)
				for other := range g.S {
					wantStripe(t, c.name, x, other, held[other])
				}
			}
		}
	}
}

// However many are set, and some of them again, each is the last that it was
// set to; behind a flush that is on the disks.
func TestBlocksSetBehindEachOther(t *testing.T) {
	t.Parallel()
	next := drawn(139)
	for _, g := range rightGeos() {
		a, held := filled(g, next)
		for _, c := range standingsAt(a, next(g.S)) {
			x, words := c.a, blockWords(g, held)
			for range 12 {
				b, n := next(len(words)), next(65536)
				x, _ = wantSetBlock(t, c.name, x, b, n)
				words[b] = n
			}
			wantBlocks(t, c.name, x, words)
			wantOnlyInMemory(t, c.name, c.a, x)
			x, code := wantFlushAll(t, c.name, x)
			if code != impl.CoGood || !impl.Clean(x) {
				t.Fatal(c.name, g, code, x)
			}
			wantBlocks(t, c.name+", flushed", x, words)
			for s := range g.S {
				wantStripe(t, c.name, x, s, wantHeld(g, s, words[s*(g.N-1):(s+1)*(g.N-1)]))
			}
		}
	}
}

// Told by hand: what is in memory, and what is got, one call behind the other.
func TestDirtyAsItIsTold(t *testing.T) {
	a := wantNewArr(arrayId, impl.Geo{N: 4, S: 3})
	for m, w := range []int{20, 21, 1, 22} { // the disk 2 has the parity of the stripe 1
		a.Mems[m].Secs[firstStripe+1] = []int{w}
	}
	for i, c := range []struct {
		b, n  int
		dirty []impl.Ent
	}{
		{4, 9, []impl.Ent{{Stripe: 1, Data: []int{22, 9, 21}}}},
		{8, 65535, []impl.Ent{{Stripe: 1, Data: []int{22, 9, 21}}, {Stripe: 2, Data: []int{0, 0, 65535}}}},
		{0, 7, []impl.Ent{{Stripe: 0, Data: []int{7, 0, 0}}, {Stripe: 1, Data: []int{22, 9, 21}}, {Stripe: 2, Data: []int{0, 0, 65535}}}},
		{5, 8, []impl.Ent{{Stripe: 0, Data: []int{7, 0, 0}}, {Stripe: 1, Data: []int{22, 9, 8}}, {Stripe: 2, Data: []int{0, 0, 65535}}}},
		{4, 0, []impl.Ent{{Stripe: 0, Data: []int{7, 0, 0}}, {Stripe: 1, Data: []int{22, 0, 8}}, {Stripe: 2, Data: []int{0, 0, 65535}}}},
		{0, 0, []impl.Ent{{Stripe: 0, Data: []int{0, 0, 0}}, {Stripe: 1, Data: []int{22, 0, 8}}, {Stripe: 2, Data: []int{0, 0, 65535}}}},
	} {
		x, code := impl.SetBlock(a, c.b, c.n)
		if code != impl.CoGood || !alike(x.Dirty, c.dirty) {
			t.Fatal(i, code, x.Dirty)
		}
		wantOnlyInMemory(t, fmt.Sprint(i), a, x)
		a = x
	}
	wantBlocks(t, "by hand", a, []int{0, 0, 0, 22, 0, 8, 0, 0, 65535})
	for i, c := range []struct {
		s, code int
		left    []int
	}{{1, 0, []int{0, 2}}, {1, 0, []int{0, 2}}, {0, 0, []int{2}}, {3, 2, []int{2}}, {-1, 2, []int{2}}, {2, 0, nil}, {2, 0, nil}} {
		x, code := impl.FlushStripe(a, c.s)
		if code != c.code || !slices.Equal(stripesInMemory(x), c.left) || impl.Clean(x) != (c.left == nil) {
			t.Fatal("flush", i, code, x.Dirty)
		}
		a = x
	}
	wantBlocks(t, "by hand, flushed", a, []int{0, 0, 0, 22, 0, 8, 0, 0, 65535})
	if a.Seq != 3 || !slices.Equal(a.Mems[0].Secs[firstSlot+1], []int{21322, 1, 0, 3, 0, 0, 0}) {
		t.Error("a record is missing, or there is one more", a)
	}
}

// What is set to the word that it has already is in memory all the same.
func TestSetToTheSameWord(t *testing.T) {
	for _, g := range rightGeos() {
		a, held := filled(g, drawn(149))
		for b, n := range blockWords(g, held) {
			x, code := impl.SetBlock(a, b, n)
			if code != impl.CoGood || impl.Clean(x) || !alike(x.Dirty, []impl.Ent{{Stripe: b / (g.N - 1), Data: blocksOf(g, b/(g.N-1), held[b/(g.N-1)])}}) {
				t.Fatal(g, b, code, x.Dirty)
			}
			wantOnlyInMemory(t, "the same word", a, x)
		}
	}
}

// Whichever stripes are in memory, the Ent comes where it belongs: ahead of
// them, between them, behind them, or in the place of its own.
func TestEntsAscend(t *testing.T) {
	t.Parallel()
	for _, g := range []impl.Geo{{N: 3, S: 1}, {N: 4, S: 2}, {N: 5, S: 3}, {N: 3, S: impl.MaxStripes}} {
		a, held := filled(g, drawn(151))
		for some := range 1 << g.S {
			x := withEnts(a, stripesIn(some, g.S)...)
			for s := range g.S {
				i := some % (g.N - 1)
				y, code := impl.SetBlock(x, s*(g.N-1)+i, 9)
				if code != impl.CoGood || !slices.Equal(stripesInMemory(y), stripesIn(some|1<<s, g.S)) {
					t.Fatal(g, s, "into", stripesIn(some, g.S), "is", y.Dirty)
				}
				for _, e := range y.Dirty {
					want := blocksOf(g, e.Stripe, held[e.Stripe])
					if data, there := entOf(x, e.Stripe); there {
						want = data
					}
					if e.Stripe == s {
						want[i] = 9
					}
					if !slices.Equal(e.Data, want) {
						t.Fatal(g, s, "into", stripesIn(some, g.S), "the Ent", e, "not", want)
					}
				}
				wantOnlyInMemory(t, "ascending", x, y)
			}
		}
	}
}

// What is in memory counts ahead of what the disks hold, of its own stripe
// alone.
func TestMemoryIsAheadOfTheDisks(t *testing.T) {
	t.Parallel()
	for _, g := range rightGeos() {
		a, held := filled(g, drawn(157))
		for s := range g.S {
			for _, c := range standingsAt(withEnts(a, s), s) {
				want := blockWords(g, held)
				copy(want[s*(g.N-1):], c.a.Dirty[0].Data)
				wantBlocks(t, c.name, c.a, want)
				wantSetBlock(t, c.name, c.a, s*(g.N-1)+s%2, 3)
				wantSetBlock(t, c.name, c.a, 0, 3)
			}
		}
	}
}

// unreadable answers arrays of whose stripe s no word can be made.
func unreadable(a impl.Arr, s int) map[string]impl.Arr {
	l, at := map[string]impl.Arr{}, firstStripe+s
	for m := range a.G.N {
		other := (m + 1) % a.G.N
		bad := withBad(a, m, at)
		l[fmt.Sprint("Bad, and the next one too ", m)] = withBad(bad, other, at)
		l[fmt.Sprint("Bad, and the next one Failed ", m)] = withLost(withFailed(bad, other), other, 0)
		l[fmt.Sprint("Bad, and the next one not yet built ", m)] = withLost(bad, other, s)
		l[fmt.Sprint("Bad, and the next one of no words ", m)] = withSector(bad, other, at)
	}
	for i, x := range arrsThatBroke(a) {
		l[fmt.Sprint("Broken ", i)] = x
	}
	return l
}

// A block whose stripe cannot be read is CoIo, but where it is in memory it is
// got and set all the same.
func TestStripesThatCannotBeRead(t *testing.T) {
	t.Parallel()
	for _, g := range rightGeos() {
		a, _ := filled(g, drawn(163))
		for _, s := range slices.Compact([]int{0, g.S - 1}) {
			for name, x := range unreadable(a, s) {
				for i := range g.N - 1 {
					wantBlockLost(t, name, x, s, i)
					wantBlockInMemory(t, name, withEnts(x, s), s, i)
				}
				if !x.Broken && g.S > 1 {
					beside := (s + 1) % g.S * (g.N - 1)
					if _, code := wantSetBlock(t, name, x, beside, 5); code != impl.CoGood {
						t.Fatal(name, "the next stripe", code)
					}
				}
			}
		}
	}
}

func wantBlockLost(t *testing.T, name string, a impl.Arr, s, i int) {
	t.Helper()
	b := s*(a.G.N-1) + i
	if n, code := impl.GetBlock(a, b); n != 0 || code != impl.CoIo {
		t.Fatal(name, a.G, "got", b, n, code)
	}
	for _, n := range []int{0, 65535} {
		if x, code := impl.SetBlock(a, b, n); code != impl.CoIo || !alike(x, a) {
			t.Fatal(name, a.G, "set", b, code, x)
		}
	}
	for _, n := range []int{-1, 65536} {
		if x, code := impl.SetBlock(a, b, n); code != impl.CoSize || !alike(x, a) {
			t.Fatal(name, a.G, "set to", n, code)
		}
	}
}

func wantBlockInMemory(t *testing.T, name string, a impl.Arr, s, i int) {
	t.Helper()
	b := s*(a.G.N-1) + i
	if n, code := impl.GetBlock(a, b); n != a.Dirty[0].Data[i] || code != impl.CoGood {
		t.Fatal(name, a.G, "got", b, n, code)
	}
	x, code := impl.SetBlock(a, b, 77)
	if n, got := impl.GetBlock(x, b); code != impl.CoGood || got != impl.CoGood || n != 77 {
		t.Fatal(name, a.G, "set", b, code, got, n)
	}
	want := slices.Clone(a.Dirty[0].Data)
	want[i] = 77
	if !alike(x.Dirty, []impl.Ent{{Stripe: s, Data: want}}) {
		t.Fatal(name, a.G, "set", b, x.Dirty)
	}
	wantOnlyInMemory(t, name, a, x)
}

// One that lacks its word alone is made of the others, and so is what comes
// into memory.
func TestBlocksWhereOneDiskLacksItsWord(t *testing.T) {
	t.Parallel()
	for _, g := range rightGeos() {
		a, held := filled(g, drawn(167))
		words := blockWords(g, held)
		for _, why := range lacks() {
			for m := range g.N {
				s := m % g.S
				x := why.of(a, m, s)
				wantBlocks(t, why.name, x, words)
				y, code := impl.SetBlock(x, s*(g.N-1), 5)
				want := blocksOf(g, s, held[s])
				want[0] = 5
				if code != impl.CoGood || !alike(y.Dirty, []impl.Ent{{Stripe: s, Data: want}}) {
					t.Fatal(why.name, g, m, code, y.Dirty)
				}
				wantOnlyInMemory(t, why.name, x, y)
			}
		}
	}
}

// Where nothing of a stripe is in memory it is good, whatever else there is:
// nothing turns, and no operation is done.
func TestFlushOfWhatIsNotInMemory(t *testing.T) {
	t.Parallel()
	for _, g := range rightGeos() {
		a, _ := filled(g, drawn(173))
		for s := range g.S {
			all := slices.DeleteFunc(stripesIn(1<<g.S-1, g.S), func(n int) bool { return n == s })
			for i, x := range arrsThatWriteNothing(a, s) {
				for _, y := range []impl.Arr{x, withEnts(x, all...)} {
					if z, code := impl.FlushStripe(y, s); code != impl.CoGood || !alike(z, y) {
						t.Fatal(g, s, i, code, z)
					}
				}
				if z, code := impl.FlushAll(x); code != impl.CoGood || !alike(z, x) || !impl.Clean(z) {
					t.Fatal("all of none", g, i, code, z)
				}
			}
		}
	}
}

// arrsThatWriteNothing are right, but of most of them WriteStripe would refuse
// the stripe s, or the power would go.
func arrsThatWriteNothing(a impl.Arr, s int) []impl.Arr {
	l := []impl.Arr{a}
	put := func(change func(*impl.Arr)) {
		x := a
		change(&x)
		l = append(l, x)
	}
	put(func(x *impl.Arr) { x.Fuse = 0 })
	put(func(x *impl.Arr) { x.Seq, x.Fuse = impl.Slots, 0 })
	put(func(x *impl.Arr) { x.Seq = impl.Slots })
	put(func(x *impl.Arr) { x.Seq, x.Tail = 60000, 59996 })
	put(func(x *impl.Arr) { x.Gen = fullFrom })
	put(func(x *impl.Arr) { x.Gen, x.Broken = mostOfAnArr, true })
	for _, x := range unreadable(a, s) {
		l = append(l, x)
	}
	return l
}

// With each Fuse, whatever is lost: what WriteStripe makes of the Ent's Data,
// and the Ent goes just where that is CoGood.
func TestEachFuseOfAFlush(t *testing.T) {
	t.Parallel()
	next := drawn(179)
	for _, g := range rightGeos() {
		a, _ := filled(g, next)
		for _, s := range slices.Compact([]int{0, g.S - 1}) {
			for i, c := range standingsAt(withEnts(a, stripesIn(1<<g.S-1, g.S)...), s) {
				x := c.a
				x.Tail, x.Gen = next(1000), next(fullFrom)
				x.Seq = x.Tail + (i+s)%(impl.Slots+1)
				data, _ := entOf(x, s)
				operations := operationsOf(stepsOfStripe(x, s, data))
				for _, fuse := range fusesFor(operations) {
					x.Fuse = fuse
					y, code := wantFlushIsWrite(t, c.name, x, s)
					if (code == impl.CoDown) != within(fuse, 0, operations-1) || y.Down != (code == impl.CoDown) {
						t.Fatal(c.name, g, s, "Fuse", fuse, "of", operations, "is", code)
					}
				}
			}
		}
	}
}

// wantFlushIsWrite asks it of a stripe that is in memory.
func wantFlushIsWrite(t *testing.T, name string, a impl.Arr, s int) (impl.Arr, int) {
	t.Helper()
	data, _ := entOf(a, s)
	x, code := impl.FlushStripe(a, s)
	want, wantedCode := impl.WriteStripe(a, s, data)
	is := x
	is.Dirty = want.Dirty
	if code != wantedCode || !alike(is, want) {
		t.Fatal(name, a.G, "stripe", s, "\nis", code, x, "\nnot", wantedCode, want)
	}
	left := stripesInMemory(a)
	if code == impl.CoGood {
		left = slices.DeleteFunc(left, func(n int) bool { return n == s })
	}
	if !slices.Equal(stripesInMemory(x), left) {
		t.Fatal(name, a.G, "stripe", s, "code", code, "leaves", x.Dirty)
	}
	for _, e := range x.Dirty {
		if was, _ := entOf(a, e.Stripe); !slices.Equal(e.Data, was) {
			t.Fatal(name, a.G, "stripe", s, "turns", e, "was", was)
		}
	}
	return x, code
}

// What was set is got before a flush, behind it, and, where it is refused,
// still out of memory.
func TestFlushTurnsNoBlock(t *testing.T) {
	t.Parallel()
	next := drawn(181)
	for _, g := range rightGeos() {
		a, held := filled(g, next)
		words := blockWords(g, held)
		for s := range g.S {
			for _, c := range standingsAt(withEnts(a, s), s) {
				want := slices.Clone(words)
				copy(want[s*(g.N-1):], c.a.Dirty[0].Data)
				wantBlocks(t, c.name, c.a, want)
				x, code := impl.FlushStripe(c.a, s)
				if code != impl.CoGood || !impl.Clean(x) || impl.Clean(c.a) {
					t.Fatal(c.name, g, s, code, x)
				}
				wantBlocks(t, c.name+", flushed", x, want)
				c.a.Gen = fullFrom
				x, code = impl.FlushStripe(c.a, s)
				if code != impl.CoFull || !alike(x, c.a) {
					t.Fatal(c.name, g, s, code, x)
				}
				wantBlocks(t, c.name+", refused", x, want)
			}
		}
	}
}

func TestFlushAtTheEndsOfGenAndSeq(t *testing.T) {
	for _, g := range rightGeos() {
		a, _ := filled(g, drawn(191))
		a = withEnts(a, g.S-1)
		for _, c := range []struct{ tail, seq, gen, code, wantTail, wantGen int }{
			{0, 0, 59989, impl.CoGood, 0, 59989},
			{0, 0, 59990, impl.CoFull, 0, 59990},
			{0, 0, 60000, impl.CoFull, 0, 60000},
			{0, 4, 5, impl.CoGood, 4, 6},
			{1, 4, 5, impl.CoGood, 1, 5},
			{0, 4, 59989, impl.CoGood, 4, 59990},
			{0, 4, 59990, impl.CoFull, 0, 59990},
			{59999, 59999, 3, impl.CoGood, 59999, 3},
			{59995, 59999, 3, impl.CoGood, 59999, 4},
			{60000, 60000, 3, impl.CoFull, 60000, 3},
			{59996, 60000, 3, impl.CoFull, 59996, 3},
		} {
			a.Tail, a.Seq, a.Gen = c.tail, c.seq, c.gen
			wantFlushIsWrite(t, "ends", a, g.S-1)
			x, code := wantFlush(t, "ends", a, g.S-1)
			good := c.code == impl.CoGood
			if code != c.code || x.Tail != c.wantTail || x.Gen != c.wantGen || (x.Seq == c.seq+1) != good || impl.Clean(x) != good {
				t.Error(g, c, code, x.Tail, x.Gen, x.Seq, x.Dirty)
			}
			if y, all := wantFlushAll(t, "ends", a); all != code || !alike(y, x) {
				t.Error("all of one", g, c, all, y)
			}
		}
	}
}

// What is Broken keeps all that is in memory.
func TestFlushOfWhatBroke(t *testing.T) {
	t.Parallel()
	for _, g := range rightGeos() {
		a, _ := filled(g, drawn(193))
		for _, x := range arrsThatBroke(withEnts(a, stripesIn(1<<g.S-1, g.S)...)) {
			for _, fuse := range []int{-1, 0, 1} {
				x.Fuse, x.Seq = fuse, impl.Slots
				for s := range g.S {
					if y, code := wantFlushIsWrite(t, "Broken", x, s); code != impl.CoIo || !alike(y, x) {
						t.Fatal(g, s, code, y)
					}
				}
				if y, code := impl.FlushAll(x); code != impl.CoIo || !alike(y, x) || impl.Clean(y) {
					t.Fatal("all", g, code, y)
				}
			}
		}
	}
}

// A stripe that cannot be read is written out of memory, and can be read then.
func TestFlushOverWhatCannotBeRead(t *testing.T) {
	t.Parallel()
	for _, g := range rightGeos() {
		a, held := filled(g, drawn(197))
		for s := range g.S {
			for name, x := range unreadable(a, s) {
				if x.Broken {
					continue
				}
				x = withEnts(x, s)
				y, code := wantFlushIsWrite(t, name, x, s)
				if code != impl.CoGood {
					t.Fatal(name, g, s, code)
				}
				wantStripe(t, name, y, s, wantHeld(g, s, x.Dirty[0].Data))
				want := blockWords(g, held)
				copy(want[s*(g.N-1):], x.Dirty[0].Data)
				wantBlocks(t, name, y, want)
			}
		}
	}
}

// None, one, and several, whichever they are: all are on the disks, their
// records in the order of the stripes.
func TestFlushAllInOrder(t *testing.T) {
	t.Parallel()
	for _, g := range []impl.Geo{{N: 3, S: 1}, {N: 4, S: 2}, {N: 5, S: 3}, {N: 3, S: impl.MaxStripes}, {N: 5, S: impl.MaxStripes}} {
		a, held := filled(g, drawn(199))
		for some := range 1 << g.S {
			stripes := stripesIn(some, g.S)
			x := withEnts(a, stripes...)
			y, code := wantFlushAll(t, "in order", x)
			if code != impl.CoGood || !impl.Clean(y) || impl.Clean(x) != (some == 0) || y.Seq != len(stripes) {
				t.Fatal(g, stripes, code, y)
			}
			if some == 0 && !alike(y, x) {
				t.Fatal("of none it turned", g, y)
			}
			for seq, s := range stripes {
				data, _ := entOf(x, s)
				wantStripe(t, "in order", y, s, wantHeld(g, s, data))
				if r := (impl.Rec{Seq: seq, Stripe: s, Data: data}); seq >= len(stripes)-impl.Slots && !recordOnAll(y, r) {
					t.Fatal(g, stripes, "no record", r, y)
				}
			}
			for s := range g.S {
				if !slices.Contains(stripes, s) {
					wantStripe(t, "not in memory", y, s, held[s])
				}
			}
		}
	}
}

// With each Fuse over several stripes: those whose operations are all done are
// gone, what is behind stays.
func TestEachFuseOfFlushAll(t *testing.T) {
	t.Parallel()
	next := drawn(211)
	for _, g := range []impl.Geo{{N: 3, S: 2}, {N: 4, S: 3}, {N: 5, S: 2}, {N: 3, S: 6}, {N: 5, S: impl.MaxStripes}} {
		a, _ := filled(g, next)
		stripes := stripesIn(1<<g.S-1, g.S)
		for i, c := range standingsAt(withEnts(a, stripes...), g.S/2) {
			x := c.a
			x.Tail, x.Seq = 8, 8+i%(impl.Slots+1)
			ends := endsOfFlushes(x)
			for _, fuse := range fusesOf(ends, next) {
				x.Fuse = fuse
				y, code := wantFlushAll(t, c.name, x)
				gone := 0
				for gone < len(ends) && (fuse < 0 || fuse >= ends[gone]) {
					gone++
				}
				if !slices.Equal(stripesInMemory(y), stripes[gone:]) || (code == impl.CoGood) != (gone == len(stripes)) || code != impl.CoGood && code != impl.CoDown {
					t.Fatal(c.name, g, "Fuse", fuse, "of", ends, "is", code, y.Dirty)
				}
				if impl.Clean(x) || impl.Clean(y) != (code == impl.CoGood) {
					t.Fatal(c.name, g, "Fuse", fuse, "Clean")
				}
				for _, e := range y.Dirty {
					if data, _ := entOf(x, e.Stripe); !slices.Equal(e.Data, data) {
						t.Fatal(c.name, g, "Fuse", fuse, "turns", e)
					}
				}
			}
		}
	}
}

// endsOfFlushes answers behind how many operations each stripe in memory is
// written, told by hand: of each disk that is there two for the record, three
// for a Check, and one of each that is LiveAt.
func endsOfFlushes(a impl.Arr) []int {
	ends, done, recs := []int{}, 0, a.Seq-a.Tail
	for _, e := range a.Dirty {
		each := 2
		if recs == impl.Slots {
			each, recs = 5, 0
		}
		for m, mem := range a.Mems {
			if !mem.Failed {
				done += each
			}
			if wantLive(a, m, e.Stripe) {
				done++
			}
		}
		recs++
		ends = append(ends, done)
	}
	return ends
}

// fusesOf answers each Fuse where there are few operations, else some of them,
// and those about the end of each stripe.
func fusesOf(ends []int, next func(int) int) []int {
	operations := ends[len(ends)-1]
	if operations <= 60 {
		return fusesFor(operations)
	}
	l := []int{-1, mostFuse}
	for _, end := range ends {
		l = append(l, end-1, end, end+1)
	}
	for range 20 {
		l = append(l, next(operations))
	}
	return l
}

// Where one is refused, what is behind it stays, and that code is the last.
func TestFlushAllUpToWhatIsRefused(t *testing.T) {
	for _, n := range []int{3, 4, 5} {
		a, _ := filled(impl.Geo{N: n, S: impl.MaxStripes}, drawn(223))
		for i, c := range []struct {
			tail, seq, gen, code int
			wantSeq, wantGen     int
			stripes, left        []int
		}{
			{59998, 59998, 0, impl.CoFull, 60000, 0, []int{1, 3, 6}, []int{6}},
			{59997, 59999, 0, impl.CoFull, 60000, 0, []int{1, 3, 6}, []int{3, 6}},
			{59996, 60000, 0, impl.CoFull, 60000, 0, []int{1, 3, 6}, []int{1, 3, 6}},
			{59997, 59997, 0, impl.CoGood, 60000, 0, []int{1, 3, 6}, nil},
			{59994, 59997, 0, impl.CoGood, 60000, 1, []int{1, 3, 6}, nil},
			{0, 4, 59989, impl.CoFull, 5, 59990, []int{0, 7}, []int{7}},
			{0, 3, 59989, impl.CoFull, 5, 59990, []int{0, 2, 4, 7}, []int{4, 7}},
			{0, 3, 59988, impl.CoGood, 7, 59989, []int{0, 2, 4, 7}, nil},
			{0, 0, 59989, impl.CoFull, 5, 59990, []int{0, 1, 2, 3, 4, 5, 6, 7}, []int{5, 6, 7}},
			{0, 0, 59989, impl.CoGood, 4, 59989, []int{2, 3, 5, 7}, nil},
			{0, 0, 59990, impl.CoFull, 0, 59990, []int{2, 3, 5, 7}, []int{2, 3, 5, 7}},
			{0, 0, 59990, impl.CoGood, 0, 59990, nil, nil},
		} {
			x := withEnts(a, c.stripes...)
			x.Tail, x.Seq, x.Gen = c.tail, c.seq, c.gen
			y, code := wantFlushAll(t, "refused", x)
			if code != c.code || y.Seq != c.wantSeq || y.Gen != c.wantGen || !slices.Equal(stripesInMemory(y), c.left) || impl.Clean(y) != (c.left == nil) {
				t.Error(n, i, code, y.Seq, y.Gen, y.Dirty)
			}
			// Again the same one is refused, and nothing turns.
			if z, again := impl.FlushAll(y); again != c.code || !alike(z, y) {
				t.Error("again", n, i, again, z)
			}
		}
	}
}

// Clean looks at Dirty alone, also of what is not right.
func TestClean(t *testing.T) {
	for _, a := range slices.Concat(rightArrs(), cornerArrs()) {
		if impl.Clean(a) != (len(a.Dirty) == 0) {
			t.Error(a)
		}
	}
	for name, a := range wrongArrs() {
		if impl.Clean(a) != (len(a.Dirty) == 0) {
			t.Error(name, a)
		}
	}
	if !impl.Clean(impl.Arr{}) || !impl.Clean(impl.Arr{Dirty: []impl.Ent{}}) || impl.Clean(impl.Arr{Dirty: []impl.Ent{{}}}) {
		t.Error("of nothing")
	}
	if !impl.Clean(impl.Arr{Dirty: []impl.Ent{{Stripe: 1}}[:0]}) {
		t.Error("what lies behind was read")
	}
}

// Each block that is there, and none else.
func TestBlocksThatAreNotThere(t *testing.T) {
	t.Parallel()
	for _, g := range rightGeos() {
		a, held := filled(g, drawn(227))
		words := blockWords(g, held)
		for _, x := range []impl.Arr{a, withEnts(a, stripesIn(1<<g.S-1, g.S)...), arrsThatBroke(a)[0]} {
			for _, b := range append(outside(len(words)), outside(g.S*g.N)...) {
				if within(b, 0, len(words)-1) {
					continue
				}
				if n, code := impl.GetBlock(x, b); n != 0 || code != impl.CoRange {
					t.Error("got", g, b, n, code)
				}
				for _, n := range []int{-1, 0, 65535, 65536} {
					if y, code := impl.SetBlock(x, b, n); code != impl.CoRange || !alike(y, x) {
						t.Error("set", g, b, n, code, y)
					}
				}
			}
		}
		for _, b := range []int{0, len(words) - 1} {
			if n, code := impl.GetBlock(a, b); n != words[b] || code != impl.CoGood {
				t.Error("got", g, b, n, code)
			}
			for _, n := range []int{0, 1, 65534, 65535} {
				x, code := wantSetBlock(t, "a word", a, b, n)
				if got, _ := impl.GetBlock(x, b); got != n || code != impl.CoGood {
					t.Error("set", g, b, n, code, got)
				}
			}
			for _, x := range []impl.Arr{a, withEnts(a, stripesIn(1<<g.S-1, g.S)...)} {
				for _, n := range wrongWords() {
					if y, code := impl.SetBlock(x, b, n); code != impl.CoSize || !alike(y, x) {
						t.Error("no word", g, b, n, code, y)
					}
				}
			}
		}
	}
}

func TestFlushOfStripesThatAreNotThere(t *testing.T) {
	t.Parallel()
	for _, g := range rightGeos() {
		a, _ := filled(g, drawn(229))
		full := withEnts(a, stripesIn(1<<g.S-1, g.S)...)
		for _, x := range append(arrsThatBroke(full), a, full) {
			for _, s := range outside(g.S) {
				if y, code := impl.FlushStripe(x, s); code != impl.CoRange || !alike(y, x) {
					t.Error(g, s, code, y)
				}
			}
		}
		for _, s := range []int{0, g.S - 1} {
			if y, code := wantFlush(t, "there", full, s); code != impl.CoGood || len(y.Dirty) != g.S-1 {
				t.Error(g, s, code, y.Dirty)
			}
		}
	}
}

// wantAllRefused asks that each call of the chapter is refused with this code,
// and turns nothing.
func wantAllRefused(t *testing.T, name string, a, plainly impl.Arr, at, code int) {
	t.Helper()
	if n, c := impl.GetBlock(a, at); n != 0 || c != code {
		t.Error(name, "GetBlock", at, n, c)
	}
	for _, n := range []int{7, 65536} {
		if x, c := impl.SetBlock(a, at, n); c != code || !alike(x, plainly) {
			t.Error(name, "SetBlock", at, n, c, x)
		}
	}
	if x, c := impl.FlushStripe(a, at); c != code || !alike(x, plainly) {
		t.Error(name, "FlushStripe", at, c, x)
	}
	if x, c := impl.FlushAll(a); c != code || !alike(x, plainly) {
		t.Error(name, "FlushAll", c, x)
	}
}

func TestMemoryOfWrongArrs(t *testing.T) {
	t.Parallel()
	for name, a := range wrongArrs() {
		wantAllRefused(t, name, a, a, 0, impl.CoForm)
		wantAllRefused(t, name+", with room", roomy(a), a, 0, impl.CoForm)
	}
	for _, at := range []int{-1, 0, 1, math.MinInt, math.MaxInt} {
		wantAllRefused(t, "the zero one", impl.Arr{}, impl.Arr{}, at, impl.CoForm)
	}
}

func TestMemoryWithoutPower(t *testing.T) {
	t.Parallel()
	for _, g := range rightGeos() {
		a, _ := filled(g, drawn(233))
		for _, full := range []impl.Arr{a, withEnts(a, stripesIn(1<<g.S-1, g.S)...)} {
			for _, x := range append(arrsThatBroke(full), full, withLost(full, 1, 0)) {
				x.Down, x.Fuse = true, g.S-2
				for _, at := range []int{-1, 0, g.S, g.S * g.N} {
					wantAllRefused(t, "Down", x, x, at, impl.CoDown)
				}
			}
		}
	}
}

// Of several reasons the first counts, whatever comes behind it.
func TestWhichCodeOfABlockCounts(t *testing.T) {
	reasons := []struct {
		code   int
		change func(a *impl.Arr, b, n *int)
	}{
		{impl.CoForm, func(a *impl.Arr, b, n *int) { a.Gen = 60001 }},
		{impl.CoDown, func(a *impl.Arr, b, n *int) { a.Down = true }},
		{impl.CoRange, func(a *impl.Arr, b, n *int) { *b = a.G.S * (a.G.N - 1) }},
		{impl.CoSize, func(a *impl.Arr, b, n *int) { *n = 65536 }},
		{impl.CoIo, func(a *impl.Arr, b, n *int) { a.Broken = true }},
		{impl.CoIo, func(a *impl.Arr, b, n *int) { *a = withBad(withBad(*a, 0, firstStripe), 2, firstStripe) }},
	}
	for _, g := range rightGeos() {
		for some := 1; some < 1<<len(reasons); some++ {
			a, b, n, set, got := wantNewArr(arrayId, g), 0, 65535, impl.CoGood, impl.CoGood
			for i, r := range reasons {
				if some>>i&1 == 0 {
					continue
				}
				r.change(&a, &b, &n)
				if set == impl.CoGood {
					set = r.code
				}
				if got == impl.CoGood && r.code != impl.CoSize {
					got = r.code
				}
			}
			if x, code := impl.SetBlock(a, b, n); code != set || !alike(x, a) {
				t.Errorf("%b: SetBlock is %d, not %d", some, code, set)
			}
			if w, code := impl.GetBlock(a, b); code != got || w != 0 {
				t.Errorf("%b: GetBlock is %d %d, not %d", some, w, code, got)
			}
		}
	}
}

func TestWhichCodeOfAFlushCounts(t *testing.T) {
	reasons := []struct {
		code   int
		change func(a *impl.Arr, s *int)
	}{
		{impl.CoForm, func(a *impl.Arr, s *int) { a.Id = 0 }},
		{impl.CoDown, func(a *impl.Arr, s *int) { a.Down = true }},
		{impl.CoRange, func(a *impl.Arr, s *int) { *s = a.G.S }},
		{impl.CoGood, func(a *impl.Arr, s *int) { a.Dirty = nil }},
		{impl.CoIo, func(a *impl.Arr, s *int) { a.Broken = true }},
		{impl.CoFull, func(a *impl.Arr, s *int) { a.Seq, a.Tail = 60000, 59996 }},
		{impl.CoFull, func(a *impl.Arr, s *int) { a.Gen = fullFrom }},
	}
	for _, g := range rightGeos() {
		for some := 1; some < 1<<len(reasons); some++ {
			a, s, one, all := withEnts(wantNewArr(arrayId, g), 0), 0, -1, -1
			a.Fuse = 0
			for i, r := range reasons {
				if some>>i&1 == 0 {
					continue
				}
				r.change(&a, &s)
				if one == -1 {
					one = r.code
				}
				if all == -1 && r.code != impl.CoRange {
					all = r.code
				}
			}
			if x, code := impl.FlushStripe(a, s); code != one || !alike(x, a) {
				t.Errorf("%b: FlushStripe is %d, not %d", some, code, one)
			}
			if all == -1 {
				all = impl.CoDown // nothing is wrong, but the power goes
			}
			if x, code := impl.FlushAll(a); code != all || all != impl.CoDown && !alike(x, a) {
				t.Errorf("%b: FlushAll is %d, not %d", some, code, all)
			}
		}
	}
}

// Whatever is done one behind the other, up to where the power goes: all that
// is answered is what the document says, and each block what it was set to.
func TestAnyCallsOfMemory(t *testing.T) {
	t.Parallel()
	next, downs, ios, fulls := drawn(239), 0, 0, 0
	for range 600 {
		g := rightGeos()[next(24)]
		a := anyArr(g, next)
		for range 12 {
			a = wantAnyCall(t, a, next)
			if !impl.ArrOk(a) {
				t.Fatal("not right any more", a)
			}
			b := next(g.S*(g.N-1)+2) - 1
			n, code := impl.GetBlock(a, b)
			if want, wantedCode := wantGot(a, b); n != want || code != wantedCode {
				t.Fatal("block", b, "is", n, code, "not", want, wantedCode, "of", a)
			}
			if code == impl.CoIo {
				ios++
			}
		}
		if a.Down {
			downs++
		}
		if _, code := impl.FlushAll(a); code == impl.CoFull {
			fulls++
		}
	}
	if downs < 50 || downs > 550 || ios < 50 || fulls < 20 {
		t.Error("something seldom came:", downs, ios, fulls)
	}
}

// anyArr is right, whatever it lacks, and however near it is to its ends.
func anyArr(g impl.Geo, next func(int) int) impl.Arr {
	a, _ := filled(g, next)
	for range next(4) {
		why := lacks()[next(len(lacks()))]
		if x := why.of(a, next(g.N), next(g.S)); impl.ArrOk(x) {
			a = x
		}
	}
	a.Fuse = max(-1, next(200)-100)
	a.Tail = []int{0, 7, 59990, 59994}[next(4)]
	a.Seq = a.Tail + next(impl.Slots+1)
	a.Gen = []int{0, 5, 59987, 59989}[next(4)]
	a.Broken = next(20) == 0
	return withEnts(a, stripesIn(next(1<<g.S), g.S)...)
}

func wantAnyCall(t *testing.T, a impl.Arr, next func(int) int) impl.Arr {
	t.Helper()
	switch next(8) {
	case 0:
		a, _ = wantFlushAll(t, "any", a)
	case 1, 2:
		a, _ = wantFlush(t, "any", a, next(a.G.S+2)-1)
	default:
		a, _ = wantSetBlock(t, "any", a, next(a.G.S*(a.G.N-1)+2)-1, next(65540)-2)
	}
	return a
}

// arrsOfMemory have none, some or all of their stripes in memory; some of them
// are wrong, Down or Broken, or the power goes.
func arrsOfMemory() []impl.Arr {
	l := append(cornerArrs(), wrongArrs()["0 Id 0"], wrongArrs()["3 one disk less"], wrongArrs()["3 Dirty: twice"], impl.Arr{})
	next := drawn(241)
	for _, g := range []impl.Geo{{N: 3, S: 1}, {N: 4, S: 3}, {N: 5, S: 8}} {
		a, _ := filled(g, next)
		for _, c := range standingsAt(a, 0) {
			for _, some := range []int{0, 1, 1 << (g.S - 1), 1<<g.S - 1} {
				x := withEnts(c.a, stripesIn(some, g.S)...)
				x.Seq, x.Fuse = next(impl.Slots+1), max(-1, next(30)-10)
				l = append(l, x)
			}
		}
		for _, x := range unreadable(withEnts(a, 0), g.S-1) {
			l = append(l, x)
		}
	}
	return l
}

func TestMemoryHoldsApart(t *testing.T) {
	t.Parallel()
	for _, plainly := range arrsOfMemory() {
		a, last := roomy(plainly), plainly.G.S*(plainly.G.N-1)-1
		for _, b := range []int{-1, 0, last, last + 1} {
			holdsApart(t, "GetBlock", []any{a}, func() []any { impl.GetBlock(a, b); return nil })
			n, code := impl.GetBlock(a, b)
			if m, c := impl.GetBlock(plainly, b); n != m || code != c {
				t.Error("GetBlock: what lies behind was read", b, plainly)
			}
			for _, n := range []int{5, 65536} {
				wantApart(t, "SetBlock", a, plainly, func(a impl.Arr) (impl.Arr, int) { return impl.SetBlock(a, b, n) })
			}
		}
		for _, s := range []int{-1, 0, a.G.S - 1, a.G.S} {
			wantApart(t, "FlushStripe", a, plainly, func(a impl.Arr) (impl.Arr, int) { return impl.FlushStripe(a, s) })
		}
		wantApart(t, "FlushAll", a, plainly, impl.FlushAll)
		holdsApart(t, "Clean", []any{a}, func() []any { impl.Clean(a); return nil })
	}
}

// wantApart asks it of a call that answers an Arr: roomed is as plainly, with
// junk behind each list.
func wantApart(t *testing.T, name string, roomed, plainly impl.Arr, call func(impl.Arr) (impl.Arr, int)) {
	t.Helper()
	x, code := impl.Arr{}, 0
	holdsApart(t, name, []any{roomed}, func() []any {
		x, code = call(roomed)
		y, _ := call(roomed)
		return []any{x, y}
	})
	if y, c := call(plainly); c != code || !alike(x, y) {
		t.Error(name, "what lies behind was read", plainly)
	}
}

// What was answered stays as it was, whatever is done with it, and so does
// what was handed in.
func TestMemoryTurnsApart(t *testing.T) {
	a := withEnts(impl.ArrNew(arrayId, impl.Geo{N: 3, S: 4}), 0, 2)
	was := plain(a)
	same, _ := impl.SetBlock(a, 1, 50)
	came, _ := impl.SetBlock(a, 2, 51)
	gone, _ := impl.FlushStripe(a, 0)
	left, _ := impl.FlushStripe(a, 1)
	all, _ := impl.FlushAll(a)
	for i, x := range []impl.Arr{same, came, gone, left, all} {
		for k := range x.Dirty {
			x.Dirty[k].Data[0], x.Dirty[k].Stripe = 9, 9
		}
		x.Mems[0].Secs[firstStripe][0] = 9
		if !alike(a, was) {
			t.Fatal("it turned", i, a)
		}
	}
	x, _ := impl.SetBlock(a, 0, 60)
	y, _ := impl.SetBlock(x, 0, 61)
	z, _ := impl.SetBlock(x, 1, 62)
	a.Dirty[0].Data[0], x.Dirty[1].Data[1] = 77, 78
	for i, c := range []struct {
		a    impl.Arr
		b, n int
	}{{a, 0, 77}, {x, 0, 60}, {y, 0, 61}, {z, 0, 60}, {z, 1, 62}, {x, 5, 78}, {y, 5, was.Dirty[1].Data[1]}} {
		if n, code := impl.GetBlock(c.a, c.b); n != c.n || code != impl.CoGood {
			t.Error(i, n, code)
		}
	}
}
