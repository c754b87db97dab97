package tests

import (
	"fmt"
	"math"
	"math/bits"
	"slices"
	"testing"

	"loop.example/g00398/impl"
)

// wantXor is XorAt by the document's words. It asks neither for ArrOk nor for
// Broken; which disks there are to be is what the Geo says.
func wantXor(a impl.Arr, s int) (int, bool) {
	if !geoRight(a.G) || !within(s, 0, a.G.S-1) {
		return 0, false
	}
	x := 0
	for m := range a.G.N {
		if !wantLive(a, m, s) {
			return 0, false
		}
		held, ok := impl.ReadSec(a.Mems[m], firstStripe+s)
		if !ok || len(held) != 1 {
			return 0, false
		}
		x ^= held[0]
	}
	return x, true
}

func geoRight(g impl.Geo) bool {
	return within(g.N, fewestDisks, mostDisks) && within(g.S, 1, impl.MaxStripes)
}

// wantCounts answers Even and Bare by the document's words.
func wantCounts(a impl.Arr) (bool, int) {
	even, bare := true, 0
	for s := 0; geoRight(a.G) && s < a.G.S; s++ {
		x, there := wantXor(a, s)
		even = even && (!there || x == 0)
		if !there && wantArrOk(a) {
			bare++
		}
	}
	return even, bare
}

func wantContents(a impl.Arr) []int {
	if !geoRight(a.G) {
		return nil
	}
	l := []int{}
	for b := range a.G.S * (a.G.N - 1) {
		n, code := wantGot(a, b)
		if code != impl.CoGood {
			return nil
		}
		l = append(l, n)
	}
	return l
}

func wantDurable(a impl.Arr) []int {
	if !wantArrOk(a) {
		return nil
	}
	l := []int{}
	for s := range a.G.S {
		words, ok := wantWords(a, s)
		if !ok {
			return nil
		}
		l = append(l, blocksOf(a.G, s, words)...)
	}
	return l
}

// stripesToAsk answers a Geo's own stripes, and those about its ends.
func stripesToAsk(g impl.Geo) []int {
	l := append(outside(g.S), g.S-1)
	for s := range impl.MaxStripes + 2 {
		l = append(l, s)
	}
	return l
}

// wantScrubbed asks each call of the chapter for what the document says, and
// that the array is as it was behind them.
func wantScrubbed(t *testing.T, name string, a impl.Arr) {
	t.Helper()
	was := plain(a)
	for _, s := range stripesToAsk(a.G) {
		x, ok := impl.XorAt(a, s)
		if want, there := wantXor(a, s); x != want || ok != there {
			t.Fatal(name, a.G, "XorAt", s, "is", x, ok, "not", want, there, "of", a)
		}
	}
	even, bare := wantCounts(a)
	if is := impl.Even(a); is != even {
		t.Fatal(name, a.G, "Even is", is, "of", a)
	}
	if is := impl.Bare(a); is != bare {
		t.Fatal(name, a.G, "Bare is", is, "not", bare, "of", a)
	}
	if is, want := impl.Contents(a), wantContents(a); !slices.Equal(is, want) {
		t.Fatal(name, a.G, "Contents is", is, "not", want, "of", a)
	}
	if is, want := impl.Durable(a), wantDurable(a); !slices.Equal(is, want) {
		t.Fatal(name, a.G, "Durable is", is, "not", want, "of", a)
	}
	if !alike(a, was) {
		t.Fatal(name, "it turned", a, "was", was)
	}
}

// wantBoth asks for Contents and Durable, nil where there is to be nothing.
func wantBoth(t *testing.T, name string, a impl.Arr, contents, durable []int) {
	t.Helper()
	if l := impl.Contents(a); !slices.Equal(l, contents) {
		t.Fatal(name, a.G, "Contents is", l, "not", contents, "of", a)
	}
	if l := impl.Durable(a); !slices.Equal(l, durable) {
		t.Fatal(name, a.G, "Durable is", l, "not", durable, "of", a)
	}
}

// wantXorAt asks for what is there, or with ok false for 0 and false.
func wantXorAt(t *testing.T, name string, a impl.Arr, s, x int, ok bool) {
	t.Helper()
	if is, there := impl.XorAt(a, s); is != x || there != ok {
		t.Fatal(name, a.G, "XorAt", s, "is", is, there, "not", x, ok, "of", a)
	}
}

// Told by hand: three disks, two stripes, one call behind the other.
func TestScrubAsItIsTold(t *testing.T) {
	a := impl.ArrNew(arrayId, impl.Geo{N: 3, S: 2})
	wantXorAt(t, "new", a, 0, 0, true)
	wantBoth(t, "new", a, []int{0, 0, 0, 0}, []int{0, 0, 0, 0})
	a, _ = impl.WriteStripe(a, 0, []int{5, 6})
	a, _ = impl.SetBlock(a, 3, 9)
	wantBoth(t, "written and set", a, []int{5, 6, 0, 9}, []int{5, 6, 0, 0})
	for s := range 2 {
		wantXorAt(t, "written and set", a, s, 0, true)
	}
	a.Mems[0].Cache[0].S = []int{12} // 12 ^ 6 ^ 3
	wantXorAt(t, "bent", a, 0, 9, true)
	wantXorAt(t, "bent", a, 1, 0, true)
	wantBoth(t, "bent", a, []int{12, 6, 0, 9}, []int{12, 6, 0, 0})
	if impl.Even(a) || impl.Bare(a) != 0 {
		t.Error("bent", impl.Even(a), impl.Bare(a))
	}
	a = withBad(a, 0, firstStripe) // what cannot be read is made of the others
	wantXorAt(t, "Bad", a, 0, 0, false)
	wantBoth(t, "Bad", a, []int{5, 6, 0, 9}, []int{5, 6, 0, 0})
	if !impl.Even(a) || impl.Bare(a) != 1 {
		t.Error("Bad", impl.Even(a), impl.Bare(a))
	}
	a = withLost(a, 1, 1)
	if wantXorAt(t, "Lost", a, 1, 0, false); impl.Bare(a) != 2 || !impl.Even(a) {
		t.Error("Lost", impl.Bare(a))
	}
	wantBoth(t, "Lost", a, []int{5, 6, 0, 9}, []int{5, 6, 0, 0})
	wantBoth(t, "not built", withLost(a, 1, 0), nil, nil)
	a, _ = impl.FlushAll(a)
	wantBoth(t, "flushed", a, []int{5, 6, 0, 9}, []int{5, 6, 0, 9})
	wantBoth(t, "off", impl.PowerOff(a), nil, []int{5, 6, 0, 9})
}

// Each stripe, and none that is not there: not the one ahead of the first, nor
// the one behind the last.
func TestXorAtEachStripe(t *testing.T) {
	t.Parallel()
	for _, g := range rightGeos() {
		a := wantNewArr(arrayId, g)
		for s := range g.S {
			a = withWr(a, s%g.N, firstStripe+s, 100+s)
		}
		for s := range g.S {
			wantXorAt(t, "there", a, s, 100+s, true)
			wantXorAt(t, "even", wantNewArr(arrayId, g), s, 0, true)
		}
		for _, s := range append(outside(g.S), 1<<40, 1<<40+1) {
			wantXorAt(t, "not there", a, s, 0, false)
		}
	}
}

// A stripe that the Geo does not name is not there, also where the disks have
// a sector with one word in its place.
func TestXorAtOfMoreSectors(t *testing.T) {
	for _, g := range rightGeos() {
		a := wantNewArr(arrayId, g)
		for m := range g.N {
			a = sectorMore(a, m)
			a.Mems[m].Secs[firstStripe+g.S] = []int{1 << m}
		}
		wantXorAt(t, "the sector behind the last", a, g.S, 0, false)
		wantXorAt(t, "the slot ahead of the first", a, -1, 0, false)
		if !impl.Even(a) {
			t.Error("the sector behind the last was asked", g)
		}
		if impl.Bare(a) != 0 {
			t.Error("it is not ArrOk", g, impl.Bare(a))
		}
		for _, n := range []int{2, 6} {
			x := wantNewArr(arrayId, impl.Geo{N: n, S: g.S})
			wantXorAt(t, "so many disks there are never", withSector(x, 0, firstStripe, 5), 0, 0, false)
		}
	}
}

// Whichever disk has no word of its own, and why, the stripe has no XorAt, and
// all others where the disk is there have theirs.
func TestXorAtWhereADiskLacksItsWord(t *testing.T) {
	t.Parallel()
	for _, g := range rightGeos() {
		a, held := filled(g, drawn(383))
		for _, why := range lacks() {
			for m := range g.N {
				for s := range g.S {
					x := why.of(a, m, s)
					wantXorAt(t, why.name, x, s, 0, false)
					for other := range g.S {
						there := other != s && wantLive(x, m, other)
						wantXorAt(t, why.name, x, other, 0, there)
					}
					wantScrubbed(t, why.name, x)
					wantBoth(t, why.name, x, blockWords(g, held), blockWords(g, held))
				}
			}
		}
	}
}

// What is Lost, but built past the stripe, has a word like any other; at Built
// it has none.
func TestXorAtAtBuilt(t *testing.T) {
	for _, g := range rightGeos() {
		for m := range g.N {
			a := wantNewArr(arrayId, g)
			for s := range g.S {
				a = withSector(a, m, firstStripe+s, 7+s)
			}
			for built := 0; built <= g.S; built++ {
				x := withLost(a, m, built)
				for s := range g.S {
					want := 7 + s
					if s >= built {
						want = 0
					}
					wantXorAt(t, "Lost", x, s, want, s < built)
					wantXorAt(t, "Failed", withFailed(x, m), s, 0, false)
				}
				if impl.Even(x) != (built == 0) || impl.Bare(x) != g.S-built {
					t.Fatal(g, m, built, impl.Even(x), impl.Bare(x))
				}
				if gone := withFailed(x, m); !impl.Even(gone) || impl.Bare(gone) != g.S {
					t.Fatal("Failed", g, m, built, impl.Bare(gone))
				}
			}
		}
	}
}

// What stands in the cache alone counts, the last of it; what lies under it
// does not.
func TestXorAtOfTheCache(t *testing.T) {
	for _, g := range rightGeos() {
		for s := range g.S {
			at, alone := firstStripe+s, wantNewArr(arrayId, g)
			for m := range g.N {
				alone = withWr(withSector(alone, m, at), m, at, 1<<m)
			}
			wantXorAt(t, "in the caches alone", alone, s, 1<<g.N-1, true)
			for m := range g.N {
				a := wantNewArr(arrayId, g)
				wantXorAt(t, "the last of three", withWr(withWr(withWr(a, m, at, 1), m, at), m, at, 40), s, 40, true)
				wantXorAt(t, "even above a word that is not", withWr(withSector(a, m, at, 9), m, at, 0), s, 0, true)
				wantXorAt(t, "even above two", withWr(withWr(a, m, at, 5, 6), m, at, 0), s, 0, true)
				wantXorAt(t, "none in the cache", withWr(a, m, at), s, 0, false)
				wantXorAt(t, "two in the cache", withWr(a, m, at, 1, 1), s, 0, false)
				wantXorAt(t, "two, the second behind", withWr(a, m, at, []int{3, 4}[:1]...), s, 3, true)
				wantXorAt(t, "none in the cache, of all", withWr(alone, m, at), s, 0, false)
				wantXorAt(t, "Bad, but in the cache", withBad(alone, m, at), s, 0, false)
				if s+1 < g.S {
					wantXorAt(t, "in the cache of the next", withWr(a, m, at+1, 5), s, 0, true)
				}
			}
		}
	}
}

// Which sectors are Bad beside the stripe's own is nothing to it: those of the
// Supers, the slots, and the other stripes.
func TestXorAtOfItsSectorAlone(t *testing.T) {
	for _, g := range rightGeos() {
		for s := range g.S {
			for m := range g.N {
				a := wantNewArr(arrayId, g)
				for n := range firstStripe + g.S {
					if n != firstStripe+s {
						a = withBad(withSector(a, m, n, 1, 2), m, n)
					}
				}
				wantXorAt(t, "the others are Bad", a, s, 0, true)
				if impl.Bare(a) != g.S-1 || !impl.Even(a) {
					t.Fatal(g, s, m, impl.Bare(a))
				}
				a = withSector(a, m, firstStripe+s, 8)
				wantXorAt(t, "the others are Bad, and it is not even", a, s, 8, true)
				if impl.Bare(a) != g.S-1 || impl.Even(a) {
					t.Fatal("not even", g, s, m, impl.Bare(a))
				}
			}
		}
	}
}

// Neither the power, nor what is in memory, nor the numbers turn what the
// disks hold; nor does it that the array is Broken, as long as they are there.
func TestXorAtHangsOnTheDisksAlone(t *testing.T) {
	t.Parallel()
	for _, g := range rightGeos() {
		even, _ := filled(g, drawn(389))
		bent := withWr(even, 1, firstStripe, wantRead(even.Mems[1], firstStripe)[0]^6)
		for i, a := range []impl.Arr{even, bent} {
			broken := a
			broken.Broken = true
			for _, x := range slices.Concat(arrsOfNumbers(a), arrsOfDirty(a), []impl.Arr{broken, impl.PowerOff(a), impl.PowerOff(broken)}) {
				for s := range g.S {
					want := 0
					if s == 0 && i == 1 {
						want = 6
					}
					wantXorAt(t, "other numbers", x, s, want, true)
				}
				if impl.Even(x) != (i == 0) || impl.Bare(x) != 0 {
					t.Fatal(g, impl.Even(x), impl.Bare(x), x)
				}
				wantScrubbed(t, "other numbers", x)
			}
			for _, x := range arrsThatBroke(a) {
				wantScrubbed(t, "Broken", x)
			}
		}
	}
}

// Whichever stripes are bare they are counted, and one that is not even is told
// beside them, unless it is bare itself.
func TestBareBesideWhatIsNotEven(t *testing.T) {
	t.Parallel()
	wordLacks := slices.DeleteFunc(lacks(), func(why lack) bool { return why.lost })
	for _, g := range rightGeos() {
		a, _ := filled(g, drawn(397))
		for some := range 1 << g.S {
			x := a
			for _, s := range stripesIn(some, g.S) {
				x = wordLacks[(some+s)%len(wordLacks)].of(x, (some+s)%g.N, s)
			}
			if bare := bits.OnesCount(uint(some)); impl.Bare(x) != bare || !impl.Even(x) {
				t.Fatal(g, stripesIn(some, g.S), impl.Bare(x), "not", bare)
			}
			s := some % g.S
			m := (some + s + 1) % g.N // another disk than the one that lacks its word
			bent := withWr(x, m, firstStripe+s, wantRead(x.Mems[m], firstStripe+s)[0]^1)
			if impl.Even(bent) != (some>>s&1 == 1) || impl.Bare(bent) != bits.OnesCount(uint(some)) {
				t.Fatal("bent", s, g, stripesIn(some, g.S), impl.Even(bent), impl.Bare(bent))
			}
		}
		gone := withLost(withFailed(a, 1), 1, 0)
		if impl.Bare(gone) != g.S || !impl.Even(gone) {
			t.Fatal("all of them", g, impl.Bare(gone))
		}
	}
}

// A stripe that two disks lack is bare once.
func TestBareOfStripesThatCannotBeRead(t *testing.T) {
	for _, g := range rightGeos() {
		a, _ := filled(g, drawn(401))
		for s := range g.S {
			x := a
			for m := range g.N {
				x = withBad(x, m, firstStripe+s)
				if impl.Bare(x) != 1 || !impl.Even(x) {
					t.Fatal(g, s, m, impl.Bare(x))
				}
				if impl.Bare(withLost(x, 0, 0)) != g.S {
					t.Fatal("one Lost", g, s, m, impl.Bare(withLost(x, 0, 0)))
				}
			}
		}
		broken := withFailed(withFailed(a, 0), 2)
		broken.Broken = true
		if impl.Bare(broken) != g.S || !impl.Even(broken) {
			t.Fatal("Broken", g, impl.Bare(broken))
		}
	}
}

// Of what is not ArrOk nothing is bare, and no block is there; but a stripe
// whose disks all hold their word has its XorAt, and is even or not.
func TestScrubOfWrongArrs(t *testing.T) {
	t.Parallel()
	bare, uneven := 0, 0
	for name, a := range wrongArrs() {
		bent, gone := a, a
		for m := range a.Mems {
			gone = withFailed(gone, m)
		}
		if len(a.Mems) > 0 {
			bent = withWr(a, 0, firstStripe, 4321)
		}
		for _, x := range []impl.Arr{a, roomy(a), bent, gone} {
			wantScrubbed(t, name, x)
			if impl.Bare(x) != 0 {
				t.Error(name, "Bare", impl.Bare(x))
			}
			wantBoth(t, name, x, nil, nil)
		}
		if _, ok := impl.XorAt(a, 0); !ok {
			bare++
		}
		if !impl.Even(bent) {
			uneven++
		}
	}
	for _, a := range []impl.Arr{{}, {G: impl.Geo{N: 3, S: 2}}, {Mems: wantNewArr(1, impl.Geo{N: 3, S: 2}).Mems}} {
		wantScrubbed(t, "nearly nothing", a)
		wantXorAt(t, "nearly nothing", a, 0, 0, false)
		if !impl.Even(a) || impl.Bare(a) != 0 {
			t.Error(a, impl.Even(a), impl.Bare(a))
		}
	}
	if bare < 100 || uneven < 100 {
		t.Error("something seldom came:", bare, uneven)
	}
}

// Told by hand, of an array that is wrong by its number alone, and of one that
// has fewer or more disks than its Geo says.
func TestXorAtOfWrongArrsAsItIsTold(t *testing.T) {
	for _, g := range rightGeos() {
		a := withSector(wantNewArr(arrayId, g), 1, firstStripe, 5)
		a.Id = 0
		if wantXorAt(t, "Id 0", a, 0, 5, true); impl.Even(a) || impl.Bare(a) != 0 {
			t.Error("Id 0", g, impl.Bare(a))
		}
		a = withBad(a, 0, firstStripe)
		if wantXorAt(t, "Id 0, and Bad", a, 0, 0, false); !impl.Even(a) || impl.Bare(a) != 0 {
			t.Error("Id 0, and Bad", g, impl.Bare(a))
		}
		a = withSector(wantNewArr(arrayId, g), 1, firstStripe, 5)
		less, more := a, a
		less.Mems = a.Mems[:g.N-1]
		if wantXorAt(t, "a disk less, which lies behind", less, 0, 0, false); !impl.Even(less) {
			t.Error("a disk less", g)
		}
		more.Mems = append(slices.Clone(a.Mems), a.Mems[1])
		if wantXorAt(t, "a disk more", more, 0, 5, true); impl.Even(more) {
			t.Error("a disk more", g)
		}
		for _, far := range append(wrongGeos(), impl.Geo{}) {
			x := a
			x.G = far
			for _, s := range []int{-1, 0, 1, far.S - 1, far.S, math.MaxInt} {
				wantXorAt(t, "a wrong Geo", x, s, 0, false)
			}
			if !impl.Even(x) || impl.Bare(x) != 0 {
				t.Error("a wrong Geo", far)
			}
			wantBoth(t, "a wrong Geo", x, nil, nil)
		}
	}
}

// Each block of every Geo, in its place, whichever stripes are in memory; what
// is in memory is none of what is durable.
func TestContentsOfEachBlock(t *testing.T) {
	t.Parallel()
	for _, g := range rightGeos() {
		a, held := filled(g, drawn(409))
		words := blockWords(g, held)
		for some := range 1 << g.S {
			x, want := withEnts(a, stripesIn(some, g.S)...), slices.Clone(words)
			for _, e := range x.Dirty {
				copy(want[e.Stripe*(g.N-1):], e.Data)
			}
			wantBoth(t, "some in memory", x, want, words)
			wantBlocks(t, "some in memory", x, impl.Contents(x))
		}
		for b := range words {
			x, _ := impl.SetBlock(a, b, words[b]^1)
			want := slices.Clone(words)
			want[b] ^= 1
			wantBoth(t, "one is set", x, want, words)
			if x, code := impl.FlushAll(x); code != impl.CoGood || !impl.Clean(x) {
				t.Fatal(code)
			} else {
				wantBoth(t, "one is set and flushed", x, want, want)
			}
		}
	}
}

// Where one disk is missing all blocks are there.
func TestContentsWhereOneDiskIsMissing(t *testing.T) {
	t.Parallel()
	for _, g := range rightGeos() {
		a, held := filled(g, drawn(419))
		words := blockWords(g, held)
		for _, c := range standingsAt(a, g.S/2) {
			wantBoth(t, c.name, c.a, words, words)
			want := slices.Clone(words)
			x := withEnts(c.a, g.S-1)
			copy(want[(g.S-1)*(g.N-1):], x.Dirty[0].Data)
			wantBoth(t, c.name+", the last in memory", x, want, words)
		}
		// Each stripe may lack the word of another disk.
		for first := range g.N {
			x := a
			for s := range g.S {
				x = withBad(x, (first+s)%g.N, firstStripe+s)
			}
			wantBoth(t, "each lacks one", x, words, words)
		}
	}
}

// Where two are missing of one stripe, nothing is answered, however many of the
// others are there; but what is in memory is got all the same.
func TestContentsWhereTwoDisksAreMissing(t *testing.T) {
	t.Parallel()
	for _, g := range rightGeos() {
		a, held := filled(g, drawn(421))
		words := blockWords(g, held)
		for s := range g.S {
			for name, x := range unreadable(a, s) {
				wantBoth(t, name, x, nil, nil)
				wantScrubbed(t, name, x)
				own, others := withEnts(x, s), slices.DeleteFunc(stripesIn(1<<g.S-1, g.S), func(n int) bool { return n == s })
				want := slices.Clone(words)
				copy(want[s*(g.N-1):], own.Dirty[0].Data)
				if x.Broken && g.S > 1 {
					want = nil
				}
				wantBoth(t, name+", in memory", own, want, nil)
				wantBoth(t, name+", the others in memory", withEnts(x, others...), nil, nil)
				all := withEnts(x, stripesIn(1<<g.S-1, g.S)...)
				want = []int{}
				for _, e := range all.Dirty {
					want = append(want, e.Data...)
				}
				wantBoth(t, name+", all in memory", all, want, nil)
			}
		}
	}
}

// Without power no block is got, but what the disks hold they hold.
func TestContentsWithoutPower(t *testing.T) {
	t.Parallel()
	for _, g := range rightGeos() {
		a, held := filled(g, drawn(431))
		words := blockWords(g, held)
		for _, full := range []impl.Arr{a, withEnts(a, 0), withEnts(a, stripesIn(1<<g.S-1, g.S)...)} {
			for _, c := range standingsAt(full, 0) {
				x := c.a
				x.Down = true
				wantBoth(t, c.name+", Down", x, nil, words)
				x.Fuse = 3
				wantBoth(t, c.name+", Down with a Fuse", x, nil, words)
				wantScrubbed(t, c.name+", Down", x)
			}
			for name, x := range unreadable(full, 0) {
				x.Down = true
				wantBoth(t, name+", Down", x, nil, nil)
			}
		}
	}
}

// With a Fuse that is burnt down, as long as it is not Down, all is there: none
// of these calls is a disk operation.
func TestScrubBurnsNoFuse(t *testing.T) {
	for _, g := range rightGeos() {
		a, held := filled(g, drawn(433))
		words := blockWords(g, held)
		for _, fuse := range []int{-1, 0, 1, mostFuse} {
			a.Fuse = fuse
			wantBoth(t, fmt.Sprint("Fuse ", fuse), a, words, words)
			wantScrubbed(t, fmt.Sprint("Fuse ", fuse), a)
		}
	}
}

// Whatever the disks hold and lack, and whatever is in memory.
func TestScrubOfAnyArr(t *testing.T) {
	t.Parallel()
	next, evens, uneven, bares, there := drawn(439), 0, 0, 0, 0
	for range 6000 {
		g := rightGeos()[next(24)]
		a := anyArr(g, next)
		for range next(3) {
			a = withWr(a, next(g.N), firstStripe+next(g.S), next(65536))
		}
		a.Down = next(10) == 0
		wantScrubbed(t, "any", a)
		wantScrubbed(t, "any, with room", roomy(a))
		if impl.Even(a) {
			evens++
		} else {
			uneven++
		}
		if impl.Bare(a) > 0 {
			bares++
		}
		if len(impl.Contents(a)) > 0 {
			there++
		}
	}
	if evens < 1000 || uneven < 1000 || bares < 1000 || there < 1000 {
		t.Error("something seldom came:", evens, uneven, bares, there)
	}
}

// arrsToScrub are right and wrong, even and not, with stripes that are bare,
// and such that cannot be read.
func arrsToScrub() []impl.Arr {
	l := slices.Concat(arrsOfMemory(), arrsThatBroke(wantNewArr(arrayId, impl.Geo{N: 4, S: 2})))
	a, _ := filled(impl.Geo{N: 4, S: 3}, drawn(443))
	for _, why := range lacks() {
		l = append(l, why.of(a, 2, 1), why.of(why.of(a, 2, 1), 0, 1))
	}
	for _, part := range []map[string]impl.Arr{wrongByMems(a), wrongByDirty(a)} {
		for _, x := range part {
			l = append(l, x)
		}
	}
	return append(l, withWr(a, 1, firstStripe+1, 65535), impl.PowerOff(a))
}

func TestScrubsHoldApart(t *testing.T) {
	t.Parallel()
	for _, plainly := range arrsToScrub() {
		a := roomy(plainly)
		for _, s := range []int{-1, 0, 1, a.G.S - 1, a.G.S} {
			holdsApart(t, "XorAt", []any{a}, func() []any { impl.XorAt(a, s); return nil })
			x, ok := impl.XorAt(a, s)
			if y, there := impl.XorAt(plainly, s); x != y || ok != there {
				t.Error("XorAt: what lies behind was read", s, plainly)
			}
		}
		holdsApart(t, "Even", []any{a}, func() []any { impl.Even(a); return nil })
		holdsApart(t, "Bare", []any{a}, func() []any { impl.Bare(a); return nil })
		holdsApart(t, "Contents", []any{a}, func() []any { return []any{impl.Contents(a), impl.Contents(a)} })
		holdsApart(t, "Durable", []any{a}, func() []any { return []any{impl.Durable(a), impl.Durable(a)} })
		if impl.Even(a) != impl.Even(plainly) || impl.Bare(a) != impl.Bare(plainly) {
			t.Error("what lies behind was read", plainly)
		}
		wantBoth(t, "what lies behind", a, impl.Contents(plainly), impl.Durable(plainly))
	}
}

// What would count lies behind the lengths: it is neither read nor handed out.
func TestWhatLiesBehindIsNotScrubbed(t *testing.T) {
	g := impl.Geo{N: 3, S: 2}
	a := wantNewArr(arrayId, g)
	for m := range a.Mems {
		a.Mems[m].Cache = []impl.Wr{{N: firstStripe, S: []int{5 + m}}}[:0]
		a.Mems[m].Bad = []int{firstStripe, firstStripe + 1}[:0]
		a.Mems[m].Secs[firstStripe+1] = []int{0, 9}[:1]
	}
	a.Dirty = []impl.Ent{{Stripe: 0, Data: []int{7, 8}}}[:0]
	if !impl.Even(a) || impl.Bare(a) != 0 {
		t.Error("what lies behind was read", impl.Even(a), impl.Bare(a))
	}
	wantBoth(t, "behind the lengths", a, []int{0, 0, 0, 0}, []int{0, 0, 0, 0})
	a.Mems[2].Secs[firstStripe+1] = []int{4}[:0]
	if !impl.Even(a) || impl.Bare(a) != 1 {
		t.Error("a word behind the length", impl.Even(a), impl.Bare(a))
	}
}

// What is answered turns nothing of the array, and the other way round.
func TestScrubsTurnApart(t *testing.T) {
	a := withEnts(impl.ArrNew(arrayId, impl.Geo{N: 3, S: 2}), 1)
	was := plain(a)
	contents, durable := impl.Contents(a), impl.Durable(a)
	for b := range contents {
		contents[b], durable[b] = 900+b, 800+b
	}
	if !alike(a, was) {
		t.Error("it turned", a)
	}
	a.Dirty[0].Data[0], a.Mems[0].Secs[firstStripe][0] = 77, 78
	if !slices.Equal(contents, []int{900, 901, 902, 903}) || !slices.Equal(durable, []int{800, 801, 802, 803}) {
		t.Error("it turned", contents, durable)
	}
}
