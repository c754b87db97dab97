package tests

import (
	"math"
	"slices"
	"testing"

	"loop.example/g00398/impl"
)

const (
	fewestDisks = 3
	mostDisks   = 5
)

func rightGeos() []impl.Geo {
	l := []impl.Geo{}
	for n := fewestDisks; n <= mostDisks; n++ {
		for s := 1; s <= impl.MaxStripes; s++ {
			l = append(l, impl.Geo{N: n, S: s})
		}
	}
	return l
}

// wrongGeos answers each Geo that has a wrong number of disks, of stripes, or
// of both.
func wrongGeos() []impl.Geo {
	disks := []int{2, 6, 1, 0, -1, -3, 100, 1<<32 + 3, math.MinInt, math.MaxInt}
	stripes := []int{0, impl.MaxStripes + 1, -1, -impl.MaxStripes, 100, 1<<32 + 1, math.MinInt, math.MaxInt}
	l := []impl.Geo{}
	for _, n := range disks {
		for s := 1; s <= impl.MaxStripes; s++ {
			l = append(l, impl.Geo{N: n, S: s})
		}
		for _, s := range stripes {
			l = append(l, impl.Geo{N: n, S: s})
		}
	}
	for n := fewestDisks; n <= mostDisks; n++ {
		for _, s := range stripes {
			l = append(l, impl.Geo{N: n, S: s})
		}
	}
	return l
}

// outside answers numbers that are not 0 .. n less 1. By wrap-round some of
// them would make a number that is.
func outside(n int) []int {
	l := []int{-1, -2, -n, n, n + 1, 2 * n, n + 1000, math.MinInt, math.MinInt + 1, math.MaxInt, math.MaxInt - 1, 1 << 32, -1 << 32}
	for part := 2; part <= mostDisks; part++ {
		l = append(l, math.MaxInt/part, math.MaxInt/part+1, math.MinInt/part, math.MinInt/part-1)
	}
	return append(l, 1<<62, -1<<62, 1<<63-1<<60, 1<<61)
}

// laidOut answers, by the document's words, what each disk has of each stripe:
// its parity (-1), or one of its blocks. No rest is taken here: parity goes
// down by one from the last disk, and behind the first the last comes again.
func laidOut(g impl.Geo) [][]int {
	out := [][]int{}
	parity, block := g.N-1, 0
	for range g.S {
		disks := make([]int, g.N)
		disks[parity] = -1
		at := parity
		for range g.N - 1 {
			if at++; at == g.N {
				at = 0
			}
			disks[at] = block
			block++
		}
		out = append(out, disks)
		if parity--; parity < 0 {
			parity = g.N - 1
		}
	}
	return out
}

func TestLimitOfStripes(t *testing.T) {
	if impl.MaxStripes != 8 {
		t.Error("MaxStripes is", impl.MaxStripes)
	}
}

func TestGeoOk(t *testing.T) {
	for _, g := range rightGeos() {
		if !impl.GeoOk(g) {
			t.Error("refused", g)
		}
	}
	for _, g := range append(wrongGeos(), impl.Geo{}) {
		if impl.GeoOk(g) {
			t.Error("accepted", g)
		}
	}
}

func TestBlocks(t *testing.T) {
	for n, want := range map[int][]int{
		3: {2, 4, 6, 8, 10, 12, 14, 16},
		4: {3, 6, 9, 12, 15, 18, 21, 24},
		5: {4, 8, 12, 16, 20, 24, 28, 32},
	} {
		for i, w := range want {
			if x := impl.Blocks(impl.Geo{N: n, S: i + 1}); x != w {
				t.Error(n, i+1, x, "not", w)
			}
		}
	}
	for _, g := range append(wrongGeos(), impl.Geo{}) {
		if x := impl.Blocks(g); x != 0 {
			t.Error(g, x)
		}
	}
}

func TestGeosAsLaidOut(t *testing.T) {
	for _, g := range rightGeos() {
		for s, disks := range laidOut(g) {
			for d, b := range disks {
				if b < 0 {
					if x := impl.ParityOf(g, s); x != d {
						t.Error(g, "parity of", s, x, "not", d)
					}
					continue
				}
				i := b - s*(g.N-1)
				if x := impl.DiskOf(g, s, i); x != d {
					t.Error(g, "disk of", s, i, x, "not", d)
				}
				if x := impl.BlockAt(g, s, i); x != b {
					t.Error(g, "block at", s, i, x, "not", b)
				}
				if x, y := impl.StripeOf(g, b), impl.IndexOf(g, b); x != s || y != i {
					t.Error(g, "place of", b, x, y, "not", s, i)
				}
			}
		}
	}
}

// The promise itself: a block has one place, and it alone.
func TestEachBlockHasOnePlace(t *testing.T) {
	type place struct{ stripe, index int }
	for _, g := range rightGeos() {
		held := map[place]int{}
		for b := range impl.Blocks(g) {
			p := place{impl.StripeOf(g, b), impl.IndexOf(g, b)}
			if p.stripe < 0 || p.stripe >= g.S || p.index < 0 || p.index >= g.N-1 {
				t.Error(g, b, "stands outside:", p)
			}
			if other, taken := held[p]; taken {
				t.Error(g, b, "stands where", other, "does:", p)
			}
			held[p] = b
			if x := impl.BlockAt(g, p.stripe, p.index); x != b {
				t.Error(g, b, p, "leads to", x)
			}
		}
		if len(held) != g.S*(g.N-1) {
			t.Error(g, "has", len(held), "places")
		}
	}
}

func TestBlocksStandInOrder(t *testing.T) {
	for _, g := range rightGeos() {
		next := 0
		for s := range g.S {
			for i := range g.N - 1 {
				if x := impl.BlockAt(g, s, i); x != next {
					t.Error(g, s, i, x, "not", next)
				}
				next++
			}
		}
	}
}

func TestEachDiskOfAStripeIsTakenOnce(t *testing.T) {
	for _, g := range rightGeos() {
		for s := range g.S {
			disks := []int{impl.ParityOf(g, s)}
			for i := range g.N - 1 {
				disks = append(disks, impl.DiskOf(g, s, i))
			}
			slices.Sort(disks)
			for d := range g.N {
				if disks[d] != d {
					t.Error(g, s, disks)
				}
			}
		}
	}
}

func TestBlocksStandBehindTheParity(t *testing.T) {
	for _, g := range rightGeos() {
		for s := range g.S {
			at := impl.ParityOf(g, s)
			for i := range g.N - 1 {
				if at++; at == g.N {
					at = 0
				}
				if x := impl.DiskOf(g, s, i); x != at {
					t.Error(g, s, i, x, "not", at)
				}
			}
		}
	}
}

func TestParityGoesRound(t *testing.T) {
	for _, g := range rightGeos() {
		if x := impl.ParityOf(g, 0); x != g.N-1 {
			t.Error(g, "begins with", x)
		}
		for s := 1; s < g.S; s++ {
			want := impl.ParityOf(g, s-1) - 1
			if want < 0 {
				want = g.N - 1
			}
			if x := impl.ParityOf(g, s); x != want {
				t.Error(g, s, x, "not", want)
			}
		}
		// Any so many stripes as there are disks have it on each of them once.
		for from := 0; from+g.N <= g.S; from++ {
			disks := []int{}
			for s := from; s < from+g.N; s++ {
				disks = append(disks, impl.ParityOf(g, s))
			}
			slices.Sort(disks)
			if len(slices.Compact(disks)) != g.N {
				t.Error(g, "from", from, "on not all disks")
			}
		}
	}
}

func TestParityOfEachStripe(t *testing.T) {
	for n, want := range map[int][]int{
		3: {2, 1, 0, 2, 1, 0, 2, 1},
		4: {3, 2, 1, 0, 3, 2, 1, 0},
		5: {4, 3, 2, 1, 0, 4, 3, 2},
	} {
		for s, w := range want {
			// How many stripes there are does not turn it.
			for all := s + 1; all <= impl.MaxStripes; all++ {
				if x := impl.ParityOf(impl.Geo{N: n, S: all}, s); x != w {
					t.Error(n, all, s, x, "not", w)
				}
			}
		}
	}
}

func TestFirstAndLastOfAGeo(t *testing.T) {
	for _, g := range rightGeos() {
		last := impl.Blocks(g) - 1
		if impl.BlockAt(g, 0, 0) != 0 || impl.StripeOf(g, 0) != 0 || impl.IndexOf(g, 0) != 0 {
			t.Error(g, "the first")
		}
		if impl.BlockAt(g, g.S-1, g.N-2) != last || impl.StripeOf(g, last) != g.S-1 || impl.IndexOf(g, last) != g.N-2 {
			t.Error(g, "the last")
		}
		for _, b := range []int{-1, last + 1} {
			if impl.StripeOf(g, b) != -1 || impl.IndexOf(g, b) != -1 {
				t.Error(g, "block", b)
			}
		}
		for _, s := range []int{-1, g.S} {
			if impl.ParityOf(g, s) != -1 || impl.DiskOf(g, s, 0) != -1 || impl.BlockAt(g, s, 0) != -1 {
				t.Error(g, "stripe", s)
			}
		}
		for _, i := range []int{-1, g.N - 1, g.N} {
			for s := range g.S {
				if impl.DiskOf(g, s, i) != -1 || impl.BlockAt(g, s, i) != -1 {
					t.Error(g, "place", s, i)
				}
			}
		}
	}
}

func TestNoSuchStripe(t *testing.T) {
	for _, g := range rightGeos() {
		for _, s := range outside(g.S) {
			if x := impl.ParityOf(g, s); x != -1 {
				t.Error(g, s, x)
			}
			for _, i := range append(outside(g.N-1), 0, 1, 2, 3) {
				if x, y := impl.DiskOf(g, s, i), impl.BlockAt(g, s, i); x != -1 || y != -1 {
					t.Error(g, s, i, x, y)
				}
			}
		}
	}
}

func TestNoSuchPlaceInAStripe(t *testing.T) {
	for _, g := range rightGeos() {
		for s := range g.S {
			for _, i := range outside(g.N - 1) {
				if x, y := impl.DiskOf(g, s, i), impl.BlockAt(g, s, i); x != -1 || y != -1 {
					t.Error(g, s, i, x, y)
				}
			}
		}
	}
}

func TestNoSuchBlock(t *testing.T) {
	for _, g := range rightGeos() {
		for _, b := range outside(impl.Blocks(g)) {
			if x, y := impl.StripeOf(g, b), impl.IndexOf(g, b); x != -1 || y != -1 {
				t.Error(g, b, x, y)
			}
		}
	}
}

func TestNothingStandsInAWrongGeo(t *testing.T) {
	for _, g := range append(wrongGeos(), impl.Geo{}) {
		for _, n := range append(outside(impl.MaxStripes), 0, 1, 2, 3, 4, 7) {
			if impl.ParityOf(g, n) != -1 || impl.StripeOf(g, n) != -1 || impl.IndexOf(g, n) != -1 {
				t.Error(g, n, impl.ParityOf(g, n), impl.StripeOf(g, n), impl.IndexOf(g, n))
			}
			for _, i := range []int{0, 1, 3, 4, -1, math.MinInt, math.MaxInt} {
				if impl.DiskOf(g, n, i) != -1 || impl.BlockAt(g, n, i) != -1 {
					t.Error(g, n, i, impl.DiskOf(g, n, i), impl.BlockAt(g, n, i))
				}
			}
		}
	}
}

func wordLists() [][]int {
	return [][]int{
		nil,
		{},
		{0},
		{7},
		{65535},
		{7, 7},
		{7, 7, 7},
		{0, 0, 0, 0},
		{65535, 65535, 65535, 65535},
		{1, 2, 4},
		{1, 99, 4},
		{43690, 21845, 255, 65280, 1},
		{-1, 65536, math.MinInt, math.MaxInt},
		upTo(impl.MaxSec + 1),
	}
}

func TestParityWord(t *testing.T) {
	for _, c := range []struct {
		l []int
		x int
	}{
		{nil, 0},
		{[]int{}, 0},
		{[]int{9}, 9},
		{[]int{65535}, 65535},
		{[]int{9, 9}, 0},
		{[]int{9, 9, 9}, 9},
		{[]int{1, 2, 4}, 7},
		{[]int{43690, 21845}, 65535},
		{[]int{3, 5, 6, 8}, 8},
		{[]int{-1, 1}, -2},
	} {
		if x := impl.ParityWord(c.l); x != c.x {
			t.Error(c.l, x, "not", c.x)
		}
	}
	for _, l := range wordLists() {
		if impl.ParityWord(l) != impl.XorOf(l) {
			t.Error(l, impl.ParityWord(l))
		}
	}
	// What lies behind the length does not count.
	if l := []int{1, 2, 4}; impl.ParityWord(l[:2]) != 3 {
		t.Error("what lies behind was read")
	}
}

func TestMissingWord(t *testing.T) {
	for _, c := range []struct {
		l    []int
		k, x int
	}{
		{nil, 0, 0},
		{nil, -1, 0},
		{nil, 1, 0},
		{[]int{9}, 0, 0},
		{[]int{9}, 1, 9},
		{[]int{9}, -1, 9},
		{[]int{7, 7}, 0, 7},
		{[]int{7, 7}, 1, 7},
		{[]int{7, 7}, 2, 0},
		{[]int{7, 7, 7}, 0, 0},
		{[]int{1, 99, 4}, 0, 103},
		{[]int{1, 99, 4}, 1, 5},
		{[]int{1, 99, 4}, 2, 98},
		{[]int{1, 2, 4}, 3, 7},
		{[]int{1, 2, 4}, -1, 7},
		{[]int{1, 2, 4}, -3, 7},
		{[]int{-1, 5}, 0, 5},
		{[]int{-1, 5}, 1, -1},
	} {
		if x := impl.MissingWord(c.l, c.k); x != c.x {
			t.Error(c.l, c.k, x, "not", c.x)
		}
	}
	for _, l := range wordLists() {
		for k := range l {
			want := impl.XorOf(slices.Concat(l[:k], l[k+1:]))
			if x := impl.MissingWord(l, k); x != want {
				t.Error(l, k, x, "not", want)
			}
		}
		// Where there is no k-th, all count.
		for _, k := range outside(len(l)) {
			if k >= 0 && k < len(l) {
				continue
			}
			if x := impl.MissingWord(l, k); x != impl.XorOf(l) {
				t.Error(l, k, x)
			}
		}
	}
	// What lies behind the length is no k-th.
	if l := []int{1, 2, 4}; impl.MissingWord(l[:2], 2) != 3 || impl.MissingWord(l[:2], 0) != 2 {
		t.Error("what lies behind was read")
	}
}

// With its parity behind it, each word of a stripe is what the others make,
// and so is the parity itself.
func TestMissingWordOfAStripe(t *testing.T) {
	for n := fewestDisks; n <= mostDisks; n++ {
		for _, data := range [][]int{upTo(n - 1), make([]int, n-1), slices.Repeat([]int{65535}, n-1), slices.Repeat([]int{9}, n-1)} {
			words := append(slices.Clone(data), impl.ParityWord(data))
			for k, was := range words {
				lacking := slices.Clone(words)
				lacking[k] = 4321
				if x := impl.MissingWord(lacking, k); x != was {
					t.Error(words, k, x)
				}
			}
		}
	}
}

func TestGeosHoldApart(t *testing.T) {
	for _, words := range wordLists() {
		l := roomy(words)
		holdsApart(t, "ParityWord", []any{l}, func() []any { return []any{impl.ParityWord(l)} })
		for _, k := range append(outside(len(l)), 0, len(l)-1) {
			holdsApart(t, "MissingWord", []any{l, k}, func() []any { return []any{impl.MissingWord(l, k)} })
		}
		if x, y := impl.ParityWord(l), impl.MissingWord(l, len(l)); x != impl.XorOf(words) || y != impl.XorOf(words) {
			t.Error(words, "what lies behind was read", x, y)
		}
	}
}
