package tests

import (
	"fmt"
	"slices"
	"testing"

	"loop.example/g00398/impl"
)

// bareOf answers how many stripes the disk that is Lost lacks, where no other
// one lacks any.
func bareOf(a impl.Arr) int {
	switch {
	case a.Lost == -1:
		return 0
	case a.Mems[a.Lost].Failed:
		return a.G.S
	}
	return a.G.S - a.Built
}

// wantEven asks that each stripe of which every disk bears its word has an
// XorAt, and that this is 0; so many are bare, the last ones.
func wantEven(t *testing.T, name string, a impl.Arr, bare int) {
	t.Helper()
	for s := range a.G.S {
		wantXorAt(t, name, a, s, 0, s < a.G.S-bare)
	}
	if !impl.Even(a) || impl.Bare(a) != bare {
		t.Fatal(name, a.G, "Even", impl.Even(a), "Bare", impl.Bare(a), "not", bare, "of", a)
	}
}

func TestNewArrIsEven(t *testing.T) {
	for _, g := range rightGeos() {
		for _, id := range []int{1, arrayId, mostOfAnArr} {
			a := impl.ArrNew(id, g)
			wantEven(t, "new", a, 0)
			wantBoth(t, "new", a, make([]int, g.S*(g.N-1)), make([]int, g.S*(g.N-1)))
			wantEven(t, "new, brought back", back(t, "new", a, nil, -1), 0)
		}
	}
}

// A doing is a call that turns an array, handed what it needs.
type doing struct {
	name string
	do   func(a impl.Arr, s int, next func(int) int) impl.Arr
}

func doings() []doing {
	first := func(a impl.Arr, code int) impl.Arr { return a }
	return []doing{
		{"WriteStripe", func(a impl.Arr, s int, next func(int) int) impl.Arr {
			return first(impl.WriteStripe(a, s, dataFor(a.G, next)))
		}},
		{"SetBlock", func(a impl.Arr, s int, next func(int) int) impl.Arr {
			return first(impl.SetBlock(a, s*(a.G.N-1)+next(a.G.N-1), next(65536)))
		}},
		{"FlushStripe", func(a impl.Arr, s int, next func(int) int) impl.Arr {
			x, _ := inMemory(a, []int{s}, next)
			return first(impl.FlushStripe(x, s))
		}},
		{"FlushAll", func(a impl.Arr, s int, next func(int) int) impl.Arr {
			x, _ := inMemory(a, stripesIn(1<<s|next(1<<a.G.S), a.G.S), next)
			return first(impl.FlushAll(x))
		}},
		{"Sync", func(a impl.Arr, s int, next func(int) int) impl.Arr { return impl.Sync(a) }},
		{"Mark", func(a impl.Arr, s int, next func(int) int) impl.Arr { return impl.Mark(a) }},
		{"Check", func(a impl.Arr, s int, next func(int) int) impl.Arr { return impl.Check(a) }},
	}
}

// The promise itself: behind each call, whatever is lost, all stripes that all
// disks bear are even, and no stripe is bare that was not.
func TestEvenBehindEachCall(t *testing.T) {
	t.Parallel()
	for _, g := range rightGeos() {
		next := drawn(uint32(449 + 10*g.N + g.S))
		a, _ := filled(g, next)
		for s := range g.S {
			for _, c := range standingsAt(a, s) {
				wantEvenBehindAll(t, c.name, c.a, s, next)
				wantEvenBehindAll(t, c.name+", known", known(c.a), s, next)
			}
		}
	}
}

// wantEvenBehindAll asks it of each call alone, and of all one behind the
// other.
func wantEvenBehindAll(t *testing.T, name string, a impl.Arr, s int, next func(int) int) {
	t.Helper()
	bare, each := bareOf(a), a
	wantEven(t, name, a, bare)
	for _, c := range doings() {
		x := c.do(a, s, next)
		wantEven(t, name+", "+c.name, x, bare)
		wantEven(t, name+", "+c.name+", flushed", impl.Sync(x), bare)
		each = c.do(each, s, next)
		wantEven(t, name+", up to "+c.name, each, bare)
		if x.Down || each.Down {
			t.Fatal(name, c.name, "is Down")
		}
	}
}

// What was brought back is even: with nothing to do, behind one call, and
// behind several.
func TestEvenBehindRecover(t *testing.T) {
	t.Parallel()
	for _, g := range rightGeos() {
		next := drawn(uint32(457 + 10*g.N + g.S))
		a, _ := filled(g, next)
		for i, c := range standingsAt(a, g.S/2) {
			x := known(c.a)
			bare := bareOf(x)
			wantEven(t, c.name, back(t, c.name, x, nil, -1), bare)
			for k := range 6 {
				d := doings()[(i+k)%len(doings())]
				name := fmt.Sprint(c.name, ", up to ", d.name)
				x = d.do(x, next(g.S), next)
				for _, keeps := range keepsFor(g.N, next) {
					wantEven(t, name, back(t, name, x, keeps, -1), bare)
				}
			}
		}
	}
}

// The power goes at each Fuse of each call: behind Recover all is even again,
// also where the power went in that too.
func TestEvenBehindThePower(t *testing.T) {
	for n := fewestDisks; n <= mostDisks; n++ {
		for s := range 3 {
			t.Run(fmt.Sprint(n, " disks, stripe ", s), func(t *testing.T) {
				t.Parallel()
				wantEvenBehindThePower(t, impl.Geo{N: n, S: 3}, s)
			})
		}
	}
}

func wantEvenBehindThePower(t *testing.T, g impl.Geo, s int) {
	next, downs, uneven := drawn(uint32(461+10*g.N+s)), 0, 0
	a, held := filled(g, next)
	for i, c := range standingsAt(a, s) {
		x, _ := busy(t, known(c.a), held, (i+s)%(impl.Slots+1), next)
		for _, d := range doings() {
			seed := uint32(next(1000)) // the call writes the same words with each Fuse
			for fuse := 0; ; fuse++ {
				x.Fuse = fuse
				y := d.do(x, s, drawn(seed))
				name := fmt.Sprint(c.name, ", ", d.name, ", Fuse ", fuse)
				wantEvenAgain(t, name, y, bareOf(x), next)
				if !y.Down {
					break
				}
				downs++
				if !impl.Even(y) {
					uneven++
				}
			}
		}
	}
	if downs < 500 || uneven < 30 {
		t.Error("it seldom went, or seldom in the midst of the words:", downs, uneven)
	}
}

// wantEvenAgain brings a back, whatever is kept, and brings back what is left
// where the power goes meanwhile.
func wantEvenAgain(t *testing.T, name string, a impl.Arr, bare int, next func(int) int) {
	t.Helper()
	for _, keeps := range [][]int{nil, slices.Repeat([]int{mostKeep}, a.G.N), someKept(a.G.N, next)} {
		x := back(t, name, a, keeps, -1)
		wantEven(t, name, x, bare)
		wantEven(t, name+", off once more", back(t, name, x, nil, -1), bare)
	}
	x := back(t, name, a, someKept(a.G.N, next), next(8*a.G.N))
	wantEven(t, name+", and again", back(t, name, x, someKept(a.G.N, next), -1), bare)
}

// Of a small array the power goes at each Fuse of Recover, too.
func TestEvenBehindEachEndOfRecover(t *testing.T) {
	for n := fewestDisks; n <= mostDisks; n++ {
		t.Run(fmt.Sprint(n, " disks"), func(t *testing.T) {
			t.Parallel()
			g, next := impl.Geo{N: n, S: 2}, drawn(uint32(463+n))
			a, held := filled(g, next)
			for i, c := range standingsAt(a, 1) {
				x, _ := busy(t, known(c.a), held, i%(impl.Slots+1), next)
				data := dataFor(g, next)
				x.Fuse = operationsOf(stepsOfStripe(x, 1, data)) - 1 - i%3 // in the midst of the words
				y, _ := impl.WriteStripe(x, 1, data)
				for fuse := 0; ; fuse++ {
					z := back(t, c.name, y, someKept(n, next), fuse)
					wantEven(t, c.name, back(t, c.name, z, someKept(n, next), -1), bareOf(x))
					if !z.Down {
						wantEven(t, c.name, z, bareOf(x))
						break
					}
				}
			}
		})
	}
}

// Told by hand: where the power goes between the words of a write, those of the
// first disks are new; the stripe is not even until it is brought back.
func TestWriteThatIsCutOffIsNotEven(t *testing.T) {
	for _, g := range rightGeos() {
		for s := range g.S {
			data := make([]int, g.N-1)
			for i := range data {
				data[i] = 1 << i
			}
			words := wantHeld(g, s, data)
			for written := range g.N + 1 {
				a := impl.ArrNew(arrayId, g)
				a.Fuse = 2*g.N + written
				x, code := impl.WriteStripe(a, s, data)
				want := 0
				for _, w := range words[:written] {
					want ^= w
				}
				if x.Down != (written < g.N) || (code == impl.CoDown) != x.Down {
					t.Fatal(g, s, written, code)
				}
				wantXorAt(t, "cut off", x, s, want, true)
				if cut := written > 0 && written < g.N; impl.Even(x) == cut || impl.Bare(x) != 0 {
					t.Fatal(g, s, written, impl.Even(x), impl.Bare(x))
				}
				y := back(t, "cut off", x, []int{mostKeep}, -1)
				wantEven(t, "brought back", y, 0)
				wantStripe(t, "brought back", y, s, words)
			}
		}
	}
}

// A bend is a way in which a disk's word of a stripe is turned by these bits.
type bend struct {
	name string
	of   func(a impl.Arr, m, s, by int) impl.Arr
}

func bends() []bend {
	word := func(a impl.Arr, m, s int) int { return wantRead(a.Mems[m], firstStripe+s)[0] }
	return []bend{
		{"in its sector", func(a impl.Arr, m, s, by int) impl.Arr {
			return withSector(a, m, firstStripe+s, word(a, m, s)^by)
		}},
		{"in the cache", func(a impl.Arr, m, s, by int) impl.Arr {
			return withWr(a, m, firstStripe+s, word(a, m, s)^by)
		}},
		{"in the cache, above others", func(a impl.Arr, m, s, by int) impl.Arr {
			w := word(a, m, s)
			return withWr(withWr(withSector(a, m, firstStripe+s, 1, 2), m, firstStripe+s, w), m, firstStripe+s, w^by)
		}},
	}
}

// A stripe one of whose words is bent is not even, on whichever disk, its
// parity's among them; the others are as they were.
func TestBentStripeIsNotEven(t *testing.T) {
	t.Parallel()
	for _, g := range rightGeos() {
		a, _ := filled(g, drawn(467))
		for s := range g.S {
			for m := range g.N {
				for _, b := range bends() {
					for _, by := range []int{1, 1 << 15, 65535, 21317} {
						wantBent(t, b.name, b.of(a, m, s, by), s, by, 0)
					}
				}
			}
		}
	}
}

// wantBent asks for the one stripe that is bent by these bits, beside others
// that are even, so many of them bare at the end.
func wantBent(t *testing.T, name string, a impl.Arr, s, by, bare int) {
	t.Helper()
	wantXorAt(t, name, a, s, by, true)
	for other := range a.G.S {
		if other != s {
			wantXorAt(t, name+", another stripe", a, other, 0, other < a.G.S-bare)
		}
	}
	if impl.Even(a) || impl.Bare(a) != bare {
		t.Fatal(name, a.G, "bent", s, "Even", impl.Even(a), "Bare", impl.Bare(a))
	}
}

// With a disk Lost, it is told as long as all disks bear the stripe; where one
// lacks its word, whichever it is, it is not told.
func TestBentStripeWhereADiskIsLost(t *testing.T) {
	t.Parallel()
	for _, g := range rightGeos() {
		a, _ := filled(g, drawn(479))
		for s := range g.S {
			for m := range g.N {
				b := bends()[(s+m)%len(bends())]
				x := b.of(a, m, s, 12)
				for lost := range g.N {
					for built := s + 1; built <= g.S; built++ {
						wantBent(t, b.name, withLost(x, lost, built), s, 12, g.S-built)
					}
					for _, why := range lacks() {
						if y := why.of(x, lost, s); !impl.Even(y) {
							t.Fatal(why.name, b.name, g, s, m, lost)
						}
					}
				}
			}
		}
	}
}

// What lies under the cache is not looked at; two that are bent alike make it
// even again, and two stripes that are bent do not.
func TestBentTwice(t *testing.T) {
	for _, g := range rightGeos() {
		a := flushed(wantNewArr(arrayId, g))
		for s := range g.S {
			for m := range g.N {
				other, at := (m+1)%g.N, firstStripe+s
				wantEven(t, "under the cache", withWr(withSector(a, m, at, 5), m, at, 0), 0)
				wantEven(t, "under the cache, in it", withWr(withWr(a, m, at, 5), m, at, 0), 0)
				wantEven(t, "both alike", withWr(withSector(a, m, at, 5), other, at, 5), 0)
				wantBent(t, "both bent", withWr(withSector(a, m, at, 5), other, at, 6), s, 3, 0)
				if s > 0 {
					x := withWr(withSector(a, m, at, 5), m, firstStripe, 5)
					wantXorAt(t, "two stripes", x, s, 5, true)
					wantXorAt(t, "two stripes", x, 0, 5, true)
					if impl.Even(x) {
						t.Fatal("two stripes", g, s, m)
					}
				}
			}
		}
	}
}

// A write makes its own stripe even, and no other; nor does any call that is
// none, nor Recover, where no record says otherwise.
func TestWhatMakesAStripeEven(t *testing.T) {
	t.Parallel()
	next := drawn(487)
	for _, g := range rightGeos() {
		a := impl.ArrNew(arrayId, g)
		for s := range g.S {
			x := withSector(a, s%g.N, firstStripe+s, 3)
			for other := range g.S {
				y, code := impl.WriteStripe(x, other, dataFor(g, next))
				if code != impl.CoGood || impl.Even(y) != (other == s) || impl.Bare(y) != 0 {
					t.Fatal(g, s, "written", other, code, impl.Even(y))
				}
			}
			for i, y := range []impl.Arr{impl.Sync(x), impl.Mark(x), impl.Check(x), back(t, "bent", x, nil, -1), withEnts(x, s)} {
				wantBent(t, fmt.Sprint("call ", i), y, s, 3, 0)
			}
			y, code := impl.FlushAll(withEnts(x, s))
			if code != impl.CoGood {
				t.Fatal(code)
			}
			wantEven(t, "flushed", y, 0)
		}
	}
}

// A write makes a stripe that was bare whole again, but for a disk that does
// not bear it.
func TestWriteMakesAStripeWhole(t *testing.T) {
	next := drawn(491)
	for _, g := range rightGeos() {
		a, _ := filled(g, next)
		for _, why := range lacks() {
			for m := range g.N {
				s := next(g.S)
				x := why.of(a, m, s)
				bare := impl.Bare(x)
				y, code := impl.WriteStripe(x, s, dataFor(g, next))
				if !why.lost {
					bare--
				}
				if code != impl.CoGood || impl.Bare(y) != bare || !impl.Even(y) {
					t.Fatal(why.name, g, m, s, code, impl.Bare(y), "not", bare)
				}
				wantXorAt(t, why.name, y, s, 0, !why.lost)
			}
		}
	}
}
