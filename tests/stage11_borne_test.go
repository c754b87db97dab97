package tests

import (
	"fmt"
	"slices"
	"testing"

	"loop.example/g00398/impl"
)

// withoutWords has other words in what is not built of the disk that is Lost,
// so that it shows where they are taken for its own.
func withoutWords(a impl.Arr) impl.Arr {
	for s := a.Built; a.Lost >= 0 && s < a.G.S; s++ {
		a = withSector(a, a.Lost, firstStripe+s, 4321+s)
	}
	return a
}

// bearings answers a where it bears it that the disk m fails: none lost, its
// own words spoilt, and Lost itself, built up to each stripe.
func bearings(a impl.Arr, m int) []standing {
	l := []standing{{"none lost", a}}
	spoilt := a
	for s := range a.G.S {
		spoilt = impl.SpoilAt(spoilt, m, s)
		l = append(l, standing{fmt.Sprint("spoilt up to ", s), spoilt})
	}
	for built := 0; built <= a.G.S; built++ {
		l = append(l, standing{fmt.Sprint("built up to ", built), withoutWords(withLost(a, m, built))})
	}
	return l
}

// wantBorne lets the disk m fail, and asks that no block turns; it answers the
// array then.
func wantBorne(t *testing.T, name string, a impl.Arr, m int, contents, durable []int) impl.Arr {
	t.Helper()
	name = fmt.Sprint(name, ", disk ", m, " fails")
	if !impl.CanLose(a, m) {
		t.Fatal(name, "it is not borne", a)
	}
	wantBoth(t, name+", ahead of it", a, contents, durable)
	x := impl.FailDisk(a, m)
	if !impl.ArrOk(x) || x.Broken || x.Lost != m || x.Built != 0 || !x.Mems[m].Failed || impl.Bare(x) != a.G.S {
		t.Fatal(name, x)
	}
	if x.Down {
		contents = nil
	}
	wantBoth(t, name, x, contents, durable)
	for s := range a.G.S {
		if n := impl.LostAt(x, s); n != 1 {
			t.Fatal(name, "LostAt", s, n)
		}
	}
	return x
}

// withSome sets some blocks, which are these words, in memory alone, and answers
// each block's word then.
func withSome(t *testing.T, a impl.Arr, words []int, next func(int) int) (impl.Arr, []int) {
	t.Helper()
	contents := slices.Clone(words)
	for range next(4) {
		b, n := next(len(contents)), next(65536)
		x, code := impl.SetBlock(a, b, n)
		if code != impl.CoGood {
			t.Fatal("not set", b, code, a)
		}
		a, contents[b] = x, n
	}
	return a, contents
}

// The promise itself: whichever disk fails, no block turns, though some are in
// memory alone, and some stripes were written, but not yet flushed.
func TestNoBlockTurnsWhereADiskFails(t *testing.T) {
	t.Parallel()
	for _, g := range rightGeos() {
		next := drawn(uint32(599 + 10*g.N + g.S))
		a, held := filled(g, next)
		for m := range g.N {
			for i, c := range bearings(a, m) {
				x, was := busy(t, c.a, held, i%(impl.Slots+2), next)
				durable := blockWords(g, was)
				x, contents := withSome(t, x, durable, next)
				wantBorne(t, c.name, x, m, contents, durable)
				wantBorne(t, c.name+", flushed", impl.Sync(x), m, contents, durable)
				wantBorne(t, c.name+", checked", impl.Check(x), m, contents, durable)
			}
		}
	}
}

// Where the power goes as it is marked, what the disks hold does not turn, and
// it is there again behind it, whatever is kept of the caches.
func TestNoBlockTurnsWhereThePowerGoesToo(t *testing.T) {
	t.Parallel()
	for _, g := range []impl.Geo{{N: 3, S: 1}, {N: 3, S: 4}, {N: 4, S: 3}, {N: 5, S: 2}, {N: 5, S: 8}} {
		next := drawn(uint32(601 + 10*g.N + g.S))
		a, held := filled(g, next)
		for m := range g.N {
			for i, c := range bearings(a, m) {
				x, was := busy(t, known(c.a), held, i%(impl.Slots+1), next)
				durable := blockWords(g, was)
				x, contents := withSome(t, x, durable, next)
				for _, fuse := range fusesFor(2 * (g.N - 1)) {
					x.Fuse = fuse
					y := wantBorne(t, c.name, x, m, contents, durable)
					if y.Down != within(fuse, 0, 2*(g.N-1)-1) {
						t.Fatal(c.name, "Fuse", fuse, y)
					}
					for _, keeps := range [][]int{nil, slices.Repeat([]int{mostKeep}, g.N), someKept(g.N, next)} {
						z := back(t, c.name, y, keeps, -1)
						wantQuiet(t, c.name, z)
						wantBoth(t, fmt.Sprint(c.name, ", Fuse ", fuse, ", kept ", keeps), z, durable, durable)
						if z.Lost != m || z.Built != 0 {
							t.Fatal(c.name, "another one is Lost", z)
						}
					}
				}
			}
		}
	}
}

// Behind it all goes on: each stripe can be written, each block set, flushed
// and got, and it is there behind the power, without that disk.
func TestItGoesOnWithoutThatDisk(t *testing.T) {
	t.Parallel()
	for _, g := range rightGeos() {
		next := drawn(uint32(607 + 10*g.N + g.S))
		a, held := filled(g, next)
		for m := range g.N {
			for _, c := range bearings(a, m) {
				x := impl.FailDisk(known(c.a), m)
				gone := x.Mems[m]
				was := slices.Clone(held)
				for range 6 {
					s, data := next(g.S), dataFor(g, next)
					was[s] = wantHeld(g, s, data)
					x = wantWrite(t, c.name, x, s, data)
					wantBoth(t, c.name+", written", x, blockWords(g, was), blockWords(g, was))
				}
				x = wantSetAndFlushed(t, c.name, x, blockWords(g, was), next)
				if !alike(x.Mems[m], gone) || x.Lost != m || x.Built != 0 || x.Broken {
					t.Fatal(c.name, "it is there again", m, x)
				}
			}
		}
	}
}

// wantSetAndFlushed sets some blocks, flushes them, and lets the power go.
func wantSetAndFlushed(t *testing.T, name string, a impl.Arr, durable []int, next func(int) int) impl.Arr {
	t.Helper()
	x, contents := withSome(t, a, durable, next)
	wantBoth(t, name+", set", x, contents, durable)
	x, code := impl.FlushAll(x)
	if code != impl.CoGood || !impl.Clean(x) {
		t.Fatal(name, "not flushed", code, x)
	}
	wantBoth(t, name+", flushed", x, contents, contents)
	y := back(t, name, x, someKept(a.G.N, next), -1)
	wantBoth(t, name+", brought back", y, contents, contents)
	wantQuiet(t, name, y)
	return x
}

// A second disk that fails is told, whether the first is gone or there again,
// in part or whole: it is Broken, and so it stays behind the power.
func TestSecondDiskThatFails(t *testing.T) {
	t.Parallel()
	for _, g := range rightGeos() {
		next := drawn(uint32(613 + 10*g.N + g.S))
		a, held := filled(g, next)
		for first := range g.N {
			for second := range g.N {
				if first == second {
					continue
				}
				for _, c := range bearings(a, first) {
					x, was := busy(t, known(c.a), held, next(impl.Slots+1), next)
					if x.Lost == first { // it is there, but not yet whole
						wantNotBorne(t, c.name, x, second, blockWords(g, was), next)
					}
					wantNotBorne(t, c.name+", and Failed", impl.FailDisk(x, first), second, blockWords(g, was), next)
				}
			}
		}
	}
}

func wantNotBorne(t *testing.T, name string, a impl.Arr, m int, durable []int, next func(int) int) {
	t.Helper()
	a, contents := withSome(t, a, durable, next)
	if impl.CanLose(a, m) {
		t.Fatal(name, "it is borne", m, a)
	}
	x := impl.FailDisk(a, m)
	if !x.Broken || x.Lost != a.Lost || x.Built != a.Built || x.Gen != a.Gen || !impl.ArrOk(x) {
		t.Fatal(name, "it is not Broken", m, x)
	}
	for b, want := range contents {
		_, inMemory := entOf(x, b/(a.G.N-1))
		if n, code := impl.GetBlock(x, b); inMemory && (n != want || code != impl.CoGood) || !inMemory && (n != 0 || code != impl.CoIo) {
			t.Fatal(name, "block", b, "is", n, code, "in memory", inMemory)
		}
	}
	for s := range a.G.S {
		if y, code := impl.WriteStripe(x, s, upTo(a.G.N-1)); code != impl.CoIo || !alike(y, x) {
			t.Fatal(name, "written", s, code)
		}
		if y, code := impl.FlushStripe(x, s); slices.Contains(stripesInMemory(x), s) && (code != impl.CoIo || !alike(y, x)) {
			t.Fatal(name, "flushed", s, code)
		}
	}
	wantBoth(t, name, withEnts(x), nil, nil)
	y, ok := impl.Recover(impl.PowerOff(x).Mems, someKept(a.G.N, next), arrayId, -1)
	if !ok || !y.Broken || y.Lost != a.Lost || len(impl.Contents(y)) != 0 {
		t.Fatal(name, "behind the power", y, ok)
	}
}

// Where the others hold a sector of a stripe that is Bad, the disk that fails
// takes that stripe with it, and no other one; it is not Broken.
func TestDiskFailsBesideBadStripes(t *testing.T) {
	t.Parallel()
	for _, g := range rightGeos() {
		a, held := filled(g, drawn(617))
		for m := range g.N {
			for s := range g.S {
				spoilt := impl.SpoilAt(a, (m+1)%g.N, s)
				x := impl.FailDisk(spoilt, m)
				if impl.CanLose(spoilt, m) || x.Broken || x.Lost != m || impl.LostAt(x, s) != 2 {
					t.Fatal(g, m, s, x)
				}
				for other := range g.S {
					if other == s {
						wantNoStripe(t, "Bad", x, s)
						continue
					}
					wantStripe(t, "another stripe", x, other, held[other])
				}
				y := wantWrite(t, "written again", x, s, upTo(g.N-1))
				wantStripe(t, "written again", y, s, wantHeld(g, s, upTo(g.N-1)))
			}
		}
	}
}

// The power goes at each Fuse of a write, whatever is kept of the caches, and a
// disk fails with it, or right behind Recover: the stripe is as it was, or as
// it was to be, and no other one turns.
func TestDiskFailsAboutThePower(t *testing.T) {
	for n := fewestDisks; n <= mostDisks; n++ {
		for m := range n {
			t.Run(fmt.Sprint(n, " disks, disk ", m), func(t *testing.T) {
				t.Parallel()
				wantBorneAboutThePower(t, impl.Geo{N: n, S: 3}, m)
			})
		}
	}
}

func wantBorneAboutThePower(t *testing.T, g impl.Geo, m int) {
	next, turned, stayed := drawn(uint32(619+10*g.N+m)), 0, 0
	a, held := filled(g, next)
	for i, c := range bearings(a, m) {
		for s := range g.S {
			x, was := busy(t, known(c.a), held, (i+s)%(impl.Slots+1), next)
			data := dataFor(g, next)
			toBe := map[int][]int{s: wantHeld(g, s, data)}
			for _, fuse := range fusesFor(operationsOf(stepsOfStripe(x, s, data))) {
				x.Fuse = fuse
				y, code := impl.WriteStripe(x, s, data)
				w := wish{was, toBe, map[int]bool{s: code == impl.CoGood}}
				keeps := keepsFor(g.N, next)
				for k := range 3 {
					name := fmt.Sprint(c.name, ", stripe ", s, ", Fuse ", fuse)
					n := wantGranted(t, name, y, m, keeps[(fuse+1+5*k)%len(keeps)], w, next)
					turned, stayed = turned+n, stayed+1-n
				}
			}
		}
	}
	if turned < 100 || stayed < 100 {
		t.Error("it seldom turned, or seldom stayed:", turned, stayed)
	}
}

// wantGranted lets the disk m fail with the power, and right behind Recover,
// where that ends anywhere; it answers how many stripes turned.
func wantGranted(t *testing.T, name string, a impl.Arr, m int, keeps []int, w wish, next func(int) int) int {
	t.Helper()
	name = fmt.Sprint(name, ", kept ", keeps)
	with := back(t, name, impl.FailDisk(a, m), keeps, -1)
	turned := w.grant(t, name+", with it", with)
	wantQuiet(t, name+", with it", with)
	wantFailedAlone(t, name+", with it", with, m)
	behind := impl.FailDisk(back(t, name, a, keeps, -1), m)
	w.grant(t, name+", behind it", behind)
	wantFailedAlone(t, name+", behind it", behind, m)
	cut := back(t, name, a, keeps, next(8*a.G.N))
	cut = impl.FailDisk(cut, m)
	if !cut.Down {
		w.grant(t, name+", behind what is cut off", cut)
	}
	again := back(t, name, cut, someKept(a.G.N, next), -1)
	w.grant(t, name+", and again", again)
	wantQuiet(t, name+", and again", again)
	wantFailedAlone(t, name+", and again", again, m)
	return turned
}

// wantFailedAlone asks that m is Lost, and all other disks are there.
func wantFailedAlone(t *testing.T, name string, a impl.Arr, m int) {
	t.Helper()
	if a.Lost != m || a.Built != 0 || a.Broken || !impl.ArrOk(a) || impl.Bare(a) != a.G.S || !impl.Even(a) {
		t.Fatal(name, "disk", m, a)
	}
	for s := range a.G.S {
		if impl.LostAt(a, s) != 1 {
			t.Fatal(name, "disk", m, "LostAt", s, impl.LostAt(a, s))
		}
	}
}

// Of the least array each Fuse of a write, and then each of the Recover, with
// the disk that fails ahead of it or behind it.
func TestDiskFailsAtEachEndOfRecover(t *testing.T) {
	g := impl.Geo{N: fewestDisks, S: 1}
	a, held := filled(g, drawn(631))
	for m := range g.N {
		for i, c := range bearings(a, m) {
			t.Run(fmt.Sprint("disk ", m, ", ", c.name), func(t *testing.T) {
				t.Parallel()
				next := drawn(uint32(641 + 10*m + i))
				x, was := busy(t, known(c.a), held, i%2*impl.Slots, next)
				data := dataFor(g, next)
				for fuse := range operationsOf(stepsOfStripe(x, 0, data)) + 1 {
					x.Fuse = fuse
					y, code := impl.WriteStripe(x, 0, data)
					w := wish{was, map[int][]int{0: wantHeld(g, 0, data)}, map[int]bool{0: code == impl.CoGood}}
					wantEachEnd(t, "with it", impl.FailDisk(y, m), someKept(g.N, next), w, next)
					wantEachEndThenFails(t, y, m, w, next)
				}
			})
		}
	}
}

func wantEachEndThenFails(t *testing.T, a impl.Arr, m int, w wish, next func(int) int) {
	t.Helper()
	for fuse := 0; ; fuse++ {
		x := back(t, "ends", a, someKept(a.G.N, next), fuse)
		y := back(t, "ends, and then it fails", impl.FailDisk(x, m), someKept(a.G.N, next), -1)
		w.grant(t, fmt.Sprint("ends at ", fuse), y)
		wantFailedAlone(t, "ends, and then it fails", y, m)
		if !x.Down {
			return
		}
	}
}

// Whatever is done one behind the other, with one disk that fails somewhere,
// and the power that goes now and then: each block is as it was set last, or,
// behind the power, as the disks had it last.
func TestOneDiskFailsSomewhere(t *testing.T) {
	for n := fewestDisks; n <= mostDisks; n++ {
		t.Run(fmt.Sprint(n, " disks"), func(t *testing.T) {
			t.Parallel()
			next := drawn(uint32(643 + n))
			for range 150 {
				wantBorneSomewhere(t, impl.Geo{N: n, S: 1 + next(impl.MaxStripes)}, next)
			}
		})
	}
}

func wantBorneSomewhere(t *testing.T, g impl.Geo, next func(int) int) {
	t.Helper()
	a, held := filled(g, next)
	m, when := next(g.N), next(16)
	some := bearings(a, m)
	x := known(some[next(len(some))].a)
	durable := blockWords(g, held)
	contents := durable
	for i := range 16 {
		name := fmt.Sprint("step ", i, ", disk ", m, " fails at ", when)
		if i == when {
			x = wantBorne(t, name, x, m, contents, durable)
		}
		switch next(4) {
		case 0:
			x, contents = withSome(t, x, contents, next)
		case 1:
			s, data := next(g.S), dataFor(g, next)
			x, contents, durable = wantStripeTurned(t, x, contents, durable, s, data)
		case 2:
			y, code := impl.FlushAll(x)
			if code != impl.CoGood {
				t.Fatal(name, code, x)
			}
			x, durable = y, contents
		case 3:
			x, contents = back(t, name, x, someKept(g.N, next), -1), durable
		}
		wantBoth(t, name, x, contents, durable)
	}
	if y := impl.FailDisk(x, (m+1)%g.N); !y.Broken {
		t.Fatal("a second one is not told", y)
	}
}

// wantStripeTurned writes a stripe past what is in memory, which stays.
func wantStripeTurned(t *testing.T, a impl.Arr, contents, durable []int, s int, data []int) (impl.Arr, []int, []int) {
	t.Helper()
	x, code := impl.WriteStripe(a, s, data)
	if code != impl.CoGood {
		t.Fatal("not written", code, a)
	}
	contents, durable = slices.Clone(contents), slices.Clone(durable)
	first := s * (a.G.N - 1)
	copy(durable[first:], data)
	if _, inMemory := entOf(a, s); !inMemory {
		copy(contents[first:], data)
	}
	return x, contents, durable
}
