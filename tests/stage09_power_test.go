package tests

import (
	"fmt"
	"slices"
	"testing"

	"loop.example/g00398/impl"
)

// A wish is what each disk is to hold of each stripe behind the power: what
// was, or what was to be; that alone where it was told good.
type wish struct {
	was  [][]int
	toBe map[int][]int
	told map[int]bool
}

// grant asks for it, and answers how many stripes are as they were to be.
func (w wish) grant(t *testing.T, name string, a impl.Arr) int {
	t.Helper()
	turned := 0
	for s := range a.G.S {
		l, ok := impl.Words(a, s)
		switch {
		case ok && w.toBe[s] != nil && slices.Equal(l, w.toBe[s]):
			turned++
		case !ok || w.told[s] || !slices.Equal(l, w.was[s]):
			t.Fatal(name, a.G, "stripe", s, "is", l, ok, "was", w.was[s], "was to be", w.toBe[s], "told", w.told[s], "\nof", a)
		}
	}
	return turned
}

// known answers an array that was flushed, with Supers that say how it stands.
// Of stripes that are not built, what is Lost has nothing that it should.
func known(a impl.Arr) impl.Arr {
	a = flushed(a)
	for s := a.Built; a.Lost >= 0 && s < a.G.S; s++ {
		a = withSector(a, a.Lost, firstStripe+s, 4321+s)
	}
	return played(a, stepsOfMark(a, a.Gen+1))
}

// busy answers a behind so many writes, whose words are only in the caches,
// and what each disk is to hold then.
func busy(t *testing.T, a impl.Arr, held [][]int, recs int, next func(int) int) (impl.Arr, [][]int) {
	t.Helper()
	held = slices.Clone(held)
	for range recs {
		s, data := next(a.G.S), dataFor(a.G, next)
		x, code := impl.WriteStripe(a, s, data)
		if code != impl.CoGood {
			t.Fatal("not written", code, a)
		}
		a, held[s] = x, wantHeld(a.G, s, data)
	}
	return a, held
}

// keepsFor answers what may be kept of the caches: nothing, all, what one disk
// alone has, what all but one have, and some of each.
func keepsFor(n int, next func(int) int) [][]int {
	l := [][]int{nil, slices.Repeat([]int{mostKeep}, n)}
	for m := range n {
		alone := make([]int, n)
		alone[m] = mostKeep
		others := slices.Repeat([]int{mostKeep}, n)
		others[m] = 0
		l = append(l, alone, others)
	}
	for range 3 {
		l = append(l, someKept(n, next))
	}
	return l
}

// someKept cuts each cache somewhere, or takes something out of its midst: few
// Wrs are in a cache, so that the low bits count.
func someKept(n int, next func(int) int) []int {
	keeps := []int{}
	for range n {
		keeps = append(keeps, next(16))
	}
	return keeps
}

// back answers the array behind the power, which must be there.
func back(t *testing.T, name string, a impl.Arr, keeps []int, fuse int) impl.Arr {
	t.Helper()
	x, ok := impl.Recover(impl.PowerOff(a).Mems, keeps, a.Id, fuse)
	if !ok || !impl.ArrOk(x) || x.Broken {
		t.Fatal(name, keeps, fuse, "\nof", a, "\nis", x, ok)
	}
	return x
}

// wantQuiet asks that all is on the disks, and nothing is left to be done.
func wantQuiet(t *testing.T, name string, a impl.Arr) {
	t.Helper()
	if a.Down || a.Tail != a.Seq || len(a.Dirty) != 0 {
		t.Fatal(name, a)
	}
	for _, m := range a.Mems {
		if len(m.Cache) != 0 && !m.Failed {
			t.Fatal(name, "something is in a cache", a)
		}
	}
	if !impl.Even(a) {
		t.Fatal(name, "it is not even", a)
	}
}

// operationsDone answers how many operations of Recover there are.
func operationsDone(t *testing.T, name string, a impl.Arr, keeps []int) int {
	t.Helper()
	return mostFuse - back(t, name, a, keeps, mostFuse).Fuse
}

// The promise itself: wherever the power goes in a write, and whatever is kept
// of the caches, whichever disk is lost, and however many records there are.
func TestStripeBehindThePower(t *testing.T) {
	for n := fewestDisks; n <= mostDisks; n++ {
		for s := range n {
			t.Run(fmt.Sprint(n, " disks, stripe ", s), func(t *testing.T) {
				t.Parallel()
				wantStripeBehindThePower(t, impl.Geo{N: n, S: n}, s)
			})
		}
	}
}

func wantStripeBehindThePower(t *testing.T, g impl.Geo, s int) {
	next, turned, stayed := drawn(uint32(311+10*g.N+s)), 0, 0
	a, held := filled(g, next)
	for i, c := range standingsAt(a, s) {
		x, was := busy(t, known(c.a), held, (i+s)%(impl.Slots+1), next)
		data := dataFor(g, next)
		toBe := map[int][]int{s: wantHeld(g, s, data)}
		for _, fuse := range fusesFor(operationsOf(stepsOfStripe(x, s, data))) {
			x.Fuse = fuse
			y, code := impl.WriteStripe(x, s, data)
			w := wish{was, toBe, map[int]bool{s: code == impl.CoGood}}
			for _, keeps := range keepsFor(g.N, next) {
				name := fmt.Sprint(c.name, ", Fuse ", fuse, ", kept ", keeps)
				z := back(t, name, y, keeps, -1)
				wantQuiet(t, name, z)
				if w.grant(t, name, z) == 1 {
					turned++
				} else {
					stayed++
				}
			}
		}
	}
	if turned < 500 || stayed < 500 {
		t.Error("it seldom turned, or seldom stayed:", turned, stayed)
	}
}

// The record decides: as long as no disk has it the stripe is as it was; as
// soon as one of them has it, it is as it was to be.
func TestRecordDecides(t *testing.T) {
	for _, n := range []int{3, 4, 5} {
		g := impl.Geo{N: n, S: 2}
		a, held := filled(g, drawn(313))
		for _, c := range standingsAt(a, 1) {
			x := known(c.a)
			there := []int{}
			for m, mem := range x.Mems {
				if !mem.Failed {
					there = append(there, m)
				}
			}
			data := dataFor(g, drawn(317))
			for fuse := 0; fuse <= 3*len(there)+1; fuse++ {
				x.Fuse = fuse
				y, _ := impl.WriteStripe(x, 1, data)
				for m := range g.N {
					keeps := make([]int, g.N)
					keeps[m] = 1
					written := slices.Contains(there, m) && slices.Index(there, m) < fuse
					want := held[1]
					if fuse > len(there) || written {
						want = wantHeld(g, 1, data)
					}
					z := back(t, c.name, y, keeps, -1)
					wantStripe(t, fmt.Sprint(c.name, fuse, keeps), z, 1, want)
					wantStripe(t, fmt.Sprint(c.name, fuse, keeps), z, 0, held[0])
				}
			}
		}
	}
}

// inMemory has new words of these stripes in memory.
func inMemory(a impl.Arr, stripes []int, next func(int) int) (impl.Arr, map[int][]int) {
	a.Dirty = nil
	toBe := map[int][]int{}
	for _, s := range stripes {
		data := dataFor(a.G, next)
		a.Dirty = append(a.Dirty, impl.Ent{Stripe: s, Data: data})
		toBe[s] = wantHeld(a.G, s, data)
	}
	return a, toBe
}

// What is not in memory any more was told good, each for itself.
func toldGood(toBe map[int][]int, left impl.Arr) map[int]bool {
	told := map[int]bool{}
	for s := range toBe {
		told[s] = !slices.Contains(stripesInMemory(left), s)
	}
	return told
}

// The same of several stripes, one behind the other; of more than there are
// slots Check comes in their midst.
func TestStripesBehindThePower(t *testing.T) {
	for n := fewestDisks; n <= mostDisks; n++ {
		for i, stripes := range [][]int{{0, 1}, {0, 2}, {0, 1, 2}, {0, 1, 2, 3, 4, 5, 6, 7}} {
			t.Run(fmt.Sprint(n, " disks, stripes ", stripes), func(t *testing.T) {
				t.Parallel()
				wantStripesBehindThePower(t, impl.Geo{N: n, S: []int{2, 3, 3, 8}[i]}, stripes)
			})
		}
	}
}

func wantStripesBehindThePower(t *testing.T, g impl.Geo, stripes []int) {
	next, counts := drawn(uint32(331+10*g.N+len(stripes))), map[int]int{}
	a, held := filled(g, next)
	for i, c := range standingsAt(a, stripes[1]) {
		if g.S == impl.MaxStripes && i%5 != 0 {
			continue
		}
		x, was := busy(t, known(c.a), held, next(impl.Slots+1), next)
		x, toBe := inMemory(x, stripes, next)
		ends := endsOfFlushes(x)
		for _, fuse := range fusesFor(ends[len(ends)-1]) {
			x.Fuse = fuse
			y, code := impl.FlushAll(x)
			w := wish{was, toBe, toldGood(toBe, y)}
			if (code == impl.CoGood) != impl.Clean(y) {
				t.Fatal(c.name, fuse, code, y.Dirty)
			}
			for _, keeps := range [][]int{nil, slices.Repeat([]int{mostKeep}, g.N), someKept(g.N, next), someKept(g.N, next)} {
				name := fmt.Sprint(c.name, ", Fuse ", fuse, ", kept ", keeps)
				z := back(t, name, y, keeps, -1)
				wantQuiet(t, name, z)
				counts[w.grant(t, name, z)]++
			}
		}
	}
	for turned := range len(stripes) + 1 {
		if counts[turned] < 10 {
			t.Error("so many seldom turned:", turned, counts)
		}
	}
}

// The power goes again while all is brought back, at each Fuse, and then again
// while that is brought back: behind it the same holds.
func TestPowerGoesWhileItIsBroughtBack(t *testing.T) {
	for n := fewestDisks; n <= mostDisks; n++ {
		for s := range 2 {
			t.Run(fmt.Sprint(n, " disks, stripe ", s), func(t *testing.T) {
				t.Parallel()
				wantBackAgain(t, impl.Geo{N: n, S: 2}, s)
			})
		}
	}
}

func wantBackAgain(t *testing.T, g impl.Geo, s int) {
	next := drawn(uint32(337 + 10*g.N + s))
	a, held := filled(g, next)
	for i, c := range standingsAt(a, s) {
		x, was := busy(t, known(c.a), held, (i+s)%(impl.Slots+1), next)
		data := dataFor(g, next)
		operations := operationsOf(stepsOfStripe(x, s, data))
		// One where a record is there alone, one where a word is, all, and any.
		for _, fuse := range []int{max(0, operations-3*g.N+1), operations - g.N + 1, operations, next(operations)} {
			x.Fuse = fuse
			y, code := impl.WriteStripe(x, s, data)
			w := wish{was, map[int][]int{s: wantHeld(g, s, data)}, map[int]bool{s: code == impl.CoGood}}
			for _, keeps := range [][]int{someKept(g.N, next), keepsFor(g.N, next)[next(2*g.N+2)]} {
				wantEachEnd(t, fmt.Sprint(c.name, ", Fuse ", fuse), y, keeps, w, next)
			}
		}
	}
}

// wantEachEnd lets Recover end at each Fuse, and brings back what is left.
func wantEachEnd(t *testing.T, name string, a impl.Arr, keeps []int, w wish, next func(int) int) {
	t.Helper()
	operations := operationsDone(t, name, a, keeps)
	for fuse := 0; fuse <= operations+1; fuse++ {
		name := fmt.Sprint(name, ", kept ", keeps, ", back with ", fuse)
		x := back(t, name, a, keeps, fuse)
		if x.Down != (fuse < operations) {
			t.Fatal(name, "of", operations, x)
		}
		if !x.Down {
			w.grant(t, name, x)
		}
		again := []int(nil)
		if fuse%3 > 0 {
			again = keepsFor(a.G.N, next)[next(2*a.G.N+5)]
		}
		y := back(t, name+", and again", x, again, -1)
		wantQuiet(t, name, y)
		w.grant(t, name+", and again", y)
		z := back(t, name+", and twice", x, again, next(operations+2))
		y = back(t, name+", and twice again", z, someKept(a.G.N, next), -1)
		wantQuiet(t, name, y)
		w.grant(t, name+", and twice again", y)
	}
}

// Of the least array each Fuse with each other one.
func TestPowerGoesTwiceAtEachFuse(t *testing.T) {
	g := impl.Geo{N: fewestDisks, S: 1}
	a, held := filled(g, drawn(347))
	for i, c := range standingsAt(a, 0) {
		t.Run(c.name, func(t *testing.T) {
			t.Parallel()
			next := drawn(uint32(349 + i))
			x, was := busy(t, known(c.a), held, i%2*impl.Slots, next)
			data := dataFor(g, next)
			for fuse := range operationsOf(stepsOfStripe(x, 0, data)) + 1 {
				x.Fuse = fuse
				y, code := impl.WriteStripe(x, 0, data)
				w := wish{was, map[int][]int{0: wantHeld(g, 0, data)}, map[int]bool{0: code == impl.CoGood}}
				wantEachTwo(t, y, someKept(g.N, next), w, next)
			}
		})
	}
}

func wantEachTwo(t *testing.T, a impl.Arr, keeps []int, w wish, next func(int) int) {
	t.Helper()
	for first := range operationsDone(t, "first", a, keeps) + 1 {
		x := back(t, "first", a, keeps, first)
		between := someKept(a.G.N, next)
		for second := range operationsDone(t, "second", x, between) + 1 {
			y := back(t, "second", x, between, second)
			z := back(t, "third", y, someKept(a.G.N, next), -1)
			w.grant(t, fmt.Sprint(keeps, first, between, second), z)
			wantQuiet(t, "third", z)
		}
	}
}

// While the power is gone a disk may fail too, where none was lost: also the
// one that alone has the record.
func TestDiskFailsWhileThePowerIsGone(t *testing.T) {
	for n := fewestDisks; n <= mostDisks; n++ {
		t.Run(fmt.Sprint(n, " disks"), func(t *testing.T) {
			t.Parallel()
			wantOneBorne(t, impl.Geo{N: n, S: 2})
		})
	}
}

func wantOneBorne(t *testing.T, g impl.Geo) {
	next := drawn(uint32(353 + g.N))
	a, held := filled(g, next)
	for recs := range impl.Slots + 1 {
		x, was := busy(t, known(a), held, recs, next)
		s, data := recs%2, dataFor(g, next)
		for fuse := range operationsOf(stepsOfStripe(x, s, data)) + 1 {
			x.Fuse = fuse
			y, code := impl.WriteStripe(x, s, data)
			w := wish{was, map[int][]int{s: wantHeld(g, s, data)}, map[int]bool{s: code == impl.CoGood}}
			for m := range g.N {
				keeps := keepsFor(g.N, next)[next(2*g.N+5)]
				gone := back(t, "gone at once", withGone(y, m), keeps, -1)
				w.grant(t, "gone at once", gone)
				wantQuiet(t, "gone at once", gone)
				alone := make([]int, g.N)
				alone[m] = mostKeep
				for range 4 {
					again := back(t, "one alone", y, alone, next(6*g.N))
					z := back(t, "gone then", withGone(again, m), someKept(g.N, next), -1)
					w.grant(t, "gone then", z)
					wantQuiet(t, "gone then", z)
					if z.Lost != m || z.Built != 0 {
						t.Fatal("another one is Lost", m, z)
					}
				}
			}
		}
	}
}

func withGone(a impl.Arr, m int) impl.Arr {
	return withMem(a, m, func(x *impl.Mem) { *x = impl.FailMem(*x) })
}

// Behind Replay a record that one disk alone had lies in its slot of each disk
// that is there; and wherever the power goes, ahead of the first word.
func TestRecordThatOneDiskAloneHas(t *testing.T) {
	t.Parallel()
	for _, g := range []impl.Geo{{N: 3, S: 1}, {N: 3, S: 3}, {N: 4, S: 4}, {N: 5, S: 5}} {
		for s := range g.S {
			a, held := filled(g, drawn(359))
			for i, c := range standingsAt(a, s) {
				x := known(c.a)
				r := impl.Rec{Seq: x.Seq, Stripe: s, Data: dataFor(g, drawn(uint32(367+i)))}
				for m := range g.N {
					if x.Mems[m].Failed {
						continue
					}
					wantToAll(t, c.name, withRec(x, m, r), r, held)
					wantToAll(t, c.name+", in the cache", withWr(x, m, firstSlot+r.Seq%impl.Slots, wantRecWords(r)...), r, held)
				}
			}
		}
	}
}

func wantToAll(t *testing.T, name string, a impl.Arr, r impl.Rec, held [][]int) {
	t.Helper()
	for _, fuse := range fusesFor(operationsOf(stepsOfReplay(a))) {
		a.Fuse = fuse
		x := impl.Replay(a)
		for m, mem := range x.Mems {
			before := a.Mems[m].Secs[firstStripe+r.Stripe]
			waits := slices.ContainsFunc(mem.Cache, func(w impl.Wr) bool { return w.N == firstStripe+r.Stripe })
			if (waits || !slices.Equal(mem.Secs[firstStripe+r.Stripe], before)) && !recordOnAll(x, r) {
				t.Fatal(name, "Fuse", fuse, "the disk", m, "has its word ahead of the record", x)
			}
		}
		if !x.Down && (!recordOnAll(x, r) || x.Seq != r.Seq+1) {
			t.Fatal(name, "the record is not on all", x)
		}
		if !x.Down {
			for s := range a.G.S {
				want := held[s]
				if s == r.Stripe {
					want = wantHeld(a.G, s, r.Data)
				}
				wantStripe(t, name, x, s, want)
			}
		}
	}
}

// Behind the power it goes on: what is written then is there too, behind the
// next power as well, as often as it goes.
func TestPowerGoesAgainAndAgain(t *testing.T) {
	for n := fewestDisks; n <= mostDisks; n++ {
		t.Run(fmt.Sprint(n, " disks"), func(t *testing.T) {
			t.Parallel()
			next := drawn(uint32(373 + n))
			for range 60 {
				wantGoingOn(t, impl.Geo{N: n, S: 1 + next(impl.MaxStripes)}, next)
			}
		})
	}
}

func wantGoingOn(t *testing.T, g impl.Geo, next func(int) int) {
	t.Helper()
	a, held := filled(g, next)
	standings := standingsAt(a, next(g.S))
	x := known(standings[next(len(standings))].a)
	for range 12 {
		var toBe map[int][]int
		x, held = busy(t, x, held, next(7), next)
		x, toBe = inMemory(x, stripesIn(next(1<<g.S), g.S), next)
		x.Fuse = next(90)
		y, _ := impl.FlushAll(x)
		w := wish{held, toBe, toldGood(toBe, y)}
		for y.Fuse = -1; ; {
			if y = back(t, "going on", y, keepsFor(g.N, next)[next(2*g.N+5)], max(-1, next(120)-60)); !y.Down {
				break
			}
		}
		w.grant(t, "going on", y)
		wantQuiet(t, "going on", y)
		held = slices.Clone(held)
		for s := range toBe {
			held[s], _ = impl.Words(y, s)
		}
		x, x.Fuse = y, -1
	}
}
