package tests

import (
	"fmt"
	"slices"
	"testing"

	"loop.example/g00398/impl"
)

// wantFailed is FailDisk by the document's words.
func wantFailed(a impl.Arr, m int) impl.Arr {
	if !wantArrOk(a) || !within(m, 0, a.G.N-1) || a.Mems[m].Failed {
		return a
	}
	x := withMem(a, m, func(x *impl.Mem) { x.Failed, x.Cache = true, nil })
	if a.Lost == -1 || a.Lost == m {
		x.Lost, x.Built = m, 0
	} else {
		x.Broken = true
	}
	if x.Down || x.Broken || x.Gen == mostOfAnArr {
		return x
	}
	return played(x, stepsOfMark(x, x.Gen+1))
}

func wantCanLose(a impl.Arr, m int) bool {
	if !wantArrOk(a) || !within(m, 0, a.G.N-1) || a.Broken || a.Lost != -1 && a.Lost != m {
		return false
	}
	for other, mem := range a.Mems {
		for s := range a.G.S {
			if other != m && slices.Contains(mem.Bad, firstStripe+s) {
				return false
			}
		}
	}
	return true
}

func wantLostAt(a impl.Arr, s int) int {
	if !wantArrOk(a) || !within(s, 0, a.G.S-1) {
		return a.G.N
	}
	lost := 0
	for m, mem := range a.Mems {
		readable := !mem.Failed && !slices.Contains(mem.Bad, firstStripe+s)
		if !wantLive(a, m, s) || !readable || len(wantRead(mem, firstStripe+s)) != 1 {
			lost++
		}
	}
	return lost
}

// wantFail asks FailDisk for all that the document says of it, and answers what
// it answered.
func wantFail(t *testing.T, name string, a impl.Arr, m int) impl.Arr {
	t.Helper()
	was := plain(a)
	x := impl.FailDisk(a, m)
	if want := wantFailed(a, m); !alike(x, want) {
		t.Fatal(name, "disk", m, "\nof", a, "\nis", x, "\nnot", want)
	}
	if !alike(a, was) {
		t.Fatal(name, "disk", m, "it turned", a, "was", was)
	}
	return x
}

// wantAsked asks CanLose of each disk, and LostAt of each stripe, those about
// the ends among them.
func wantAsked(t *testing.T, name string, a impl.Arr) {
	t.Helper()
	was := plain(a)
	for _, m := range disksToAsk(a) {
		if is := impl.CanLose(a, m); is != wantCanLose(a, m) {
			t.Fatal(name, a.G, "CanLose", m, "is", is, "of", a)
		}
	}
	for _, s := range stripesToAsk(a.G) {
		if is, want := impl.LostAt(a, s), wantLostAt(a, s); is != want {
			t.Fatal(name, a.G, "LostAt", s, "is", is, "not", want, "of", a)
		}
	}
	if !alike(a, was) {
		t.Fatal(name, "it turned", a, "was", was)
	}
}

func disksToAsk(a impl.Arr) []int {
	l := append(outside(len(a.Mems)), a.G.N-1, a.G.N, a.Lost)
	for m := range mostDisks + 2 {
		l = append(l, m)
	}
	return l
}

// wantLoses asks which disks alone the array bears to lose.
func wantLoses(t *testing.T, name string, a impl.Arr, disks ...int) {
	t.Helper()
	for _, m := range disksToAsk(a) {
		if is, want := impl.CanLose(a, m), slices.Contains(disks, m); is != want {
			t.Fatal(name, a.G, "CanLose", m, "is", is, "of", a)
		}
	}
}

func allDisks(a impl.Arr) []int {
	l := []int{}
	for m := range a.G.N {
		l = append(l, m)
	}
	return l
}

// Told by hand: three disks, two stripes, one disk that fails behind the other.
func TestFailsAsItIsTold(t *testing.T) {
	a := impl.ArrNew(arrayId, impl.Geo{N: 3, S: 2})
	a, _ = impl.WriteStripe(a, 1, []int{5, 6})
	a, _ = impl.SetBlock(a, 0, 9)
	wantLoses(t, "none lost", a, 0, 1, 2)
	x := impl.FailDisk(a, 2)
	if x.Lost != 2 || x.Built != 0 || x.Gen != 1 || x.Broken || x.Down || x.Seq != 1 || x.Tail != 0 || x.Fuse != -1 || !impl.ArrOk(x) {
		t.Fatal("one", x)
	}
	if gone := x.Mems[2]; !gone.Failed || len(gone.Cache) != 0 || !alike(gone.Secs, a.Mems[2].Secs) {
		t.Fatal("one", gone)
	}
	for m := range 2 {
		s, ok := impl.BestSuper(x.Mems[m], arrayId)
		if want := (impl.Super{Id: arrayId, Gen: 1, Role: m, N: 3, S: 2, Lost: 2}); !ok || s != want || len(x.Mems[m].Cache) != 0 {
			t.Fatal("one", m, s, ok)
		}
	}
	wantBoth(t, "one", x, []int{9, 0, 5, 6}, []int{0, 0, 5, 6})
	wantLoses(t, "one", x, 2)
	y := impl.FailDisk(x, 0)
	if y.Lost != 2 || y.Built != 0 || y.Gen != 1 || !y.Broken || y.Down || !y.Mems[0].Failed || !alike(y.Mems[1:], x.Mems[1:]) || !impl.ArrOk(y) {
		t.Fatal("two", y)
	}
	wantLoses(t, "two", y)
	for b, want := range [][2]int{{9, impl.CoGood}, {0, impl.CoGood}, {0, impl.CoIo}, {0, impl.CoIo}} {
		if n, code := impl.GetBlock(y, b); n != want[0] || code != want[1] {
			t.Fatal("two", b, n, code)
		}
	}
	z := impl.FailDisk(y, 1)
	for i, c := range []impl.Arr{a, x, y, z} {
		for s := range 2 {
			if n := impl.LostAt(c, s); n != i {
				t.Error(i, "LostAt", s, n)
			}
		}
		if n := impl.LostAt(c, 2); n != 3 {
			t.Error(i, "no such stripe", n)
		}
	}
	for m := range 3 {
		if again := impl.FailDisk(z, m); !alike(again, z) {
			t.Error("it Failed already", m, again)
		}
	}
}

// Each disk of every Geo, and those just past both ends, however the others
// stand, with something in each cache and in memory.
func TestFailDiskOfEachDisk(t *testing.T) {
	t.Parallel()
	next := drawn(509)
	for _, g := range rightGeos() {
		a, _ := filled(g, next)
		a.Tail, a.Seq = 9, 9+g.S%(impl.Slots+1)
		for _, c := range standingsAt(restless(a), g.S/2) {
			c.a.Gen = next(mostOfAnArr)
			for m := range g.N {
				wantOneMore(t, c.name, c.a, m)
			}
			for _, m := range append(outside(g.N), -1, g.N) {
				if x := wantFail(t, c.name, c.a, m); !alike(x, c.a) {
					t.Fatal(c.name, "no such disk", m, x)
				}
			}
		}
	}
}

// wantOneMore tells by hand what the disk m that fails makes of the array.
func wantOneMore(t *testing.T, name string, a impl.Arr, m int) {
	t.Helper()
	x := wantFail(t, name, a, m)
	again := wantFail(t, name+", again", x, m)
	if !alike(again, x) || !impl.ArrOk(x) || !x.Mems[m].Failed {
		t.Fatal(name, "disk", m, x, again)
	}
	switch {
	case a.Mems[m].Failed:
		if !alike(x, a) {
			t.Fatal(name, "disk", m, "Failed already", x)
		}
	case a.Lost == -1 || a.Lost == m:
		if x.Lost != m || x.Built != 0 || x.Broken || x.Gen != a.Gen+1 {
			t.Fatal(name, "disk", m, "is not Lost", x)
		}
		wantSupers(t, name, x)
	default:
		if x.Lost != a.Lost || x.Built != a.Built || !x.Broken || x.Gen != a.Gen {
			t.Fatal(name, "disk", m, "is the second", x)
		}
		for other := range a.Mems {
			if other != m && !alike(x.Mems[other], a.Mems[other]) {
				t.Fatal(name, "disk", m, "turned", other)
			}
		}
	}
}

// Built goes to 0, how far it ever was, and so it stands in the Supers.
func TestFailDiskThatIsLost(t *testing.T) {
	for _, g := range rightGeos() {
		a := wantNewArr(arrayId, g)
		for m := range g.N {
			for built := 0; built <= g.S; built++ {
				x := wantFail(t, "Lost", withLost(a, m, built), m)
				if x.Lost != m || x.Built != 0 || x.Broken || x.Gen != 1 {
					t.Fatal(g, m, built, x)
				}
				y, ok := impl.Assemble(x.Mems, arrayId)
				if !ok || y.Lost != m || y.Built != 0 || y.Broken || y.Gen != 1 {
					t.Fatal("assembled", g, m, built, y, ok)
				}
				for other := range g.N {
					if other == m {
						continue
					}
					z := wantFail(t, "another one", withLost(a, m, built), other)
					if z.Lost != m || z.Built != built || !z.Broken || z.Gen != 0 || z.Mems[m].Failed {
						t.Fatal("another one", g, m, built, other, z)
					}
				}
			}
		}
	}
}

// Without power nothing is marked, but the disk failed all the same; behind the
// power it is the one that is Lost.
func TestFailDiskWithoutPower(t *testing.T) {
	t.Parallel()
	for _, g := range rightGeos() {
		a, held := filled(g, drawn(521))
		for _, c := range standingsAt(restless(a), g.S/2) {
			for _, fuse := range []int{-1, 0, 3, mostFuse} {
				x := known(c.a)
				x.Down, x.Fuse = true, fuse
				for m := range g.N {
					y := wantFail(t, c.name, x, m)
					if !y.Down || y.Fuse != fuse || y.Gen != x.Gen {
						t.Fatal(c.name, m, "it was marked", y)
					}
					if y.Broken {
						continue
					}
					z := back(t, c.name, y, nil, -1)
					if z.Lost != m || z.Built != 0 {
						t.Fatal(c.name, m, "another one is Lost", z)
					}
					for s := range g.S {
						wantStripe(t, c.name, z, s, held[s])
					}
				}
			}
		}
	}
}

// What is Broken is never marked. Where nothing is Lost there, or this disk is,
// it is the one that is Lost.
func TestFailDiskOfWhatBroke(t *testing.T) {
	t.Parallel()
	for _, g := range rightGeos() {
		a, _ := filled(g, drawn(523))
		for _, x := range arrsThatBroke(restless(a)) {
			for _, fuse := range []int{-1, 0, 1} {
				x.Fuse = fuse
				for m := -1; m <= g.N; m++ {
					y := wantFail(t, "Broken", x, m)
					if !y.Broken || y.Gen != x.Gen || y.Fuse != fuse || y.Down || !impl.ArrOk(y) {
						t.Fatal("Broken", m, y)
					}
				}
			}
		}
		broken := withLost(a, 1, g.S)
		broken.Broken = true
		if x := impl.FailDisk(broken, 1); x.Lost != 1 || x.Built != 0 || !x.Broken {
			t.Error("Lost itself", x)
		}
		if x := impl.FailDisk(broken, 0); x.Lost != 1 || x.Built != g.S || !x.Broken {
			t.Error("another one is Lost", x)
		}
		if x := impl.FailDisk(withLost(broken, -1, 0), 0); x.Lost != 0 || x.Built != 0 || !x.Broken {
			t.Error("nothing is Lost", x)
		}
	}
}

// The last Gen is reached, but not passed: then the disk is Lost in memory
// alone.
func TestFailDiskAtTheEndsOfGen(t *testing.T) {
	for _, g := range rightGeos() {
		for _, c := range standingsAt(restless(wantNewArr(arrayId, g)), 0) {
			for _, gen := range []int{0, 1, 59989, 59990, 59998, 59999, 60000} {
				c.a.Gen = gen
				for m := range g.N {
					x := wantFail(t, c.name, c.a, m)
					turns := !c.a.Mems[m].Failed && (c.a.Lost == -1 || c.a.Lost == m)
					want := gen
					if turns && gen < 60000 {
						want++
					}
					if x.Gen != want || turns && x.Lost != m {
						t.Fatal(c.name, "Gen", gen, "disk", m, "is", x.Gen, x.Lost)
					}
					if turns && gen == 60000 {
						wantUntouched(t, c.name, c.a, x, m)
					}
				}
			}
		}
	}
}

// wantUntouched asks that no disk but m turned.
func wantUntouched(t *testing.T, name string, was, is impl.Arr, m int) {
	t.Helper()
	for other := range was.Mems {
		if other != m && !alike(is.Mems[other], was.Mems[other]) {
			t.Fatal(name, "the disk", other, "turned", is.Mems[other])
		}
	}
}

// Disk by disk, but for the one that failed: what was in its cache is gone.
func TestPowerGoesInAFail(t *testing.T) {
	a := wantNewArr(arrayId, impl.Geo{N: 3, S: 2})
	a.Tail, a.Seq = 4, 6
	for m := range a.Mems {
		a = withWr(a, m, 5, 4321)
	}
	fail := func(m int) func(impl.Arr) (impl.Arr, string) {
		return func(a impl.Arr) (impl.Arr, string) {
			x := impl.FailDisk(a, m)
			return x, fmt.Sprint(tracks(x, 2, 1, firstStripe), ", ", x.Lost, x.Built, x.Gen, x.Tail, x.Seq)
		}
	}
	wantTracks(t, "the first", a, fail(0), []string{
		"x j j, 0 0 1 4 6", "x jm j, 0 0 1 4 6", "x jm jm, 0 0 1 4 6", "x JM jm, 0 0 1 4 6", "x JM JM, 0 0 1 4 6", "x JM JM, 0 0 1 4 6",
	})
	wantTracks(t, "the second, Lost", withLost(a, 1, 2), fail(1), []string{
		"j x j, 1 0 1 4 6", "jm x j, 1 0 1 4 6", "jm x jm, 1 0 1 4 6", "JM x jm, 1 0 1 4 6", "JM x JM, 1 0 1 4 6", "JM x JM, 1 0 1 4 6",
	})
	wantTracks(t, "the last, beside one that is Lost", withLost(a, 1, 2), fail(2), []string{
		"j j x, 1 2 0 4 6", "j j x, 1 2 0 4 6",
	})
	wantTracks(t, "one that Failed already", withLost(withFailed(a, 1), 1, 0), fail(1), []string{
		"j x j, 1 0 0 4 6", "j x j, 1 0 0 4 6",
	})
}

// With each Fuse, of each Geo: all that is answered.
func TestEachFuseOfAFail(t *testing.T) {
	t.Parallel()
	for _, g := range rightGeos() {
		a, _ := filled(g, drawn(541))
		for _, c := range standingsAt(restless(a), g.S-1) {
			for m := range g.N {
				operations := 0
				if c.a.Lost == -1 || c.a.Lost == m && !c.a.Mems[m].Failed {
					operations = 2 * (g.N - 1)
				}
				for _, fuse := range fusesFor(operations) {
					c.a.Fuse = fuse
					x := wantFail(t, c.name, c.a, m)
					if x.Down != within(fuse, 0, operations-1) || fuse >= operations && x.Fuse != fuse-operations || x.Down && x.Fuse != -1 {
						t.Fatal(c.name, g, m, "Fuse", fuse, "of", operations, "is", x.Fuse, x.Down)
					}
				}
			}
		}
	}
}

// A disk whose cache is full refuses its Super: it is an operation all the
// same, and the others know of the one that failed.
func TestFailDiskBesideAFullCache(t *testing.T) {
	for _, g := range rightGeos() {
		for full := range g.N {
			a := wantNewArr(arrayId, g)
			for i := range mostWrs {
				a = withWr(a, full, 5, i)
			}
			for m := range g.N {
				for _, fuse := range fusesFor(2 * (g.N - 1)) {
					a.Fuse = fuse
					wantFail(t, "a full cache", a, m)
				}
				a.Fuse = -1
				x := wantFail(t, "a full cache", a, m)
				if m == full {
					wantSupers(t, "its own cache is full", x)
					continue
				}
				if s, ok := impl.BestSuper(x.Mems[full], arrayId); !ok || s.Gen != 0 || s.Lost != -1 {
					t.Fatal("it was written", g, full, m, s, ok)
				}
				if y, ok := impl.Assemble(x.Mems, arrayId); !ok || y.Lost != m || y.Gen != 1 {
					t.Fatal("the others do not know it", g, full, m, y, ok)
				}
			}
		}
	}
}

// Its sectors and which of them are Bad stay as they were; another one that is
// Bad is mended only where a Super is written.
func TestFailDiskWithBadSectors(t *testing.T) {
	for _, g := range rightGeos() {
		a := wantNewArr(arrayId, g)
		for m := range g.N {
			for n := range firstStripe + g.S {
				a = withBad(a, m, n)
			}
		}
		for m := range g.N {
			for _, gen := range []int{0, 1} {
				a.Gen = gen
				x := wantFail(t, "Bad", a, m)
				for other, mem := range x.Mems {
					want := firstStripe + g.S
					if other != m {
						want--
					}
					if len(mem.Bad) != want || other != m && slices.Contains(mem.Bad, 1-gen) {
						t.Fatal("Bad", g, m, gen, other, mem.Bad)
					}
				}
			}
		}
	}
}

// Which disks can be lost where none is Lost, and which where one is: that
// alone, whether it Failed or is there, and how far it ever was built.
func TestCanLoseOfEachDisk(t *testing.T) {
	t.Parallel()
	for _, g := range rightGeos() {
		a, _ := filled(g, drawn(547))
		wantLoses(t, "new", wantNewArr(arrayId, g), allDisks(a)...)
		for _, x := range slices.Concat([]impl.Arr{a, restless(a), impl.PowerOff(a)}, arrsOfNumbers(a), arrsOfDirty(a)) {
			wantLoses(t, "none lost", x, allDisks(a)...)
		}
		for m := range g.N {
			for built := 0; built <= g.S; built++ {
				wantLoses(t, "Lost", withLost(a, m, built), m)
				wantLoses(t, "Failed", withLost(withFailed(a, m), m, built), m)
				wantLoses(t, "Down", impl.PowerOff(withLost(a, m, built)), m)
			}
		}
		for _, x := range arrsThatBroke(a) {
			wantLoses(t, "Broken", x)
			wantLoses(t, "Broken, Down", impl.PowerOff(x))
		}
	}
}

// A stripe's sector that is Bad on one disk: that one can be lost, no other;
// what is Bad on two, none. It is nothing to it that the word is in the cache.
func TestCanLoseBesideBadStripes(t *testing.T) {
	t.Parallel()
	for _, g := range rightGeos() {
		a, _ := filled(g, drawn(557))
		for m := range g.N {
			other := (m + 1) % g.N
			for s := range g.S {
				x := withBad(a, m, firstStripe+s)
				wantLoses(t, "Bad", x, m)
				wantLoses(t, "Bad, with a word in the cache", withWr(x, m, firstStripe+s, 5), m)
				wantLoses(t, "Bad, by SpoilAt", impl.SpoilAt(a, m, s), m)
				wantLoses(t, "Bad, and in memory", withEnts(x, s), m)
				wantLoses(t, "Bad, and Lost itself", withLost(x, m, 0), m)
				wantLoses(t, "Bad, Lost and built", withLost(x, m, g.S), m)
				wantLoses(t, "Bad, and Failed", withLost(withFailed(x, m), m, 0), m)
				wantLoses(t, "Bad, and another one is Lost", withLost(x, other, 0))
				wantLoses(t, "Bad, and another one is built", withLost(x, other, g.S))
				wantLoses(t, "Bad, and another one Failed", withLost(withFailed(x, other), other, 0))
				for beside := range g.S {
					wantLoses(t, "Bad on two", withBad(x, other, firstStripe+beside))
					if beside != s {
						wantLoses(t, "Bad twice", withBad(x, m, firstStripe+beside), m)
					}
				}
			}
		}
	}
}

// The sectors of the Supers and the slots are none of a stripe, whichever of
// them are Bad; nor does it count that a stripe's sector holds another number
// of words than one.
func TestCanLoseBesideOtherSectors(t *testing.T) {
	for _, g := range rightGeos() {
		a := wantNewArr(arrayId, g)
		all := a
		for m := range g.N {
			for n := range firstStripe {
				wantLoses(t, "Bad, but no stripe's", withBad(a, m, n), allDisks(a)...)
				wantLoses(t, "Bad, but no stripe's, Lost", withLost(withBad(a, m, n), 1, 0), 1)
				all = withBad(all, m, n)
			}
			wantLoses(t, "all of them", all, allDisks(a)...)
			for s := range g.S {
				wantLoses(t, "beside them", withBad(all, m, firstStripe+s), m)
				for _, words := range [][]int{nil, {5, 6}} {
					wantLoses(t, "not one word", withSector(a, m, firstStripe+s, words...), allDisks(a)...)
					wantLoses(t, "not one word, in the cache", withWr(a, m, firstStripe+s, words...), allDisks(a)...)
				}
			}
		}
	}
}

// What can be lost is written again: the sector is not Bad then, and the others
// can be lost too.
func TestCanLoseOnceItIsWritten(t *testing.T) {
	for _, g := range rightGeos() {
		a, _ := filled(g, drawn(563))
		for m := range g.N {
			for s := range g.S {
				x := impl.SpoilAt(a, m, s)
				for other := range g.S {
					y, code := impl.WriteStripe(x, other, upTo(g.N-1))
					if code != impl.CoGood {
						t.Fatal(code)
					}
					want := []int{m}
					if other == s {
						want = allDisks(a)
					}
					wantLoses(t, "written", y, want...)
				}
			}
		}
	}
}

// It tells the truth: where each sector of a stripe has its word, it is so just
// where all blocks are still on the disks once this one failed.
func TestCanLoseIsTrue(t *testing.T) {
	t.Parallel()
	next, yes, no := drawn(569), 0, 0
	for range 6000 {
		g := rightGeos()[next(24)]
		a, held := filled(g, next)
		for range next(3) {
			a = impl.SpoilAt(a, next(g.N), next(g.S))
		}
		switch next(4) {
		case 0:
			a = withLost(a, next(g.N), next(g.S+1))
		case 1:
			a = impl.FailDisk(a, next(g.N))
		}
		m := next(g.N)
		x := wantFail(t, "any", a, m)
		if impl.CanLose(a, m) {
			yes++
			if l := impl.Durable(x); !slices.Equal(l, blockWords(g, held)) {
				t.Fatal("not borne", m, a, l)
			}
		} else {
			no++
			if l := impl.Durable(x); len(l) != 0 {
				t.Fatal("borne", m, a, l)
			}
		}
	}
	if yes < 1000 || no < 1000 {
		t.Error("something seldom came:", yes, no)
	}
}

// wantLostAtAll asks for so many at this stripe, and N where there is none.
func wantLostAtAll(t *testing.T, name string, a impl.Arr, s, lost int) {
	t.Helper()
	if is := impl.LostAt(a, s); is != lost {
		t.Fatal(name, a.G, "LostAt", s, "is", is, "not", lost, "of", a)
	}
	for _, none := range append(outside(a.G.S), -1, a.G.S) {
		if is := impl.LostAt(a, none); is != a.G.N {
			t.Fatal(name, a.G, "no such stripe", none, is)
		}
	}
}

// None, and one, for each reason that there is; the other stripes are as they
// were, but where the whole disk is lost.
func TestLostAtWhereOneDiskLacksItsWord(t *testing.T) {
	t.Parallel()
	for _, g := range rightGeos() {
		a, _ := filled(g, drawn(571))
		for s := range g.S {
			wantLostAtAll(t, "none", a, s, 0)
			for m := range g.N {
				wantLostAtAll(t, "built past it", withLost(a, m, s+1), s, 0)
				wantLostAtAll(t, "built up to it", withLost(a, m, s), s, 1)
				for _, why := range lacks() {
					x := why.of(a, m, s)
					wantLostAtAll(t, why.name, x, s, 1)
					for other := range g.S {
						want := 0
						if other == s || !wantLive(x, m, other) {
							want = 1
						}
						wantLostAtAll(t, why.name, x, other, want)
					}
				}
			}
		}
	}
}

// Two, for each two reasons; one disk that lacks it for both is one.
func TestLostAtWhereTwoDisksLackTheirWord(t *testing.T) {
	t.Parallel()
	for _, g := range rightGeos() {
		a, _ := filled(g, drawn(577))
		for _, one := range lacks() {
			for _, two := range lacks() {
				for m := range g.N {
					s := m % g.S
					name, first := one.name+" and "+two.name, one.of(a, m, s)
					if x := two.of(first, m, s); impl.ArrOk(x) {
						wantLostAtAll(t, name+", of one disk", x, s, 1)
					}
					if one.lost && two.lost {
						continue
					}
					wantLostAtAll(t, name, two.of(first, (m+1)%g.N, s), s, 2)
				}
			}
		}
	}
}

// One more with each disk, up to all of them; and also where it is Broken.
func TestLostAtUpToAllDisks(t *testing.T) {
	for _, g := range rightGeos() {
		full, _ := filled(g, drawn(587))
		for s := range g.S {
			for _, why := range lacks() {
				x := full
				for m := range g.N {
					if why.lost {
						x.Broken = true
						x = withFailed(x, m)
					} else {
						x = why.of(x, m, s)
					}
					wantLostAtAll(t, why.name, x, s, m+1)
					if g.S > 1 && !why.lost {
						wantLostAtAll(t, why.name+", the next stripe", x, (s+1)%g.S, 0)
					}
				}
			}
			broken := full
			broken.Broken = true
			wantLostAtAll(t, "Broken, but all is there", broken, s, 0)
			wantLostAtAll(t, "Broken, and Lost", withLost(broken, 1, s), s, 1)
			wantLostAtAll(t, "Down", impl.PowerOff(withLost(full, 1, s)), s, 1)
			wantLostAtAll(t, "in memory", withEnts(withLost(full, 1, s), s), s, 1)
		}
	}
}

// How it hangs together with what can be read: no word missing, an XorAt; not
// more than one, Words.
func TestLostAtBesideWords(t *testing.T) {
	t.Parallel()
	next, counts := drawn(593), map[int]int{}
	for range 4000 {
		g := rightGeos()[next(24)]
		a := anyArr(g, next)
		if next(3) == 0 {
			a = impl.FailDisk(a, next(g.N))
		}
		wantAsked(t, "any", a)
		wantAsked(t, "any, with room", roomy(a))
		for s := range g.S {
			lost := impl.LostAt(a, s)
			_, whole := impl.XorAt(a, s)
			_, there := impl.Words(a, s)
			if whole != (lost == 0) || there != (lost < 2 && !a.Broken) {
				t.Fatal(s, lost, whole, there, a)
			}
			counts[lost]++
		}
	}
	for lost := range 4 {
		if counts[lost] < 50 {
			t.Error("so many were seldom lost:", lost, counts)
		}
	}
}

// Whatever is right, however it stands: all that is answered.
func TestFailsOfRightArrs(t *testing.T) {
	t.Parallel()
	for _, a := range slices.Concat(rightArrs(), cornerArrs()) {
		wantAsked(t, "right", a)
		for m := -1; m <= a.G.N; m++ {
			wantFail(t, "right", a, m)
		}
	}
}

// What is not ArrOk stays as it was; nothing of it can be lost, and each of its
// disks' words is.
func TestFailsOfWrongArrs(t *testing.T) {
	t.Parallel()
	for name, a := range wrongArrs() {
		for _, x := range []impl.Arr{a, roomy(a)} {
			for _, m := range []int{-1, 0, 1, len(a.Mems) - 1, len(a.Mems), a.G.N - 1, a.G.N, a.Lost} {
				if y := impl.FailDisk(x, m); !alike(y, a) {
					t.Error(name, m, y)
				}
				if impl.CanLose(x, m) {
					t.Error(name, "CanLose", m)
				}
			}
			for _, s := range []int{-1, 0, 1, a.G.S - 1, a.G.S} {
				if n := impl.LostAt(x, s); n != a.G.N {
					t.Error(name, "LostAt", s, "is", n)
				}
			}
		}
	}
	for _, a := range []impl.Arr{{}, {G: impl.Geo{N: 3, S: 2}}, {G: impl.Geo{N: -7, S: 1}}} {
		wantAsked(t, "nearly nothing", a)
		for m := -1; m < 4; m++ {
			wantFail(t, "nearly nothing", a, m)
		}
		if n := impl.LostAt(a, 0); n != a.G.N {
			t.Error("nearly nothing", n)
		}
	}
}

// arrsToFail are right and wrong, with words that are missing, and with a Fuse
// that ends in the midst of what is marked.
func arrsToFail() []impl.Arr {
	l := arrsToScrub()
	for i, a := range arrsToHoldApart() {
		if i%5 == 0 {
			l = append(l, a)
		}
	}
	return l
}

func TestFailsHoldApart(t *testing.T) {
	t.Parallel()
	for _, plainly := range arrsToFail() {
		a := roomy(plainly)
		for _, m := range []int{-1, 0, a.Lost, a.G.N - 1, a.G.N} {
			wantApart(t, "FailDisk", a, plainly, func(a impl.Arr) (impl.Arr, int) { return impl.FailDisk(a, m), 0 })
			holdsApart(t, "CanLose", []any{a}, func() []any { impl.CanLose(a, m); return nil })
			if impl.CanLose(a, m) != impl.CanLose(plainly, m) {
				t.Error("CanLose: what lies behind was read", m, plainly)
			}
		}
		for _, s := range []int{-1, 0, a.G.S - 1, a.G.S} {
			holdsApart(t, "LostAt", []any{a}, func() []any { impl.LostAt(a, s); return nil })
			if impl.LostAt(a, s) != impl.LostAt(plainly, s) {
				t.Error("LostAt: what lies behind was read", s, plainly)
			}
		}
	}
}

// What would count lies behind the lengths: it is neither read nor handed out.
func TestWhatLiesBehindIsNotLost(t *testing.T) {
	a := wantNewArr(arrayId, impl.Geo{N: 3, S: 2})
	for m := range a.Mems {
		a.Mems[m].Bad = []int{firstStripe, firstStripe + 1}[:0]
		a.Mems[m].Cache = []impl.Wr{{N: firstStripe, S: []int{1, 2}}}[:0]
		a.Mems[m].Secs[firstStripe+1] = []int{0, 9}[:1]
	}
	wantLoses(t, "behind the lengths", a, 0, 1, 2)
	wantLostAtAll(t, "behind the lengths", a, 0, 0)
	wantLostAtAll(t, "behind the lengths", a, 1, 0)
	x := wantFail(t, "behind the lengths", a, 1)
	for m, mem := range x.Mems {
		for _, n := range mem.Bad[:cap(mem.Bad)] {
			if n != 0 {
				t.Error("handed out", m, n)
			}
		}
	}
	short := a
	short.Mems = a.Mems[:2]
	if y := impl.FailDisk(short, 2); !alike(y, short) || impl.CanLose(short, 2) || impl.LostAt(short, 0) != 3 {
		t.Error("a disk behind the length", y)
	}
}

// What was answered stays as it was, and so does what was handed in.
func TestFailsTurnApart(t *testing.T) {
	a := withEnts(impl.ArrNew(arrayId, impl.Geo{N: 3, S: 3}), 1)
	was := plain(a)
	x, none := impl.FailDisk(a, 0), impl.FailDisk(a, 3)
	then := plain(x)
	again, second := impl.FailDisk(x, 0), impl.FailDisk(x, 1)
	for i, b := range []impl.Arr{none, again, second} {
		for m := range b.Mems {
			b.Mems[m].Secs[0][0], b.Mems[m].Secs[firstStripe][0], b.Mems[m].Failed = 9, 9, true
		}
		b.Dirty[0].Data[0], b.Dirty[0].Stripe = 9, 9
		if !alike(a, was) || !alike(x, then) {
			t.Fatal("it turned", i, a, x)
		}
	}
	a.Mems[1].Secs[firstStripe][0], a.Dirty[0].Data[1] = 77, 78
	if !alike(x, then) {
		t.Error("it turned", x)
	}
}
