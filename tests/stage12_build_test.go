package tests

import (
	"fmt"
	"slices"
	"testing"

	"loop.example/g00398/impl"
)

// wantBuildCode is what the calls of the chapter have in common: what is out of
// their range, what cannot be read, and whether they hang on Gen is handed in.
func wantBuildCode(a impl.Arr, outOfRange, unread func(impl.Arr) bool, marks bool) int {
	switch {
	case !wantArrOk(a):
		return impl.CoForm
	case a.Down:
		return impl.CoDown
	case a.Lost == -1 || outOfRange(a):
		return impl.CoRange
	case a.Broken || unread(a):
		return impl.CoIo
	case marks && a.Gen >= fullFrom:
		return impl.CoFull
	}
	return impl.CoGood
}

func never(impl.Arr) bool { return false }

// behind answers a behind these steps, and the code of it.
func behind(a impl.Arr, steps []step) (impl.Arr, int) {
	x := played(a, steps)
	if x.Down {
		return x, impl.CoDown
	}
	return x, impl.CoGood
}

// blank is a disk that nothing was ever written to.
func blank(g impl.Geo) impl.Mem { return impl.Mem{Secs: make([][]int, firstStripe+g.S)} }

// wantSpared, wantStepped, wantAdopted and wantAllBuilt are the calls by the
// document's words.
func wantSpared(a impl.Arr) (impl.Arr, int) {
	there := func(a impl.Arr) bool { return !a.Mems[a.Lost].Failed }
	if code := wantBuildCode(a, there, never, true); code != impl.CoGood {
		return a, code
	}
	x := withMem(a, a.Lost, func(m *impl.Mem) { *m = blank(a.G) })
	x.Built = 0
	return behind(x, stepsOfMark(x, x.Gen+1))
}

func wantStepped(a impl.Arr) (impl.Arr, int) {
	goneOrDone := func(a impl.Arr) bool { return a.Mems[a.Lost].Failed || a.Built == a.G.S }
	unread := func(a impl.Arr) bool { _, ok := wantWords(a, a.Built); return !ok }
	if code := wantBuildCode(a, goneOrDone, unread, false); code != impl.CoGood {
		return a, code
	}
	words, _ := wantWords(a, a.Built)
	write := stepOfWrite(a.Lost, firstStripe+a.Built, func(impl.Arr) []int { return []int{words[a.Lost]} })
	return behind(a, append([]step{write}, number(func(a *impl.Arr) { a.Built++ })...))
}

func wantAdopted(a impl.Arr) (impl.Arr, int) {
	goneOrNotDone := func(a impl.Arr) bool { return a.Mems[a.Lost].Failed || a.Built < a.G.S }
	if code := wantBuildCode(a, goneOrNotDone, never, true); code != impl.CoGood {
		return a, code
	}
	lessLost := number(func(a *impl.Arr) { a.Lost, a.Built = -1, 0 })
	return behind(a, slices.Concat(stepsOfCheck(a), lessLost, stepsOfMark(a, a.Gen+2)))
}

func wantAllBuilt(a impl.Arr) (impl.Arr, int) {
	x, code := wantSpared(a)
	for range max(0, min(a.G.S, impl.MaxStripes)) {
		if code == impl.CoGood {
			x, code = wantStepped(x)
		}
	}
	if code == impl.CoGood {
		x, code = wantAdopted(x)
	}
	return x, code
}

// A building is one of the chapter's calls, with what the document says of it.
type building struct {
	name string
	call func(impl.Arr) (impl.Arr, int)
	want func(impl.Arr) (impl.Arr, int)
}

var (
	sparing  = building{"Spare", impl.Spare, wantSpared}
	stepping = building{"BuildStep", impl.BuildStep, wantStepped}
	adopting = building{"Adopt", impl.Adopt, wantAdopted}
	allOfIt  = building{"BuildAll", impl.BuildAll, wantAllBuilt}
)

func buildings() []building { return []building{sparing, stepping, adopting, allOfIt} }

// ask asks for all that the document says of the call, and answers what it
// answered.
func (c building) ask(t *testing.T, name string, a impl.Arr) (impl.Arr, int) {
	t.Helper()
	was := plain(a)
	x, code := c.call(a)
	if want, wantedCode := c.want(a); code != wantedCode || !alike(x, want) {
		t.Fatal(name, c.name, "\nof", a, "\nis", code, x, "\nnot", wantedCode, want)
	}
	if !alike(a, was) {
		t.Fatal(name, c.name, "it turned", a, "was", was)
	}
	return x, code
}

// good asks likewise, and that it is CoGood.
func (c building) good(t *testing.T, name string, a impl.Arr) impl.Arr {
	t.Helper()
	x, code := c.ask(t, name, a)
	if code != impl.CoGood || !impl.ArrOk(x) || x.Down {
		t.Fatal(name, c.name, "is", code, "of", a)
	}
	return x
}

// refuses asks that the call is refused with this code, and turns nothing.
func (c building) refuses(t *testing.T, name string, a impl.Arr, code int) {
	t.Helper()
	if x, is := c.call(a); is != code || !alike(x, a) {
		t.Fatal(name, c.name, "is", is, "not", code, "\nof", a, "\nis", x)
	}
}

// gone has the disk m Failed and Lost, and built so far as it says.
func gone(a impl.Arr, m, built int) impl.Arr { return withLost(withFailed(a, m), m, built) }

// spared has a blank disk in the place of m, built up to this stripe: what it
// is to hold of those ahead of it is there.
func spared(a impl.Arr, held [][]int, m, built int) impl.Arr {
	a = withMem(a, m, func(x *impl.Mem) { *x = blank(a.G) })
	for s := range built {
		a = withSector(a, m, firstStripe+s, held[s][m])
	}
	return withLost(a, m, built)
}

// Told by hand: three disks, two stripes; one that is lost comes anew.
func TestBuildsAsItIsTold(t *testing.T) {
	a := impl.ArrNew(arrayId, impl.Geo{N: 3, S: 2})
	a, _ = impl.WriteStripe(a, 0, []int{5, 6})
	a, _ = impl.WriteStripe(a, 1, []int{7, 9})
	a, _ = impl.SetBlock(a, 3, 4)
	a = impl.FailDisk(a, 0)
	x, code := impl.Spare(a)
	if code != impl.CoGood || x.Lost != 0 || x.Built != 0 || x.Gen != 2 || x.Tail != 0 || x.Seq != 2 || x.Broken || x.Down {
		t.Fatal("Spare", code, x)
	}
	if mem := x.Mems[0]; mem.Failed || len(mem.Secs) != 8 || len(mem.Cache)+len(mem.Bad) != 0 || !slices.Equal(mem.Secs[0], []int{21317, arrayId, 2, 0, 3, 2, 0, 1, 0}) {
		t.Fatal("Spare", mem)
	}
	for n, s := range x.Mems[0].Secs[1:] {
		if len(s) != 0 {
			t.Fatal("the spare holds something", n+1, s)
		}
	}
	// The disk 0 has the first block of the stripe 0, the second of the stripe 1.
	y, code := impl.BuildStep(x)
	if code != impl.CoGood || y.Built != 1 || y.Gen != 2 || !alike(y.Mems[0].Cache, []impl.Wr{{N: 6, S: []int{5}}}) || !alike(y.Mems[1:], x.Mems[1:]) {
		t.Fatal("BuildStep", code, y)
	}
	z, code := impl.BuildStep(y)
	if code != impl.CoGood || z.Built != 2 || !alike(z.Mems[0].Cache, []impl.Wr{{N: 6, S: []int{5}}, {N: 7, S: []int{9}}}) {
		t.Fatal("BuildStep", code, z)
	}
	w, code := impl.Adopt(z)
	if code != impl.CoGood || w.Lost != -1 || w.Built != 0 || w.Gen != 4 || w.Tail != 2 || w.Seq != 2 || len(w.Mems[0].Cache) != 0 {
		t.Fatal("Adopt", code, w)
	}
	for m, mem := range w.Mems {
		elder, newer := []int{21317, arrayId, 3, m, 3, 2, 2, 1, 2}, []int{21317, arrayId, 4, m, 3, 2, 2, 0, 0}
		if !slices.Equal(mem.Secs[1], elder) || !slices.Equal(mem.Secs[0], newer) {
			t.Fatal("Adopt", m, mem)
		}
	}
	wantBoth(t, "adopted", w, []int{5, 6, 7, 4}, []int{5, 6, 7, 9})
	wantLoses(t, "adopted", w, 0, 1, 2)
	if all, code := impl.BuildAll(a); code != impl.CoGood || !alike(all, w) {
		t.Fatal("BuildAll", code, all)
	}
}

// Each disk of each Geo, with something in each cache and in memory: what comes
// of it, call by call.
func TestBuildsOfEachDisk(t *testing.T) {
	t.Parallel()
	next := drawn(653)
	for _, g := range rightGeos() {
		a, _ := filled(g, next)
		a = restless(a)
		for m := range g.N {
			a.Tail, a.Gen = next(59000), next(fullFrom-4)
			a.Seq = a.Tail + next(impl.Slots+1)
			x := gone(a, m, next(g.S+1))
			all := allOfIt.good(t, "at once", x)
			x = sparing.good(t, "each", x)
			wantSupers(t, "Spare", x)
			for s := range g.S {
				y := stepping.good(t, "each", x)
				if y.Built != s+1 || y.Lost != m || y.Gen != x.Gen {
					t.Fatal(g, m, s, y)
				}
				wantUntouched(t, "BuildStep", x, y, m)
				x = y
			}
			x = adopting.good(t, "each", x)
			wantSupers(t, "Adopt", x)
			if !alike(all, x) || x.Lost != -1 || x.Built != 0 || x.Gen != a.Gen+3 || x.Tail != a.Seq || x.Seq != a.Seq {
				t.Fatal(g, m, x, all)
			}
		}
	}
}

// Whatever is right, however it stands: all that is answered.
func TestBuildsOfRightArrs(t *testing.T) {
	t.Parallel()
	for _, a := range slices.Concat(rightArrs(), cornerArrs()) {
		for _, c := range buildings() {
			c.ask(t, "right", a)
		}
	}
}

func TestBuildsOfWrongArrs(t *testing.T) {
	t.Parallel()
	for name, a := range wrongArrs() {
		with := roomy(a)
		for _, c := range buildings() {
			c.refuses(t, name, a, impl.CoForm)
			if x, code := c.call(with); code != impl.CoForm || !alike(x, a) {
				t.Error(name, c.name, code, x)
			}
		}
	}
	for _, a := range []impl.Arr{{}, {G: impl.Geo{N: 3, S: 2}}, {G: impl.Geo{N: -7, S: 1}}, {Lost: -1}, {Lost: 1, Mems: make([]impl.Mem, 1)}} {
		for _, c := range buildings() {
			c.refuses(t, "nearly nothing", a, impl.CoForm)
		}
	}
}

// A reason is a code, and what brings it about.
type reason struct {
	code   int
	change func(*impl.Arr)
}

func reasonsOfAll() []reason {
	return []reason{
		{impl.CoForm, func(a *impl.Arr) { a.Fuse = -2 }},
		{impl.CoForm, func(a *impl.Arr) { a.Tail = a.Seq + 1 }},
		{impl.CoDown, func(a *impl.Arr) { a.Down = true }},
	}
}

// Nothing is Lost: this stands behind all else that is out of range, as it takes
// back what is told of the one that was.
func nothingLost() reason {
	return reason{impl.CoRange, func(a *impl.Arr) {
		*a = withMem(*a, 1, func(m *impl.Mem) { m.Failed = false })
		a.Lost, a.Built = -1, 0
	}}
}

func reasonsOfMarks() []reason {
	return []reason{
		{impl.CoIo, func(a *impl.Arr) { a.Broken = true }},
		{impl.CoFull, func(a *impl.Arr) { a.Gen = fullFrom }},
		{impl.CoFull, func(a *impl.Arr) { a.Gen = mostOfAnArr }},
	}
}

// wantFirstReason asks for the code of the first of each set of reasons.
func wantFirstReason(t *testing.T, c building, a impl.Arr, reasons []reason) {
	t.Helper()
	for some := 1; some < 1<<len(reasons); some++ {
		x, want := a, impl.CoGood
		x.Fuse = some % 3
		for i, r := range reasons {
			if some>>i&1 == 0 {
				continue
			}
			r.change(&x)
			if want == impl.CoGood {
				want = r.code
			}
		}
		c.refuses(t, fmt.Sprintf("%b", some), x, want)
	}
}

// Of several reasons the first counts, whatever comes behind it.
func TestWhichCodeOfABuildCounts(t *testing.T) {
	t.Parallel()
	failed := reason{impl.CoRange, func(a *impl.Arr) { *a = withFailed(*a, 1) }}
	there := reason{impl.CoRange, func(a *impl.Arr) { *a = withMem(*a, 1, func(m *impl.Mem) { m.Failed = false }) }}
	done := reason{impl.CoRange, func(a *impl.Arr) { a.Built = a.G.S }}
	notDone := reason{impl.CoRange, func(a *impl.Arr) { a.Built = a.G.S - 1 }}
	notBegun := reason{impl.CoRange, func(a *impl.Arr) { a.Built = 0 }}
	unread := reason{impl.CoIo, func(a *impl.Arr) {
		for s := range a.G.S {
			*a = impl.SpoilAt(*a, 2, s)
		}
	}}
	broken := reason{impl.CoIo, func(a *impl.Arr) { a.Broken = true }}
	for _, g := range rightGeos() {
		a, held := filled(g, drawn(659))
		lost := gone(a, 1, 0)
		for _, c := range []building{sparing, allOfIt} {
			wantFirstReason(t, c, lost, slices.Concat(reasonsOfAll(), []reason{there, nothingLost()}, reasonsOfMarks()))
		}
		x := spared(a, held, 1, g.S-1)
		wantFirstReason(t, stepping, x, slices.Concat(reasonsOfAll(), []reason{failed, done, nothingLost(), unread, broken}))
		x = spared(a, held, 1, g.S)
		wantFirstReason(t, adopting, x, slices.Concat(reasonsOfAll(), []reason{failed, notDone, notBegun, nothingLost()}, reasonsOfMarks()))
	}
}

// Out of range, one by one: nothing is Lost; it Failed, or has not; Built less
// than S, and S.
func TestWhatIsOutOfRange(t *testing.T) {
	for _, g := range rightGeos() {
		a, held := filled(g, drawn(661))
		for _, c := range buildings() {
			c.refuses(t, "nothing is Lost", a, impl.CoRange)
			c.refuses(t, "nothing is Lost, restless", restless(a), impl.CoRange)
		}
		for m := range g.N {
			for built := 0; built <= g.S; built++ {
				lost := gone(a, m, built)
				stepping.refuses(t, "Failed", lost, impl.CoRange)
				adopting.refuses(t, "Failed", lost, impl.CoRange)
				if x := sparing.good(t, "Failed", lost); x.Built != 0 {
					t.Fatal("Failed", g, m, built, x)
				}
				for _, x := range []impl.Arr{spared(a, held, m, built), withLost(a, m, built)} {
					sparing.refuses(t, "there", x, impl.CoRange)
					allOfIt.refuses(t, "there", x, impl.CoRange)
					if built == g.S {
						stepping.refuses(t, "all built", x, impl.CoRange)
						adopting.good(t, "all built", x)
						continue
					}
					stepping.good(t, "not yet built", x)
					adopting.refuses(t, "not yet built", x, impl.CoRange)
				}
			}
		}
	}
}

// Gen runs to 59989: Spare and Adopt are refused from there on, a step is not,
// as it marks nothing.
func TestBuildsAtTheEndsOfGen(t *testing.T) {
	for _, g := range rightGeos() {
		a, held := filled(g, drawn(673))
		for m := range g.N {
			for _, gen := range []int{0, 1, 59987, 59988, 59989, 59990, 59991, 59999, 60000} {
				a.Gen = gen
				lost, there := gone(a, m, 0), spared(a, held, m, g.S)
				full := gen > 59989
				if x := stepping.good(t, "Gen", spared(a, held, m, g.S-1)); x.Gen != gen || x.Built != g.S {
					t.Fatal("a step", g, m, gen, x)
				}
				if full {
					for _, c := range []building{sparing, allOfIt} {
						c.refuses(t, "Gen", lost, impl.CoFull)
					}
					adopting.refuses(t, "Gen", there, impl.CoFull)
					continue
				}
				if x, y := sparing.good(t, "Gen", lost), adopting.good(t, "Gen", there); x.Gen != gen+1 || y.Gen != gen+2 {
					t.Fatal("Gen", g, m, gen, x.Gen, y.Gen)
				}
				x, code := allOfIt.ask(t, "Gen", lost)
				if good := gen < 59989; good && (code != impl.CoGood || x.Gen != gen+3 || x.Lost != -1) || !good && (code != impl.CoFull || x.Gen != 59990 || x.Lost != m || x.Built != g.S) {
					t.Fatal("at once", g, m, gen, code, x)
				}
			}
		}
	}
}

// What is Broken is not built, whatever is Lost there, and what of it Failed.
func TestBuildsOfWhatBroke(t *testing.T) {
	t.Parallel()
	for _, g := range rightGeos() {
		a, held := filled(g, drawn(677))
		for _, x := range arrsThatBroke(restless(a)) {
			for _, fuse := range []int{-1, 0, 3} {
				x.Fuse = fuse
				for _, c := range buildings() {
					if y, code := c.ask(t, "Broken", x); code != impl.CoIo && code != impl.CoRange || !alike(y, x) {
						t.Fatal("Broken", c.name, code, y)
					}
				}
			}
		}
		for m := range g.N {
			broken := func(a impl.Arr) impl.Arr { a.Broken = true; return withFailed(a, (m+1)%g.N) }
			sparing.refuses(t, "Broken", broken(gone(a, m, 0)), impl.CoIo)
			allOfIt.refuses(t, "Broken", broken(gone(a, m, 0)), impl.CoIo)
			stepping.refuses(t, "Broken", broken(spared(a, held, m, g.S-1)), impl.CoIo)
			adopting.refuses(t, "Broken", broken(spared(a, held, m, g.S)), impl.CoIo)
		}
	}
}

// A spare is blank, but for its Super, whatever the disk that Failed held, and
// how far it was built; all others know of it.
func TestSpareIsBlank(t *testing.T) {
	t.Parallel()
	for _, g := range rightGeos() {
		a, _ := filled(g, drawn(683))
		for m := range g.N {
			for built := 0; built <= g.S; built++ {
				full := withMem(gone(a, m, built), m, func(x *impl.Mem) { x.Cache = wrsOf(mostWrs, firstStripe+g.S) })
				for n := range firstStripe + g.S {
					full = withBad(full, m, n)
				}
				for _, gen := range []int{0, 1, 776, 777} {
					full.Gen = gen
					x := sparing.good(t, "blank", full)
					want := blank(g)
					want.Secs[(gen+1)%2] = wantSuperWords(impl.Super{Id: arrayId, Gen: gen + 1, Role: m, N: g.N, S: g.S, Lost: m})
					if !alike(x.Mems[m], want) || x.Built != 0 || x.Lost != m {
						t.Fatal(g, m, built, gen, x)
					}
					wantSupers(t, "blank", x)
					if impl.Bare(x) != g.S {
						t.Fatal("a stripe is built", impl.Bare(x), x)
					}
				}
			}
		}
	}
}

// What is in memory and in the journal stays, and what is in the caches of the
// others is flushed; that some of it cannot be read is nothing to it.
func TestSpareBesideTheOthers(t *testing.T) {
	t.Parallel()
	for _, g := range rightGeos() {
		a, _ := filled(g, drawn(691))
		a.Tail, a.Seq = 3, 3+g.S%(impl.Slots+1)
		for m := range g.N {
			x := restless(gone(a, m, 0))
			y := sparing.good(t, "restless", x)
			if !alike(y.Dirty, x.Dirty) || y.Seq != x.Seq || y.Tail != x.Tail {
				t.Fatal("restless", y)
			}
			for other := range g.N {
				if other == m {
					continue
				}
				if len(y.Mems[other].Cache) != 0 || !slices.Equal(y.Mems[other].Secs[firstStripe], wantRead(x.Mems[other], firstStripe)) {
					t.Fatal("not flushed", other, y)
				}
				sparing.good(t, "others spoilt", withBad(withBad(x, other, firstStripe), other, 1))
			}
		}
	}
}

// The word that is written is that of a block, or of the parity, and lies in the
// cache alone until it is flushed.
func TestStepWritesTheWord(t *testing.T) {
	t.Parallel()
	for _, g := range rightGeos() {
		a, held := filled(g, drawn(701))
		blocks, parities := 0, 0
		for m := range g.N {
			for s := range g.S {
				x := spared(a, held, m, s)
				y := stepping.good(t, "a step", x)
				if want := []impl.Wr{{N: firstStripe + s, S: []int{held[s][m]}}}; !alike(y.Mems[m].Cache, want) || len(y.Mems[m].Secs[firstStripe+s]) != 0 {
					t.Fatal(g, m, s, y.Mems[m], "not", want)
				}
				if z := impl.Sync(y); len(z.Mems[m].Cache) != 0 || !slices.Equal(z.Mems[m].Secs[firstStripe+s], []int{held[s][m]}) {
					t.Fatal("flushed", g, m, s, z.Mems[m])
				}
				wantXorAt(t, "a step", x, s, 0, false)
				wantXorAt(t, "a step", y, s, 0, true)
				wantStripe(t, "a step", y, s, held[s])
				if laidOut(g)[s][m] < 0 {
					parities++
				} else {
					blocks++
				}
				// What the disk holds there is not asked: it may be elder.
				for _, elder := range []impl.Arr{withSector(x, m, firstStripe+s, 4321), withWr(x, m, firstStripe+s, 4321), withBad(x, m, firstStripe+s), withSector(x, m, firstStripe+s, 1, 2)} {
					z := stepping.good(t, "above something", elder)
					wantStripe(t, "above something", z, s, held[s])
					wantXorAt(t, "above something", z, s, 0, true)
				}
			}
		}
		if blocks+parities != g.N*g.S || parities != g.S {
			t.Fatal(g, blocks, parities)
		}
	}
}

// With Fuse 0 the power goes in its place: nothing is written, and nothing is
// built.
func TestPowerGoesWithAStep(t *testing.T) {
	for _, g := range rightGeos() {
		a, held := filled(g, drawn(709))
		for m := range g.N {
			for s := range g.S {
				x := restless(spared(a, held, m, s))
				for _, fuse := range []int{-1, 0, 1, 2, mostFuse} {
					x.Fuse = fuse
					y, code := stepping.ask(t, "a step", x)
					if fuse == 0 {
						want := x
						want.Down, want.Fuse = true, -1
						if code != impl.CoDown || !alike(y, want) {
							t.Fatal("the power", g, m, s, code, y)
						}
						continue
					}
					if code != impl.CoGood || y.Built != s+1 || y.Fuse != max(-1, fuse-1) || y.Down {
						t.Fatal(g, m, s, fuse, code, y)
					}
				}
			}
		}
	}
}

// A stripe that has no Words is not built, for each reason that another disk has
// none of its own there; those ahead of it are.
func TestStepsUpToWhatCannotBeRead(t *testing.T) {
	t.Parallel()
	for _, g := range rightGeos() {
		a, held := filled(g, drawn(719))
		for m := range g.N {
			for s := range g.S {
				for i, why := range lacks() {
					other := (m + 1 + i%(g.N-1)) % g.N
					if why.lost {
						continue
					}
					x := why.of(a, other, s)
					stepping.refuses(t, why.name, spared(x, held, m, s), impl.CoIo)
					for built := range g.S {
						if built != s {
							stepping.good(t, why.name+", another stripe", spared(x, held, m, built))
						}
					}
					y, code := allOfIt.ask(t, why.name, gone(x, m, 0))
					if code != impl.CoIo || y.Built != s || y.Lost != m || y.Mems[m].Failed || y.Gen != 1 || y.Down {
						t.Fatal(why.name, "at once", g, m, s, code, y)
					}
					// What was built once is adopted, though it cannot be read now.
					adopting.good(t, why.name, spared(x, held, m, g.S))
					// Written anew, it can be read, and is built.
					z, code := impl.WriteStripe(y, s, upTo(g.N-1))
					if code != impl.CoGood {
						t.Fatal(why.name, code)
					}
					z = stepping.good(t, why.name+", written", z)
					wantStripe(t, why.name+", written", z, s, wantHeld(g, s, upTo(g.N-1)))
				}
			}
		}
	}
}

// A disk whose cache is full refuses the word: it is a disk operation all the
// same, and nothing says that it is not there, but the sector itself.
func TestStepIntoAFullCache(t *testing.T) {
	for _, g := range rightGeos() {
		a, held := filled(g, drawn(727))
		for m := range g.N {
			for _, waiting := range []int{mostWrs - 1, mostWrs} {
				for s := range g.S {
					x := spared(a, held, m, s)
					for i := range waiting {
						x = withWr(x, m, 5, i)
					}
					for _, fuse := range []int{-1, 0, 1} {
						x.Fuse = fuse
						y, code := stepping.ask(t, "a full cache", x)
						if len(y.Mems[m].Cache) > mostWrs || (code == impl.CoDown) != (fuse == 0) || y.Built != s+1 && code == impl.CoGood {
							t.Fatal("a full cache", g, m, s, code, y)
						}
						if code != impl.CoGood {
							continue
						}
						wantStripe(t, "a full cache", y, s, held[s])
						wantXorAt(t, "a full cache", y, s, 0, waiting < mostWrs)
					}
				}
			}
		}
	}
}

// Spare and Adopt beside a full cache of each disk: what is refused of Supers is
// not there, but what Check flushes first makes room.
func TestMarksBesideAFullCache(t *testing.T) {
	for _, g := range rightGeos() {
		a, held := filled(g, drawn(733))
		for m := range g.N {
			for full := range g.N {
				x := gone(a, m, 0)
				y := spared(a, held, m, g.S)
				for i := len(a.Mems[full].Cache); i < mostWrs; i++ {
					x = withWr(x, full, 5, i)
				}
				for i := len(y.Mems[full].Cache); i < mostWrs; i++ {
					y = withWr(y, full, 5, i)
				}
				x = sparing.good(t, "a full cache", x)
				if s, _ := impl.BestSuper(x.Mems[full], arrayId); full != m && (s.Gen != 0 || s.Lost != -1) || full == m && s.Gen != 1 {
					t.Fatal("a full cache", g, m, full, s)
				}
				y = adopting.good(t, "a full cache", y)
				wantSupers(t, "a full cache", y)
				for s := range g.S {
					wantStripe(t, "a full cache", y, s, held[s])
				}
			}
		}
	}
}

// Disk by disk, the spare among them; Gen is one more as of the first.
func TestPowerGoesInASpare(t *testing.T) {
	a := wantNewArr(arrayId, impl.Geo{N: 3, S: 2})
	a.Tail, a.Seq = 4, 6
	for m := range a.Mems {
		a = withWr(a, m, 5, 4321)
	}
	spare := func(a impl.Arr) (impl.Arr, string) {
		x, code := impl.Spare(a)
		return x, fmt.Sprint(tracks(x, 2, 1, firstStripe), ", ", x.Lost, x.Built, x.Gen, x.Tail, x.Seq, code)
	}
	wantTracks(t, "the first", gone(a, 0, 2), spare, []string{
		"- j j, 0 0 1 4 6 6", "m j j, 0 0 1 4 6 6", "m jm j, 0 0 1 4 6 6", "m jm jm, 0 0 1 4 6 6",
		"M jm jm, 0 0 1 4 6 6", "M JM jm, 0 0 1 4 6 6", "M JM JM, 0 0 1 4 6 0", "M JM JM, 0 0 1 4 6 0",
	})
	wantTracks(t, "the last", gone(a, 2, 1), spare, []string{
		"j j -, 2 0 1 4 6 6", "jm j -, 2 0 1 4 6 6", "jm jm -, 2 0 1 4 6 6", "jm jm m, 2 0 1 4 6 6",
		"JM jm m, 2 0 1 4 6 6", "JM JM m, 2 0 1 4 6 6", "JM JM M, 2 0 1 4 6 0", "JM JM M, 2 0 1 4 6 0",
	})
}

// First all is flushed, then Tail and Gen turn and it is marked as it was, built
// and Lost; only then nothing is Lost, and it is marked again.
func TestPowerGoesInAnAdopt(t *testing.T) {
	a := wantNewArr(arrayId, impl.Geo{N: 3, S: 2})
	a.Tail, a.Seq = 4, 6
	for m := range a.Mems {
		a = withWr(a, m, 5, 4321)
	}
	adopt := func(super int) func(a impl.Arr) (impl.Arr, string) {
		return func(a impl.Arr) (impl.Arr, string) {
			x, code := impl.Adopt(a)
			return x, fmt.Sprint(tracks(x, 2, super, firstStripe), ", ", x.Lost, x.Built, x.Gen, x.Tail, x.Seq, code)
		}
	}
	// The Super of Gen 1 stands in the sector 1, that of Gen 2 in the sector 0,
	// above the one that was there.
	wantTracks(t, "by its first Super", withLost(a, 1, 2), adopt(1), []string{
		"j j j, 1 2 0 4 6 6", "J j j, 1 2 0 4 6 6", "J J j, 1 2 0 4 6 6", "J J J, 1 2 1 6 6 6",
		"Jm J J, 1 2 1 6 6 6", "Jm Jm J, 1 2 1 6 6 6", "Jm Jm Jm, 1 2 1 6 6 6",
		"JM Jm Jm, 1 2 1 6 6 6", "JM JM Jm, 1 2 1 6 6 6", "JM JM JM, -1 0 2 6 6 6",
		"JM JM JM, -1 0 2 6 6 6", "JM JM JM, -1 0 2 6 6 6", "JM JM JM, -1 0 2 6 6 6",
		"JM JM JM, -1 0 2 6 6 6", "JM JM JM, -1 0 2 6 6 6", "JM JM JM, -1 0 2 6 6 0", "JM JM JM, -1 0 2 6 6 0",
	})
	wantTracks(t, "by its second Super", withLost(a, 1, 2), adopt(0), []string{
		"jM jM jM, 1 2 0 4 6 6", "JM jM jM, 1 2 0 4 6 6", "JM JM jM, 1 2 0 4 6 6", "JM JM JM, 1 2 1 6 6 6",
		"JM JM JM, 1 2 1 6 6 6", "JM JM JM, 1 2 1 6 6 6", "JM JM JM, 1 2 1 6 6 6",
		"JM JM JM, 1 2 1 6 6 6", "JM JM JM, 1 2 1 6 6 6", "JM JM JM, -1 0 2 6 6 6",
		"JMm JM JM, -1 0 2 6 6 6", "JMm JMm JM, -1 0 2 6 6 6", "JMm JMm JMm, -1 0 2 6 6 6",
		"JM JMm JMm, -1 0 2 6 6 6", "JM JM JMm, -1 0 2 6 6 6", "JM JM JM, -1 0 2 6 6 0", "JM JM JM, -1 0 2 6 6 0",
	})
}

// operationsOfABuild are told by hand: Mark writes and flushes each disk, Check
// flushes each ahead of that, and a step is one.
func operationsOfABuild(g impl.Geo) map[string]int {
	return map[string]int{"Spare": 2 * g.N, "BuildStep": 1, "Adopt": 5 * g.N, "BuildAll": 7*g.N + g.S}
}

// With each Fuse, of each Geo and each disk: all that is answered.
func TestEachFuseOfABuild(t *testing.T) {
	t.Parallel()
	for _, g := range rightGeos() {
		a, held := filled(g, drawn(739))
		a.Tail, a.Seq = 9, 9+g.S%(impl.Slots+1)
		for m := range g.N {
			lost := restless(gone(a, m, g.S/2))
			for _, c := range []struct {
				building
				a impl.Arr
			}{
				{sparing, lost},
				{stepping, restless(spared(a, held, m, g.S/2))},
				{adopting, restless(spared(a, held, m, g.S))},
				{allOfIt, lost},
			} {
				operations := operationsOfABuild(g)[c.name]
				for _, fuse := range fusesFor(operations) {
					c.a.Fuse = fuse
					x, code := c.ask(t, "each", c.a)
					off := within(fuse, 0, operations-1)
					if x.Down != off || (code == impl.CoDown) != off || off && x.Fuse != -1 || fuse >= operations && x.Fuse != fuse-operations || !impl.ArrOk(x) {
						t.Fatal(c.name, g, m, "Fuse", fuse, "of", operations, "is", x.Fuse, x.Down, code)
					}
				}
			}
		}
	}
}

// At once is as one behind the other, whichever is the first that is not good,
// and what was built by then is there.
func TestAtOnceIsOneBehindTheOther(t *testing.T) {
	t.Parallel()
	next, codes := drawn(743), map[int]int{}
	for range 3000 {
		g := rightGeos()[next(24)]
		a := anyArr(g, next)
		if next(4) > 0 && a.Lost == -1 && !a.Broken {
			a = impl.FailDisk(a, next(g.N))
		}
		a.Fuse = max(-1, next(80)-40)
		x, code := allOfIt.ask(t, "any", a)
		y, each := impl.Spare(a)
		for range g.S {
			if each == impl.CoGood {
				y, each = impl.BuildStep(y)
			}
		}
		if each == impl.CoGood {
			y, each = impl.Adopt(y)
		}
		if code != each || !alike(x, y) {
			t.Fatal("at once", code, x, "each", each, y)
		}
		codes[code]++
	}
	for _, code := range []int{impl.CoGood, impl.CoDown, impl.CoRange, impl.CoIo, impl.CoFull} {
		if codes[code] < 30 {
			t.Error("this code seldom came:", code, codes)
		}
	}
}

// Whatever is done one behind the other, up to where the power goes: all that
// is answered is what the document says.
func TestAnyCallsOfABuild(t *testing.T) {
	t.Parallel()
	next, built, adopted := drawn(751), 0, 0
	for range 1500 {
		g := rightGeos()[next(24)]
		a := anyArr(g, next)
		if next(3) > 0 {
			a.Fuse, a.Broken = -1, false
		}
		for range 14 {
			was := a
			switch next(9) {
			case 0:
				a = wantFail(t, "any", a, next(g.N))
			case 1:
				a = wantWrite(t, "any", a, next(g.S), dataFor(g, next))
			case 2:
				a = wantAnyCall(t, a, next)
			case 3, 4:
				a, _ = sparing.ask(t, "any", a)
			case 5:
				a, _ = adopting.ask(t, "any", a)
			case 6:
				allOfIt.ask(t, "any", a)
			default:
				for range next(impl.MaxStripes + 1) {
					a, _ = stepping.ask(t, "any", a)
				}
			}
			if !impl.ArrOk(a) {
				t.Fatal("not right any more", a)
			}
			if a.Built > was.Built {
				built++
			}
			if was.Lost >= 0 && a.Lost == -1 {
				adopted++
			}
		}
	}
	if built < 300 || adopted < 50 {
		t.Error("something seldom came:", built, adopted)
	}
}

// arrsToBuild are right and wrong, Failed and there, built in part and all, and
// with a Fuse that ends in the midst.
func arrsToBuild() []impl.Arr {
	l := arrsToFail()
	for _, g := range []impl.Geo{{N: 3, S: 1}, {N: 4, S: 3}, {N: 5, S: 8}} {
		a, held := filled(g, drawn(757))
		for m := range g.N {
			for _, x := range []impl.Arr{gone(a, m, 0), spared(a, held, m, 0), spared(a, held, m, g.S-1), spared(a, held, m, g.S)} {
				for _, fuse := range []int{-1, 0, g.N + 1, 4 * g.N} {
					x.Fuse = fuse
					l = append(l, restless(x))
				}
			}
		}
	}
	return l
}

func TestBuildsHoldApart(t *testing.T) {
	t.Parallel()
	for _, plainly := range arrsToBuild() {
		a := roomy(plainly)
		for _, c := range buildings() {
			wantApart(t, c.name, a, plainly, c.call)
		}
	}
}

// What would count lies behind the lengths: it is neither read nor handed out.
func TestWhatLiesBehindIsNotBuilt(t *testing.T) {
	a := wantNewArr(arrayId, impl.Geo{N: 3, S: 2})
	for m := range a.Mems {
		a.Mems[m].Bad = []int{firstStripe, firstStripe + 1}[:0]
		a.Mems[m].Cache = []impl.Wr{{N: firstStripe, S: []int{5 + m}}}[:0]
		a.Mems[m].Secs[firstStripe+1] = []int{0, 9}[:1]
	}
	lost := gone(a, 1, 0)
	lost.Mems[1].Secs[firstStripe] = []int{77}[:0]
	x := allOfIt.good(t, "behind the lengths", lost)
	wantBoth(t, "behind the lengths", x, []int{0, 0, 0, 0}, []int{0, 0, 0, 0})
	for m, mem := range x.Mems {
		for n, s := range mem.Secs {
			for _, w := range s[len(s):cap(s)] {
				if w != 0 {
					t.Error("handed out", m, n, w)
				}
			}
		}
	}
	short := lost
	short.Mems, short.Lost = lost.Mems[:2], 2
	for _, c := range buildings() {
		c.refuses(t, "a disk behind the length", short, impl.CoForm)
	}
}

// What was answered stays as it was, and so does what was handed in.
func TestBuildsTurnApart(t *testing.T) {
	a := withEnts(gone(impl.ArrNew(arrayId, impl.Geo{N: 3, S: 3}), 1, 0), 1)
	was := plain(a)
	refused, _ := impl.BuildStep(a)
	all, _ := impl.BuildAll(a)
	x, _ := impl.Spare(a)
	then := plain(x)
	y, _ := impl.BuildStep(x)
	z, _ := impl.BuildStep(x)
	again, _ := impl.Spare(x)
	for i, b := range []impl.Arr{refused, all, y, again} {
		for m := range b.Mems {
			b.Mems[m].Secs[0], b.Mems[m].Secs[firstStripe] = append(b.Mems[m].Secs[0][:0], 9), append(b.Mems[m].Secs[firstStripe][:0], 9)
			for k := range b.Mems[m].Cache {
				b.Mems[m].Cache[k].S[0] = 9
			}
		}
		b.Dirty[0].Data[0], b.Dirty[0].Stripe = 9, 9
		if !alike(a, was) || !alike(x, then) || !alike(z.Mems[1].Cache, []impl.Wr{{N: firstStripe, S: []int{0}}}) {
			t.Fatal("it turned", i, a, x, z)
		}
	}
	a.Mems[0].Secs[firstStripe][0], a.Dirty[0].Data[1] = 77, 78
	if !alike(x, then) {
		t.Error("it turned", x)
	}
}
