package tests

import (
	"slices"
	"testing"

	"loop.example/g00398/impl"
)

// wantSpoilt is SpoilAt by the document's words.
func wantSpoilt(a impl.Arr, m, s int) impl.Arr {
	if !wantArrOk(a) || !within(m, 0, a.G.N-1) || !within(s, 0, a.G.S-1) || slices.Contains(a.Mems[m].Bad, firstStripe+s) {
		return a
	}
	return withBad(a, m, firstStripe+s)
}

func wantSpoil(t *testing.T, name string, a impl.Arr, m, s int) impl.Arr {
	t.Helper()
	x := impl.SpoilAt(a, m, s)
	if want := wantSpoilt(a, m, s); !alike(x, want) {
		t.Fatal(name, "disk", m, "stripe", s, "\nof", a, "\nis", x, "\nnot", want)
	}
	return x
}

// The stripe's word cannot be read on this disk, and all else is as it was: the
// blocks are made of the other disks.
func TestSpoilAtEachPlace(t *testing.T) {
	t.Parallel()
	for _, g := range rightGeos() {
		a, held := filled(g, drawn(499))
		words := blockWords(g, held)
		for m := range g.N {
			for s := range g.S {
				x := wantSpoil(t, "each", a, m, s)
				for k, mem := range x.Mems {
					for n := range mem.Secs {
						l, ok := impl.ReadSec(mem, n)
						if bad := k == m && n == firstStripe+s; ok == bad || ok && !slices.Equal(l, wantRead(a.Mems[k], n)) {
							t.Fatal(g, m, s, "disk", k, "sector", n, l, ok)
						}
					}
				}
				wantXorAt(t, "spoilt", x, s, 0, false)
				if !impl.ArrOk(x) || impl.Bare(x) != 1 || !impl.Even(x) {
					t.Fatal(g, m, s, impl.Bare(x), x)
				}
				wantBoth(t, "spoilt", x, words, words)
				again := wantSpoil(t, "again", x, m, s)
				if !alike(again, x) {
					t.Fatal("again", g, m, s, again)
				}
				wantBoth(t, "two", wantSpoil(t, "two", x, (m+1)%g.N, s), nil, nil)
				if g.S > 1 {
					wantBoth(t, "another stripe", wantSpoil(t, "another stripe", x, (m+1)%g.N, (s+1)%g.S), words, words)
				}
			}
		}
	}
}

// In whatever order they are spoilt, Bad ascends; a write has the word there
// again.
func TestSpoilAtAllPlaces(t *testing.T) {
	next := drawn(503)
	for _, g := range rightGeos() {
		a, _ := filled(g, next)
		for range 30 {
			a = wantSpoil(t, "all", a, next(g.N), next(g.S))
			if !impl.ArrOk(a) {
				t.Fatal("not right", a)
			}
		}
		for s := range g.S {
			a, _ = impl.WriteStripe(a, s, dataFor(g, next))
			wantXorAt(t, "written", a, s, 0, true)
		}
		wantEven(t, "written", a, 0)
	}
}

// The sector that is written again can be read again, of this disk alone, by its
// cache and flushed; what the stripe's other disks have spoilt stays so.
func TestSpoiltSectorThatIsWritten(t *testing.T) {
	for _, g := range rightGeos() {
		a, _ := filled(g, drawn(647))
		for m := range g.N {
			for s := range g.S {
				other, at := (m+1)%g.N, firstStripe+s
				x := impl.SpoilAt(impl.SpoilAt(a, m, s), other, s)
				mem, ok := impl.WriteSec(x.Mems[m], at, []int{77})
				if !ok {
					t.Fatal(g, m, s, "not written", x.Mems[m])
				}
				x.Mems[m] = mem
				for _, y := range []impl.Arr{x, impl.Sync(x), impl.Check(x)} {
					if l, ok := impl.ReadSec(y.Mems[m], at); !ok || !slices.Equal(l, []int{77}) {
						t.Fatal(g, m, s, "is", l, ok)
					}
					if l, ok := impl.ReadSec(y.Mems[other], at); ok || impl.LostAt(y, s) != 1 {
						t.Fatal(g, m, s, "the other one is", l, ok)
					}
				}
			}
		}
	}
}

// Neither the power, nor what is lost, nor that it is Broken keeps a sector
// from being spoilt; and no disk operation is done.
func TestSpoilAtHoweverItStands(t *testing.T) {
	t.Parallel()
	for _, a := range slices.Concat(rightArrs(), cornerArrs()) {
		for m := range a.G.N {
			for _, s := range []int{0, a.G.S - 1} {
				x := wantSpoil(t, "right", a, m, s)
				if !slices.Contains(x.Mems[m].Bad, firstStripe+s) || x.Fuse != a.Fuse || x.Down != a.Down {
					t.Fatal(m, s, x)
				}
			}
		}
	}
}

func TestSpoilAtOfWhatIsNotThere(t *testing.T) {
	t.Parallel()
	for _, a := range cornerArrs() {
		for _, m := range append(outside(a.G.N), 0, a.G.N-1) {
			for _, s := range append(outside(a.G.S), 0, a.G.S-1) {
				wantSpoil(t, "not there", a, m, s)
			}
		}
		// The sectors ahead of the stripes' are none of a stripe.
		for s := -firstStripe; s < 0; s++ {
			if x := impl.SpoilAt(a, 0, s); !alike(x, a) {
				t.Error("no such stripe", s, x)
			}
		}
	}
	for name, a := range wrongArrs() {
		for _, x := range []impl.Arr{a, roomy(a)} {
			if y := impl.SpoilAt(x, 0, 0); !alike(y, a) {
				t.Error(name, y)
			}
		}
		wantSpoil(t, name, a, len(a.Mems)-1, a.G.S-1)
	}
}

func TestSpoilsHoldApart(t *testing.T) {
	t.Parallel()
	for _, plainly := range arrsToScrub() {
		a := roomy(plainly)
		for _, m := range []int{-1, 0, a.G.N - 1, a.G.N} {
			for _, s := range []int{-1, 0, a.G.S - 1, a.G.S} {
				holdsApart(t, "SpoilAt", []any{a}, func() []any { return []any{impl.SpoilAt(a, m, s), impl.SpoilAt(a, m, s)} })
				if !alike(impl.SpoilAt(a, m, s), impl.SpoilAt(plainly, m, s)) {
					t.Error("what lies behind was read", m, s, plainly)
				}
			}
		}
	}
}

// What was answered stays as it was, and so does what was handed in.
func TestSpoilsTurnApart(t *testing.T) {
	a := withBad(withEnts(impl.ArrNew(arrayId, impl.Geo{N: 3, S: 3}), 1), 0, firstStripe)
	was := plain(a)
	x, y := impl.SpoilAt(a, 0, 1), impl.SpoilAt(a, 3, 0)
	z := impl.SpoilAt(x, 0, 2)
	for _, b := range []impl.Arr{y, z} {
		b.Mems[0].Bad[0], b.Mems[1].Secs[firstStripe][0], b.Dirty[0].Data[0] = 9, 9, 9
	}
	if !alike(a, was) || !slices.Equal(x.Mems[0].Bad, []int{firstStripe, firstStripe + 1}) {
		t.Error("it turned", a, x)
	}
}
