package tests

import (
	"fmt"
	"math"
	"slices"
	"testing"

	"loop.example/g00398/impl"
)

const mostKeep = 1<<20 - 1

// wantFallen is Fall by the document's words.
func wantFallen(mems []impl.Mem, keeps []int) []impl.Mem {
	l := []impl.Mem{}
	for i, m := range mems {
		keep := 0
		if i < len(keeps) && within(keeps[i], 0, mostKeep) {
			keep = keeps[i]
		}
		if impl.MemOk(m) {
			m = wantSettled(m, func(place int) bool { return place < 20 && keep>>place&1 == 1 })
		}
		l = append(l, m)
	}
	return l
}

// wantKnown answers the BestSuper of a disk, if it counts in this place.
func wantKnown(m impl.Mem, id, place int) (impl.Super, bool) {
	if !impl.MemOk(m) || m.Failed {
		return impl.Super{}, false
	}
	best, found := impl.Super{}, false
	for n := range min(2, len(m.Secs)) {
		if slices.Contains(m.Bad, n) {
			continue
		}
		if s, ok := impl.GetSuper(wantRead(m, n)); ok && s.Id == id && s.Gen%2 == n && (!found || s.Gen > best.Gen) {
			best, found = s, true
		}
	}
	return best, found && best.Role == place
}

func wantAssembled(mems []impl.Mem, id int) (impl.Arr, bool) {
	best, found := impl.Super{}, false
	for i, m := range mems {
		if s, ok := wantKnown(m, id, i); ok && (!found || s.Gen > best.Gen) {
			best, found = s, true
		}
	}
	if !found || len(mems) != best.N {
		return impl.Arr{}, false
	}
	a := impl.Arr{Id: id, G: impl.Geo{N: best.N, S: best.S}, Mems: mems, Lost: best.Lost, Built: best.Built, Seq: best.Tail, Tail: best.Tail, Gen: best.Gen, Fuse: -1}
	for i, m := range mems {
		_, known := wantKnown(m, id, i)
		switch {
		case known:
		case a.Lost == -1 || a.Lost == i:
			a.Lost, a.Built = i, 0
		default:
			a.Broken = true
		}
	}
	if !wantArrOk(a) {
		return impl.Arr{}, false
	}
	return a, true
}

func wantFound(a impl.Arr, seq int) (impl.Rec, bool) {
	if !within(seq, 0, mostOfARec) || !slices.Contains(rightGeos(), a.G) {
		return impl.Rec{}, false
	}
	n := firstSlot + seq%impl.Slots
	for _, m := range a.Mems {
		if !impl.MemOk(m) || m.Failed || n >= len(m.Secs) || slices.Contains(m.Bad, n) {
			continue
		}
		l := wantRead(m, n)
		if len(l) == headOfARec+a.G.N-1 && l[0] == firstOfARec && l[1] == seq && l[2] < a.G.S && l[3] == a.G.N-1 {
			return impl.Rec{Seq: seq, Stripe: l[2], Data: slices.Clone(l[headOfARec:])}, true
		}
	}
	return impl.Rec{}, false
}

// stepsOfReplay seeks all records ahead: none of them stands in the slot of
// another one.
func stepsOfReplay(a impl.Arr) []step {
	l := []step{}
	for seq := a.Seq; seq < a.Seq+impl.Slots && seq < mostOfAnArr; seq++ {
		r, there := wantFound(a, seq)
		if !there {
			break
		}
		l = slices.Concat(l, stepsOfJournal(a, r), stepsOfWords(a, r.Stripe, r.Data), stepsOfSeq())
	}
	return append(l, stepsOfCheck(a)...)
}

func replayRefused(a impl.Arr) bool {
	return !wantArrOk(a) || a.Down || a.Broken || a.Gen == mostOfAnArr
}

func wantReplayed(a impl.Arr) impl.Arr {
	if replayRefused(a) {
		return a
	}
	return played(a, stepsOfReplay(a))
}

func wantRecovered(mems []impl.Mem, keeps []int, id, fuse int) (impl.Arr, bool) {
	a, ok := wantAssembled(wantFallen(mems, keeps), id)
	if !ok {
		return impl.Arr{}, false
	}
	if within(fuse, -1, mostFuse) {
		a.Fuse = fuse
	}
	return wantReplayed(a), true
}

// wantAssemble, wantFindRec, wantReplay and wantRecover ask a call for all
// that the document says of it, and answer what it answered.
func wantAssemble(t *testing.T, name string, mems []impl.Mem, id int) (impl.Arr, bool) {
	t.Helper()
	a, ok := impl.Assemble(mems, id)
	if want, there := wantAssembled(mems, id); ok != there || !alike(a, want) {
		t.Fatal(name, "\nof", mems, id, "\nis", a, ok, "\nnot", want, there)
	}
	return a, ok
}

func wantFindRec(t *testing.T, name string, a impl.Arr, seq int) (impl.Rec, bool) {
	t.Helper()
	r, ok := impl.FindRec(a, seq)
	if want, there := wantFound(a, seq); ok != there || !sameRec(r, want) {
		t.Fatal(name, seq, "\nof", a, "\nis", r, ok, "not", want, there)
	}
	return r, ok
}

func wantReplay(t *testing.T, name string, a impl.Arr) impl.Arr {
	t.Helper()
	x := impl.Replay(a)
	if want := wantReplayed(a); !alike(x, want) {
		t.Fatal(name, "\nof", a, "\nis", x, "\nnot", want)
	}
	return x
}

func wantRecover(t *testing.T, name string, mems []impl.Mem, keeps []int, id, fuse int) (impl.Arr, bool) {
	t.Helper()
	a, ok := impl.Recover(mems, keeps, id, fuse)
	if want, there := wantRecovered(mems, keeps, id, fuse); ok != there || !alike(a, want) {
		t.Fatal(name, keeps, fuse, "\nof", mems, "\nis", a, ok, "\nnot", want, there)
	}
	return a, ok
}

// withRec has this record in its slot of a disk, whatever was there.
func withRec(a impl.Arr, m int, r impl.Rec) impl.Arr {
	return withSector(a, m, firstSlot+r.Seq%impl.Slots, wantRecWords(r)...)
}

func withSuper(a impl.Arr, m int, s impl.Super) impl.Arr {
	return withSector(a, m, s.Gen%2, wantSuperWords(s)...)
}

func withoutSupers(a impl.Arr, m int) impl.Arr { return withSector(withSector(a, m, 0), m, 1) }

func TestPowerOff(t *testing.T) {
	t.Parallel()
	for _, a := range append(rightArrs(), cornerArrs()...) {
		want := a
		want.Down, want.Fuse = true, -1
		x := impl.PowerOff(a)
		if !alike(x, want) || !impl.ArrOk(x) {
			t.Fatal(a, "is", x)
		}
		if !alike(impl.PowerOff(x), want) {
			t.Fatal("off twice", x)
		}
	}
	for name, a := range wrongArrs() {
		if !alike(impl.PowerOff(a), a) || !alike(impl.PowerOff(roomy(a)), a) {
			t.Error(name, impl.PowerOff(a))
		}
	}
}

// Told by hand: what is in memory and in the caches stays.
func TestPowerOffAsItIsTold(t *testing.T) {
	for _, g := range rightGeos() {
		a, _ := filled(g, drawn(251))
		a = restless(a)
		for _, fuse := range []int{-1, 0, 1, mostFuse} {
			a.Fuse = fuse
			x := impl.PowerOff(a)
			if !x.Down || x.Fuse != -1 || a.Down || a.Fuse != fuse || !alike(x.Mems, a.Mems) || !alike(x.Dirty, a.Dirty) {
				t.Fatal(g, fuse, x)
			}
		}
	}
	wrong := impl.ArrNew(arrayId, impl.Geo{N: 3, S: 1})
	wrong.Gen, wrong.Fuse = 60001, 5
	if x := impl.PowerOff(wrong); x.Down || x.Fuse != 5 {
		t.Error("not ArrOk", x)
	}
}

// A disk for each count of Wrs, and each way to be: of some of them what is
// kept shows.
func memsToFall() []impl.Mem {
	l := rightMems()
	for _, name := range []string{"the zero one", "a Wr at the end", "too many Wrs", "Bad falls", "a Wr at the end, Failed"} {
		l = append(l, wrongMems()[name])
	}
	return l
}

func TestFall(t *testing.T) {
	t.Parallel()
	next, all := drawn(257), memsToFall()
	for range 2000 {
		mems, keeps := []impl.Mem{}, []int{}
		for range next(7) {
			mems = append(mems, all[next(len(all))])
		}
		for range next(9) {
			keeps = append(keeps, slices.Concat(keepsOf(), wrongKeeps())[next(50)])
		}
		x := impl.Fall(mems, keeps)
		if !alike(x, wantFallen(mems, keeps)) {
			t.Fatal(mems, keeps, "is", x)
		}
		if !alike(impl.Fall(roomy(mems), roomy(keeps)), x) {
			t.Fatal("what lies behind was read", mems, keeps)
		}
	}
	if x := impl.Fall(nil, []int{1, 2}); len(x) != 0 {
		t.Error("no disk", x)
	}
}

// Told by hand: each disk by its own number, and by 0 where there is none.
func TestFallByItsNumber(t *testing.T) {
	m := memOf(3, []impl.Wr{{N: 0, S: []int{10}}, {N: 1, S: []int{20}}, {N: 0, S: []int{30}}})
	wrong := memOf(3, []impl.Wr{{N: 3}})
	for i, c := range []struct {
		mems  []impl.Mem
		keeps []int
		first [][]int
	}{
		{[]impl.Mem{m, m, m}, nil, [][]int{{1}, {1}, {1}}},
		{[]impl.Mem{m, m, m}, []int{}, [][]int{{1}, {1}, {1}}},
		{[]impl.Mem{m, m, m}, []int{1}, [][]int{{10}, {1}, {1}}},
		{[]impl.Mem{m, m, m}, []int{0, 4}, [][]int{{1}, {30}, {1}}},
		{[]impl.Mem{m, m, m}, []int{0, 0, 5}, [][]int{{1}, {1}, {30}}},
		{[]impl.Mem{m, m, m}, []int{2, 1, 7}, [][]int{{1}, {10}, {30}}},
		{[]impl.Mem{m, m, m}, []int{1, 1, 1, 7, 7}, [][]int{{10}, {10}, {10}}},
		{[]impl.Mem{m, m, m}, []int{-1, mostKeep + 1, mostKeep}, [][]int{{1}, {1}, {30}}},
		{[]impl.Mem{m, wrong, m}, []int{1, 1, 4}, [][]int{{10}, {1}, {30}}},
		{[]impl.Mem{failed(m), m, failed(m)}, []int{1, 1, 0}, [][]int{{10}, {10}, {1}}},
		{[]impl.Mem{m}, []int{4, 1}, [][]int{{30}}},
		{nil, []int{1}, nil},
	} {
		x := impl.Fall(c.mems, c.keeps)
		if len(x) != len(c.first) {
			t.Fatal(i, x)
		}
		for k, want := range c.first {
			// What is not MemOk is as it was, also what is in its cache.
			if !slices.Equal(x[k].Secs[0], want) || len(x[k].Cache) != 0 && impl.MemOk(c.mems[k]) || x[k].Failed != c.mems[k].Failed {
				t.Error(i, "disk", k, "is", x[k])
			}
		}
	}
	if x := impl.Fall([]impl.Mem{wrong}, []int{1}); !alike(x, []impl.Mem{wrong}) {
		t.Error("not MemOk", x)
	}
}

// An assembling is told by hand: of four disks with six stripes, whose Supers
// are of Gen 4 and Tail 40, what comes of a change.
type assembling struct {
	name    string
	change  func(impl.Arr) impl.Arr
	gen     int
	tail    int
	lost    int
	built   int
	broken  bool
	nothing bool
}

func knowing(m, gen, tail, lost, built int) impl.Super {
	return impl.Super{Id: arrayId, Gen: gen, Role: m, N: 4, S: 6, Tail: tail, Lost: lost, Built: built}
}

func fourDisks() impl.Arr {
	a := wantNewArr(arrayId, impl.Geo{N: 4, S: 6})
	for m := range a.Mems {
		a = withSuper(a, m, knowing(m, 4, 40, -1, 0))
	}
	return a
}

// losing has disks whose Supers say that this one is Lost, two of its stripes
// built.
func losing(lost int) impl.Arr {
	a := wantNewArr(arrayId, impl.Geo{N: 4, S: 6})
	for m := range a.Mems {
		a = withSuper(a, m, knowing(m, 4, 40, lost, 2))
	}
	return a
}

// keptOut has a Super of the greatest Gen on a disk that must not count.
func keptOut(m int, why func(impl.Arr) impl.Arr) func(impl.Arr) impl.Arr {
	return func(a impl.Arr) impl.Arr { return why(withSuper(a, m, knowing(m, 9, 90, 3, 5))) }
}

func whichSuperCounts() []assembling {
	newer := func(m, gen, tail int) func(impl.Arr) impl.Arr {
		return func(a impl.Arr) impl.Arr { return withSuper(a, m, knowing(m, gen, tail, -1, 0)) }
	}
	both := func(one, two func(impl.Arr) impl.Arr) func(impl.Arr) impl.Arr {
		return func(a impl.Arr) impl.Arr { return two(one(a)) }
	}
	return []assembling{
		{name: "all alike", change: func(a impl.Arr) impl.Arr { return a }, gen: 4, tail: 40, lost: -1},
		{name: "the first is newer", change: newer(0, 5, 50), gen: 5, tail: 50, lost: -1},
		{name: "the last is newer", change: newer(3, 5, 50), gen: 5, tail: 50, lost: -1},
		{name: "far newer, of the same sector", change: newer(2, 60000, 60000), gen: 60000, tail: 60000, lost: -1},
		{name: "the elder one has the greater Tail", change: newer(1, 2, 99), gen: 4, tail: 40, lost: -1},
		{name: "the first of two", change: both(newer(1, 5, 51), newer(2, 5, 52)), gen: 5, tail: 51, lost: -1},
		{name: "the first of two, put down last", change: both(newer(3, 6, 63), newer(0, 6, 60)), gen: 6, tail: 60, lost: -1},
		{name: "the greatest of three", change: both(newer(0, 5, 50), both(newer(2, 7, 70), newer(3, 6, 60))), gen: 7, tail: 70, lost: -1},
		{name: "newer in the cache", change: func(a impl.Arr) impl.Arr {
			return withWr(a, 2, 1, wantSuperWords(knowing(2, 5, 52, -1, 0))...)
		}, gen: 5, tail: 52, lost: -1},
		{name: "newer, but Failed", change: keptOut(1, func(a impl.Arr) impl.Arr { return withFailed(a, 1) }), gen: 4, tail: 40, lost: 1},
		{name: "newer, but of another place", change: func(a impl.Arr) impl.Arr { return withSuper(a, 1, knowing(2, 9, 90, 3, 5)) }, gen: 4, tail: 40, lost: 1},
		{name: "newer, but of another array", change: func(a impl.Arr) impl.Arr {
			s := knowing(1, 9, 90, 3, 5)
			s.Id = arrayId + 1
			return withSuper(a, 1, s)
		}, gen: 4, tail: 40, lost: -1},
		{name: "newer, but cannot be read", change: keptOut(1, func(a impl.Arr) impl.Arr { return withBad(a, 1, 1) }), gen: 4, tail: 40, lost: -1},
		{name: "newer, but in the other sector", change: func(a impl.Arr) impl.Arr {
			return withSector(a, 1, 1, wantSuperWords(knowing(1, 8, 90, 3, 5))...)
		}, gen: 4, tail: 40, lost: -1},
		{name: "newer, but gone under the cache", change: keptOut(1, func(a impl.Arr) impl.Arr { return withWr(a, 1, 1) }), gen: 4, tail: 40, lost: -1},
		{name: "newer, but not MemOk", change: keptOut(1, func(a impl.Arr) impl.Arr { return withWr(a, 1, 12) }), nothing: true},
	}
}

func whoIsLost() []assembling {
	of := func(lost int, change func(impl.Arr) impl.Arr) func(impl.Arr) impl.Arr {
		return func(impl.Arr) impl.Arr { return change(losing(lost)) }
	}
	none := func(disks ...int) func(impl.Arr) impl.Arr {
		return func(a impl.Arr) impl.Arr {
			for _, m := range disks {
				a = withoutSupers(a, m)
			}
			return a
		}
	}
	gone := func(disks ...int) func(impl.Arr) impl.Arr {
		return func(a impl.Arr) impl.Arr {
			for _, m := range disks {
				a = withFailed(a, m)
			}
			return a
		}
	}
	moved := func(order ...int) func(impl.Arr) impl.Arr {
		return func(a impl.Arr) impl.Arr {
			mems := []impl.Mem{}
			for _, m := range order {
				mems = append(mems, a.Mems[m])
			}
			a.Mems = mems
			return a
		}
	}
	return []assembling{
		{name: "the first has none", change: none(0), gen: 4, tail: 40, lost: 0},
		{name: "the last has none", change: none(3), gen: 4, tail: 40, lost: 3},
		{name: "two have none", change: none(1, 2), gen: 4, tail: 40, lost: 1, broken: true},
		{name: "all but the last have none", change: none(0, 1, 2), gen: 4, tail: 40, lost: 0, broken: true},
		{name: "all but the first have none", change: none(1, 2, 3), gen: 4, tail: 40, lost: 1, broken: true},
		{name: "no one has any", change: none(0, 1, 2, 3), nothing: true},
		{name: "the first Failed", change: gone(0), gen: 4, tail: 40, lost: 0},
		{name: "the last Failed", change: gone(3), gen: 4, tail: 40, lost: 3},
		{name: "two Failed", change: gone(0, 3), gen: 4, tail: 40, lost: 0, broken: true},
		{name: "all Failed", change: gone(0, 1, 2, 3), nothing: true},
		{name: "one Failed, one has none", change: func(a impl.Arr) impl.Arr { return gone(2)(none(1)(a)) }, gen: 4, tail: 40, lost: 1, broken: true},
		{name: "Lost as there", change: of(2, none()), gen: 4, tail: 40, lost: 2, built: 2},
		{name: "Lost as there, and it has none", change: of(2, none(2)), gen: 4, tail: 40, lost: 2},
		{name: "Lost as there, and it Failed", change: of(2, gone(2)), gen: 4, tail: 40, lost: 2},
		{name: "Lost as there, one ahead has none", change: of(2, none(1)), gen: 4, tail: 40, lost: 2, built: 2, broken: true},
		{name: "Lost as there, one behind has none", change: of(2, none(3)), gen: 4, tail: 40, lost: 2, built: 2, broken: true},
		{name: "Lost as there, another Failed", change: of(0, gone(3)), gen: 4, tail: 40, lost: 0, built: 2, broken: true},
		{name: "Lost as there, it and one behind have none", change: of(1, none(1, 3)), gen: 4, tail: 40, lost: 1, broken: true},
		{name: "Lost as there, it and one ahead have none", change: of(3, none(0, 3)), gen: 4, tail: 40, lost: 3, broken: true},
		{name: "the newest says that none is Lost", change: of(2, func(a impl.Arr) impl.Arr { return withSuper(a, 0, knowing(0, 5, 41, -1, 0)) }), gen: 5, tail: 41, lost: -1},
		{name: "the elder ones say that one is Lost", change: func(a impl.Arr) impl.Arr { return withSuper(a, 0, knowing(0, 3, 41, 2, 6)) }, gen: 4, tail: 40, lost: -1},
		{name: "the one that is Lost is the newest", change: func(a impl.Arr) impl.Arr { return withSuper(a, 2, knowing(2, 5, 41, 2, 6)) }, gen: 5, tail: 41, lost: 2, built: 6},
		{name: "two in each other's place", change: moved(0, 2, 1, 3), gen: 4, tail: 40, lost: 1, broken: true},
		{name: "three gone round", change: moved(1, 2, 0, 3), gen: 4, tail: 40, lost: 0, broken: true},
		{name: "all gone round", change: moved(1, 2, 3, 0), nothing: true},
		{name: "one in the place of another too", change: moved(0, 1, 1, 3), gen: 4, tail: 40, lost: 2},
		{name: "its newer one is of another place, its elder one of its own", change: func(a impl.Arr) impl.Arr {
			return withSuper(a, 3, knowing(1, 5, 99, -1, 0))
		}, gen: 4, tail: 40, lost: 3},
		{name: "its newer one is of its own, its elder one of another place", change: func(a impl.Arr) impl.Arr {
			return withSuper(a, 3, knowing(1, 3, 99, -1, 0))
		}, gen: 4, tail: 40, lost: -1},
		{name: "one cannot be read", change: func(a impl.Arr) impl.Arr { return withBad(a, 2, 0) }, gen: 4, tail: 40, lost: 2},
	}
}

func whatIsNoArray() []assembling {
	one := func(m int, change func(*impl.Mem)) func(impl.Arr) impl.Arr {
		return func(a impl.Arr) impl.Arr { return withMem(a, m, change) }
	}
	mems := func(cut func([]impl.Mem) []impl.Mem) func(impl.Arr) impl.Arr {
		return func(a impl.Arr) impl.Arr {
			a.Mems = cut(slices.Clone(a.Mems))
			return a
		}
	}
	other := func(m int, change func(*impl.Super)) func(impl.Arr) impl.Arr {
		return func(a impl.Arr) impl.Arr {
			s := knowing(m, 5, 50, -1, 0)
			change(&s)
			return withSuper(a, m, s)
		}
	}
	return []assembling{
		{name: "no disk", change: mems(func(l []impl.Mem) []impl.Mem { return nil }), nothing: true},
		{name: "one too few", change: mems(func(l []impl.Mem) []impl.Mem { return l[:3:3] }), nothing: true},
		{name: "one too few, which lies behind", change: mems(func(l []impl.Mem) []impl.Mem { return l[:3] }), nothing: true},
		{name: "the first is missing", change: mems(func(l []impl.Mem) []impl.Mem { return l[1:] }), nothing: true},
		{name: "one too many", change: mems(func(l []impl.Mem) []impl.Mem { return append(l, impl.MemNew(12)) }), nothing: true},
		{name: "one too many, that Failed", change: mems(func(l []impl.Mem) []impl.Mem { return append(l, failed(l[3])) }), nothing: true},
		{name: "one alone", change: mems(func(l []impl.Mem) []impl.Mem { return l[:1] }), nothing: true},
		{name: "the newest is of more disks", change: other(1, func(s *impl.Super) { s.N = 5 }), nothing: true},
		{name: "the newest is of fewer disks", change: other(1, func(s *impl.Super) { s.N = 3 }), nothing: true},
		{name: "the newest is of more stripes", change: other(1, func(s *impl.Super) { s.S = 7 }), nothing: true},
		{name: "the newest is of fewer stripes", change: other(1, func(s *impl.Super) { s.S = 5 }), nothing: true},
		{name: "the newest is of another array and more disks", change: other(1, func(s *impl.Super) { s.Id, s.N = 8, 5 }), gen: 4, tail: 40, lost: -1},
		{name: "a sector less", change: one(2, func(x *impl.Mem) { x.Secs = x.Secs[:11] }), nothing: true},
		{name: "a sector more", change: one(2, func(x *impl.Mem) { x.Secs = append(x.Secs, nil) }), nothing: true},
		{name: "a sector less, Failed", change: one(2, func(x *impl.Mem) { x.Secs, x.Failed = x.Secs[:11], true }), nothing: true},
		{name: "no sectors", change: one(0, func(x *impl.Mem) { *x = impl.Mem{} }), nothing: true},
		{name: "no sectors, Failed", change: one(0, func(x *impl.Mem) { *x = impl.Mem{Failed: true} }), nothing: true},
		{name: "a spare that has nothing yet", change: one(0, func(x *impl.Mem) { *x = impl.MemNew(12) }), gen: 4, tail: 40, lost: 0},
		{name: "a spare with one sector", change: one(0, func(x *impl.Mem) { *x = impl.MemNew(1) }), nothing: true},
		{name: "a word too great", change: one(3, func(x *impl.Mem) { x.Secs[7] = []int{65536} }), nothing: true},
		{name: "Bad twice", change: one(3, func(x *impl.Mem) { x.Bad = []int{7, 7} }), nothing: true},
	}
}

func TestAssembleAsItIsTold(t *testing.T) {
	for _, c := range slices.Concat(whichSuperCounts(), whoIsLost(), whatIsNoArray()) {
		x := c.change(fourDisks())
		a, ok := wantAssemble(t, c.name, x.Mems, arrayId)
		if c.nothing {
			if ok || !alike(a, impl.Arr{}) {
				t.Error(c.name, "is there:", a)
			}
			continue
		}
		want := impl.Arr{Id: arrayId, G: impl.Geo{N: 4, S: 6}, Mems: x.Mems, Lost: c.lost, Built: c.built, Seq: c.tail, Tail: c.tail, Gen: c.gen, Fuse: -1, Broken: c.broken}
		if !ok || !alike(a, want) || !impl.ArrOk(a) {
			t.Error(c.name, "is", a, ok)
		}
	}
}

// No Super has an id that is not 1 .. 60000, whatever the disks hold.
func TestAssembleOfEachId(t *testing.T) {
	for _, id := range []int{1, 2, arrayId, 59999, 60000} {
		a := wantNewArr(id, impl.Geo{N: 3, S: 2})
		if x, ok := wantAssemble(t, "its own", a.Mems, id); !ok || !alike(x, a) {
			t.Error(id, x, ok)
		}
		for _, other := range append([]int{id - 1, id + 1, 0, -1, -id, 60001, 65536 + id}, far()...) {
			if x, ok := wantAssemble(t, "another", a.Mems, other); ok || !alike(x, impl.Arr{}) {
				t.Error(id, other, x)
			}
		}
	}
	zero := wantNewArr(0, impl.Geo{N: 3, S: 2})
	if _, ok := wantAssemble(t, "0 itself", zero.Mems, 0); ok {
		t.Error("an array 0")
	}
}

// What an array is behind Mark, Assemble answers, but for what is in memory
// and the records; a disk that Failed is Lost with nothing built.
func TestAssembleBehindMark(t *testing.T) {
	t.Parallel()
	for _, g := range rightGeos() {
		a, _ := filled(g, drawn(263))
		for i, c := range standingsAt(restless(a), g.S/2) {
			c.a.Tail, c.a.Gen = i*7, 3*i
			c.a.Seq = c.a.Tail + i%(impl.Slots+1)
			x := impl.Mark(c.a)
			y, ok := wantAssemble(t, c.name, x.Mems, arrayId)
			want := x
			want.Seq, want.Dirty, want.Fuse = x.Tail, nil, -1
			if x.Lost >= 0 && x.Mems[x.Lost].Failed {
				want.Built = 0
			}
			if !ok || !alike(y, want) {
				t.Fatal(c.name, g, ok, "\nis", y, "\nnot", want)
			}
		}
	}
}

// anyDisk answers the disk m of an array with this or that in its Supers.
func anyDisk(a impl.Arr, m int, next func(int) int) impl.Arr {
	for n := range 2 {
		if next(3) == 0 {
			continue
		}
		s := impl.Super{Id: arrayId, Gen: 2*next(3) + n, Role: m, N: a.G.N, S: a.G.S, Tail: next(9), Lost: next(a.G.N+1) - 1}
		if s.Lost >= 0 {
			s.Built = next(a.G.S + 1)
		}
		switch next(24) {
		case 0:
			s.Id++
		case 1:
			s.Role = next(a.G.N)
		case 2:
			s.Gen++
		case 3:
			s.N, s.Lost, s.Built, s.Role = 3+next(3), -1, 0, min(m, 2)
		case 4:
			s.S, s.Built = 1+next(impl.MaxStripes), 0
		}
		words := wantSuperWords(s)
		if next(20) == 0 {
			words = words[1:]
		}
		if next(4) == 0 {
			a = withWr(a, m, n, words...)
		} else {
			a = withSector(a, m, n, words...)
		}
		if next(20) == 0 {
			a = withBad(a, m, n)
		}
	}
	if next(12) == 0 {
		a = withFailed(a, m)
	}
	return a
}

func TestAssembleOfAnyDisks(t *testing.T) {
	t.Parallel()
	next, came := drawn(269), map[string]int{}
	for range 40000 {
		g := rightGeos()[next(24)]
		a := wantNewArr(arrayId, g)
		for m := range a.Mems {
			a = anyDisk(a, m, next)
		}
		if next(20) == 0 {
			a = sectorMore(a, next(g.N))
		}
		if i, k := next(g.N), next(g.N); next(20) == 0 {
			a.Mems[i], a.Mems[k] = a.Mems[k], a.Mems[i]
		}
		x, ok := wantAssemble(t, "any", a.Mems, arrayId)
		switch {
		case !ok:
			came["nothing"]++
		case x.Broken:
			came["Broken"]++
		case x.Lost >= 0 && x.Built > 0:
			came["being built"]++
		case x.Lost >= 0:
			came["Lost"]++
		default:
			came["none lost"]++
		}
	}
	for _, kind := range []string{"nothing", "Broken", "being built", "Lost", "none lost"} {
		if came[kind] < 500 {
			t.Error("seldom came:", kind, came)
		}
	}
}

// A finding is told by hand: where a record of the number 9 stands in an array
// of three disks and two stripes, in whose slot is 3, and who has it.
type finding struct {
	name   string
	change func(impl.Arr) impl.Arr
	data   []int
}

func recOfNine(stripe int, data ...int) impl.Rec {
	return impl.Rec{Seq: 9, Stripe: stripe, Data: data}
}

func findings() []finding {
	on := func(m int, r impl.Rec) func(impl.Arr) impl.Arr {
		return func(a impl.Arr) impl.Arr { return withRec(a, m, r) }
	}
	both := func(one, two func(impl.Arr) impl.Arr) func(impl.Arr) impl.Arr {
		return func(a impl.Arr) impl.Arr { return two(one(a)) }
	}
	slot := func(m int, words ...int) func(impl.Arr) impl.Arr {
		return func(a impl.Arr) impl.Arr { return withSector(a, m, 3, words...) }
	}
	return []finding{
		{"none", func(a impl.Arr) impl.Arr { return a }, nil},
		{"the first disk alone", on(0, recOfNine(1, 5, 6)), []int{5, 6}},
		{"the last disk alone", on(2, recOfNine(1, 5, 6)), []int{5, 6}},
		{"all of them", both(on(0, recOfNine(1, 5, 6)), both(on(1, recOfNine(1, 5, 6)), on(2, recOfNine(1, 5, 6)))), []int{5, 6}},
		{"the first of two", both(on(1, recOfNine(1, 5, 6)), on(2, recOfNine(1, 7, 8))), []int{5, 6}},
		{"in the cache alone", func(a impl.Arr) impl.Arr { return withWr(a, 1, 3, wantRecWords(recOfNine(1, 5, 6))...) }, []int{5, 6}},
		{"gone under the cache", func(a impl.Arr) impl.Arr { return withWr(withRec(a, 1, recOfNine(1, 5, 6)), 1, 3) }, nil},
		{"newer in the cache", func(a impl.Arr) impl.Arr {
			return withWr(withRec(a, 1, recOfNine(1, 5, 6)), 1, 3, wantRecWords(recOfNine(1, 7, 8))...)
		}, []int{7, 8}},
		{"an elder one", on(0, impl.Rec{Seq: 5, Stripe: 1, Data: []int{5, 6}}), nil},
		{"a newer one", on(0, impl.Rec{Seq: 13, Stripe: 1, Data: []int{5, 6}}), nil},
		{"an elder one, and it behind", both(on(0, impl.Rec{Seq: 5, Stripe: 1, Data: []int{5, 6}}), on(1, recOfNine(1, 7, 8))), []int{7, 8}},
		{"a newer one, and it behind", both(on(0, impl.Rec{Seq: 13, Stripe: 1, Data: []int{5, 6}}), on(2, recOfNine(1, 7, 8))), []int{7, 8}},
		{"of the last stripe and one", on(0, recOfNine(2, 5, 6)), nil},
		{"of a stripe that is not there, and it behind", both(on(0, recOfNine(2, 5, 6)), on(1, recOfNine(1, 7, 8))), []int{7, 8}},
		{"of a stripe that no array has", slot(0, 21322, 9, 8, 2, 5, 6), nil},
		{"of too few words", slot(0, 21322, 9, 1, 1, 5), nil},
		{"of too many words", on(0, recOfNine(1, 5, 6, 7)), nil},
		{"of far too many words", on(0, recOfNine(1, 5, 6, 7, 8)), nil},
		{"of too many words, and it behind", both(on(0, recOfNine(1, 5, 6, 7)), on(2, recOfNine(1, 7, 8))), []int{7, 8}},
		{"of a wrong count", slot(0, 21322, 9, 1, 3, 5, 6), nil},
		{"cut", slot(0, 21322, 9, 1, 2, 5), nil},
		{"one word more", slot(0, 21322, 9, 1, 2, 5, 6, 0), nil},
		{"with another first word", slot(0, 21317, 9, 1, 2, 5, 6), nil},
		{"in another slot", func(a impl.Arr) impl.Arr { return withSector(a, 0, 4, wantRecWords(recOfNine(1, 5, 6))...) }, nil},
		{"in a slot that cannot be read", func(a impl.Arr) impl.Arr { return withBad(withRec(a, 0, recOfNine(1, 5, 6)), 0, 3) }, nil},
		{"in a slot that cannot be read, and it behind", func(a impl.Arr) impl.Arr {
			return withBad(withRec(withRec(a, 1, recOfNine(1, 7, 8)), 0, recOfNine(1, 5, 6)), 0, 3)
		}, []int{7, 8}},
		{"where another slot cannot be read", func(a impl.Arr) impl.Arr { return withBad(withRec(a, 0, recOfNine(1, 5, 6)), 0, 4) }, []int{5, 6}},
		{"on a disk that Failed", func(a impl.Arr) impl.Arr { return withLost(withFailed(withRec(a, 0, recOfNine(1, 5, 6)), 0), 0, 2) }, nil},
		{"on a disk that Failed, and it behind", func(a impl.Arr) impl.Arr {
			return withLost(withFailed(withRec(withRec(a, 2, recOfNine(1, 7, 8)), 0, recOfNine(1, 5, 6)), 0), 0, 2)
		}, []int{7, 8}},
		{"on a disk that is Lost, but there", func(a impl.Arr) impl.Arr { return withLost(withRec(a, 0, recOfNine(1, 5, 6)), 0, 0) }, []int{5, 6}},
		{"on a disk that is not MemOk", func(a impl.Arr) impl.Arr { return withWr(withRec(a, 0, recOfNine(1, 5, 6)), 0, 99) }, nil},
	}
}

func TestFindRecAsItIsTold(t *testing.T) {
	for _, c := range findings() {
		a := c.change(wantNewArr(arrayId, impl.Geo{N: 3, S: 2}))
		// Nothing of the array but its disks and its Geo is looked at.
		for i, change := range []func(*impl.Arr){
			func(*impl.Arr) {},
			func(a *impl.Arr) { a.Down = true },
			func(a *impl.Arr) { a.Broken = true },
			func(a *impl.Arr) { a.Seq, a.Tail, a.Gen = 9, 9, 60000 },
			func(a *impl.Arr) { a.Fuse, a.Id = -2, 0 },
			func(a *impl.Arr) { a.Dirty = []impl.Ent{{Stripe: 1, Data: []int{1, 2}}} },
		} {
			x := a
			change(&x)
			r, ok := wantFindRec(t, c.name, x, 9)
			if ok != (c.data != nil) || !slices.Equal(r.Data, c.data) {
				t.Error(c.name, i, r, ok)
			}
		}
	}
}

func TestFindRecOfEachNumber(t *testing.T) {
	t.Parallel()
	for _, g := range rightGeos() {
		a := wantNewArr(arrayId, g)
		for _, seq := range rightSeqs() {
			want := impl.Rec{Seq: seq, Stripe: seq % g.S, Data: upTo(g.N - 1)}
			for m := range g.N {
				x := withRec(a, m, want)
				if r, ok := impl.FindRec(x, seq); !ok || !sameRec(r, want) {
					t.Fatal(g, seq, m, r, ok)
				}
				for _, other := range slices.Concat([]int{-1, -4, -seq - 1, seq + 4, seq - 4, seq + 1, seq - 1, seq + 60000, seq + 65536}, far()) {
					if r, ok := impl.FindRec(x, other); !noRec(r, ok) {
						t.Fatal("another one", g, seq, other, r)
					}
				}
			}
		}
		// The words can be so great, but no record's number is.
		for _, seq := range []int{60001, 60002, 65535} {
			x := withRec(a, 0, impl.Rec{Seq: seq, Stripe: 0, Data: upTo(g.N - 1)})
			if r, ok := wantFindRec(t, "great", x, seq); ok {
				t.Fatal("great", g, seq, r)
			}
		}
	}
	for _, seq := range append([]int{-1, 0, 9, 60000, 60001}, far()...) {
		if r, ok := impl.FindRec(impl.Arr{}, seq); !noRec(r, ok) {
			t.Error("of nothing", seq, r)
		}
	}
}

func TestFindRecOfWrongArrs(t *testing.T) {
	t.Parallel()
	for name, a := range wrongArrs() {
		for m := range a.Mems {
			if len(a.Mems[m].Secs) < firstStripe || !within(a.G.N, 1, mostDisks+1) {
				continue
			}
			a = withRec(a, m, impl.Rec{Seq: 6, Stripe: m, Data: make([]int, a.G.N-1)})
		}
		for _, seq := range []int{-1, 0, 6, 7} {
			wantFindRec(t, name, a, seq)
			wantFindRec(t, name+", with room", roomy(a), seq)
		}
	}
}

// anyRec answers a's slot of seq on a disk with something that may be a record.
func anyRec(a impl.Arr, m, seq int, next func(int) int) impl.Arr {
	r := impl.Rec{Seq: seq, Stripe: next(a.G.S), Data: dataFor(a.G, next)}
	switch next(14) {
	case 0:
		r.Seq += impl.Slots
	case 1:
		r.Seq = max(0, seq-impl.Slots)
	case 2:
		r.Stripe = next(impl.MaxStripes)
	case 3:
		r.Data = dataFor(impl.Geo{N: 3 + next(3)}, next)
	}
	words := wantRecWords(r)
	if next(14) == 0 {
		words = words[:len(words)-1]
	}
	n := firstSlot + seq%impl.Slots
	if next(3) == 0 {
		a = withWr(a, m, n, words...)
	} else {
		a = withSector(a, m, n, words...)
	}
	if next(14) == 0 && !slices.Contains(a.Mems[m].Bad, n) {
		a = withBad(a, m, n)
	}
	return a
}

func TestReplayOfAnyRecords(t *testing.T) {
	t.Parallel()
	next, came := drawn(271), map[int]int{}
	for range 12000 {
		g := rightGeos()[next(24)]
		a, _ := filled(g, next)
		a.Tail = []int{0, 7, 21322, 59995, 59997, 59999, 60000}[next(7)]
		a.Seq, a.Gen = a.Tail, next(60000)
		if m := next(g.N + 1); m < g.N {
			a = standingsAt(a, next(g.S))[1+6*m+next(6)].a
		}
		for seq := a.Seq; seq < a.Seq+impl.Slots+1 && seq <= mostOfAnArr; seq++ {
			for m := range g.N {
				if next(3) == 0 {
					a = anyRec(a, m, seq, next)
				}
			}
			wantFindRec(t, "any", a, seq)
		}
		a.Fuse = max(-1, next(160)-80)
		x := wantReplay(t, "any", a)
		came[x.Seq-a.Seq]++
		if !impl.ArrOk(x) {
			t.Fatal("not right any more", x)
		}
	}
	for recs := range impl.Slots + 1 {
		if came[recs] < 300 {
			t.Error("seldom came:", recs, came)
		}
	}
}

// As many records as are there one behind the other, Slots at most.
func TestHowManyRecordsAreReplayed(t *testing.T) {
	for _, g := range rightGeos() {
		for there := range 1 << (impl.Slots + 1) {
			a, held := filled(g, drawn(277))
			a.Tail, a.Seq, a.Gen = 6, 6, 3
			want := 0
			for ; want < impl.Slots && there>>want&1 == 1; want++ {
			}
			// The fifth stands in the slot of the first, on another disk.
			for i, m := range []int{0, 1, 2, 0, 1} {
				r := impl.Rec{Seq: 6 + i, Stripe: i % g.S, Data: upTo(g.N - 1)}
				r.Data[0] = 100 + i
				if there>>i&1 == 1 {
					a = withRec(a, m, r)
				}
				if i < want {
					held[r.Stripe] = wantHeld(g, r.Stripe, r.Data)
				}
			}
			x := wantReplay(t, "so many", a)
			if x.Seq != 6+want || x.Tail != x.Seq || x.Gen != 4 || x.Down {
				t.Fatalf("%v %05b: %d %d %d", g, there, x.Seq, x.Tail, x.Gen)
			}
			for s := range g.S {
				wantStripe(t, "so many", x, s, held[s])
				wantStripe(t, "so many, fallen", impl.Arr{Id: x.Id, G: g, Mems: impl.Fall(x.Mems, nil), Lost: -1, Fuse: -1}, s, held[s])
			}
			wantSupers(t, "so many", x)
			// Again there is none any more: only Check is done.
			if y := wantReplay(t, "again", x); y.Seq != x.Seq || y.Gen != 5 {
				t.Fatalf("again %v %05b: %d %d", g, there, y.Seq, y.Gen)
			}
		}
	}
}

// A fifth record can outlast the first, whose slot it stands in, only where the
// disk refuses that one, as its cache is full: it is not replayed then either.
func TestReplaySlotsTimesAtMost(t *testing.T) {
	for _, g := range rightGeos() {
		a := recordsFor(g, 6)
		for i := range mostWrs - len(a.Mems[1].Cache) {
			a = withWr(a, 1, 0, i)
		}
		a.Tail, a.Seq = 6, 6
		a = withMem(a, 1, func(x *impl.Mem) {
			x.Secs[firstSlot+6%impl.Slots] = wantRecWords(impl.Rec{Seq: 10, Stripe: 0, Data: upTo(g.N - 1)})
		})
		x := wantReplay(t, "five", a)
		if _, ok := impl.FindRec(x, 10); !ok || x.Seq != 10 || x.Tail != 10 {
			t.Fatal(g, ok, x.Seq, x.Tail)
		}
		if y := wantReplay(t, "the fifth then", x); y.Seq != 11 || y.Tail != 11 {
			t.Fatal(g, y.Seq, y.Tail)
		}
	}
}

func TestReplayAtTheEndsOfSeqAndGen(t *testing.T) {
	for _, g := range rightGeos() {
		for _, c := range []struct{ tail, seq, gen, wantSeq, wantGen int }{
			{59994, 59994, 0, 59998, 1},
			{59996, 59996, 0, 60000, 1},
			{59997, 59997, 0, 60000, 1},
			{59999, 59999, 0, 60000, 1},
			{59996, 59999, 0, 60000, 1},
			{60000, 60000, 0, 60000, 1},
			{59996, 60000, 0, 60000, 1},
			{0, 0, 59989, 4, 59990},
			{0, 0, 59990, 4, 59991},
			{0, 0, 59998, 4, 59999},
			{0, 0, 59999, 4, 60000},
			{59999, 59999, 59999, 60000, 60000},
			{60000, 60000, 59999, 60000, 60000},
		} {
			a := recordsFor(g, c.seq)
			a.Tail, a.Seq, a.Gen = c.tail, c.seq, c.gen
			x := wantReplay(t, "ends", a)
			if x.Seq != c.wantSeq || x.Tail != c.wantSeq || x.Gen != c.wantGen || !impl.ArrOk(x) {
				t.Error(g, c, x.Seq, x.Tail, x.Gen)
			}
			wantSupers(t, "ends", x)
		}
		for _, seq := range []int{0, 59999, 60000} {
			a := recordsFor(g, seq)
			a.Tail, a.Seq, a.Gen, a.Fuse = seq, seq, 60000, 2
			if x := impl.Replay(a); !alike(x, a) {
				t.Error("past the last Gen", g, seq, x)
			}
		}
	}
}

// recordsFor has a record in each slot of each disk, from seq on.
func recordsFor(g impl.Geo, seq int) impl.Arr {
	a, _ := filled(g, drawn(281))
	for i := range impl.Slots {
		for m := range g.N {
			a = withRec(a, m, impl.Rec{Seq: seq + i, Stripe: i % g.S, Data: upTo(g.N - 1)})
		}
	}
	return a
}

// Where there are records already from Tail to Seq, those behind Seq alone are
// replayed; behind it none is left.
func TestReplayWithRecordsAhead(t *testing.T) {
	for _, g := range rightGeos() {
		for recs := 0; recs <= impl.Slots; recs++ {
			a := recordsFor(g, 8+recs)
			a.Tail, a.Seq = 8, 8+recs
			x := wantReplay(t, "records ahead", a)
			if x.Seq != 12+recs || x.Tail != x.Seq || x.Gen != 1 || !impl.ArrOk(x) {
				t.Error(g, recs, x.Seq, x.Tail, x.Gen)
			}
		}
	}
}

func TestReplayThatIsRefused(t *testing.T) {
	t.Parallel()
	for name, a := range wrongArrs() {
		if !alike(impl.Replay(a), a) || !alike(impl.Replay(roomy(a)), a) {
			t.Error(name, impl.Replay(a))
		}
	}
	for _, g := range rightGeos() {
		right := restless(recordsFor(g, 0))
		broken := arrsThatBroke(right)
		for _, c := range standingsAt(right, 0) {
			broken = append(broken, c.a)
		}
		for some := 1; some < 8; some++ {
			for _, x := range broken {
				x.Fuse = some - 2
				x.Down, x.Broken = some&1 == 1, x.Broken && some&2 == 0 || some&2 == 2
				if some&4 == 4 {
					x.Gen = 60000
				}
				if y := impl.Replay(x); !alike(y, wantReplayed(x)) || replayRefused(x) && !alike(y, x) {
					t.Fatal(g, some, x, y)
				}
			}
		}
	}
}

// Told by hand: the record is on the second disk alone, and comes to all ahead
// of the first word; then come the words, and Check.
func TestPowerGoesInAReplay(t *testing.T) {
	g := impl.Geo{N: 3, S: 3}
	for s := range 3 {
		a := withRec(wantNewArr(arrayId, g), 1, impl.Rec{Seq: 0, Stripe: s, Data: []int{5, 6}})
		replay := func(a impl.Arr) (impl.Arr, string) {
			x := impl.Replay(a)
			return x, fmt.Sprint(tracks(x, 2, 1, firstStripe+s), ", ", x.Seq, x.Tail, x.Gen)
		}
		wantTracks(t, "none lost", a, replay, []string{
			"- R -, 0 0 0", "r R -, 0 0 0", "r Rr -, 0 0 0", "r Rr r, 0 0 0",
			"R Rr r, 0 0 0", "R R r, 0 0 0", "R R R, 0 0 0",
			"Rw R R, 0 0 0", "Rw Rw R, 0 0 0", "Rw Rw Rw, 1 0 0",
			"R Rw Rw, 1 0 0", "R R Rw, 1 0 0", "R R R, 1 1 1",
			"mR R R, 1 1 1", "mR mR R, 1 1 1", "mR mR mR, 1 1 1",
			"MR mR mR, 1 1 1", "MR MR mR, 1 1 1", "MR MR MR, 1 1 1", "MR MR MR, 1 1 1",
		})
		wantTracks(t, "the first Failed", withLost(withFailed(a, 0), 0, 3), replay, []string{
			"x R -, 0 0 0", "x Rr -, 0 0 0", "x Rr r, 0 0 0", "x R r, 0 0 0", "x R R, 0 0 0",
			"x Rw R, 0 0 0", "x Rw Rw, 1 0 0", "x R Rw, 1 0 0", "x R R, 1 1 1",
			"x mR R, 1 1 1", "x mR mR, 1 1 1", "x MR mR, 1 1 1", "x MR MR, 1 1 1", "x MR MR, 1 1 1",
		})
		wantTracks(t, "the last not built", withLost(a, 2, s), replay, []string{
			"- R -, 0 0 0", "r R -, 0 0 0", "r Rr -, 0 0 0", "r Rr r, 0 0 0",
			"R Rr r, 0 0 0", "R R r, 0 0 0", "R R R, 0 0 0",
			"Rw R R, 0 0 0", "Rw Rw R, 1 0 0",
			"R Rw R, 1 0 0", "R R R, 1 0 0", "R R R, 1 1 1",
			"mR R R, 1 1 1", "mR mR R, 1 1 1", "mR mR mR, 1 1 1",
			"MR mR mR, 1 1 1", "MR MR mR, 1 1 1", "MR MR MR, 1 1 1", "MR MR MR, 1 1 1",
		})
		wantTracks(t, "the last built past it", withLost(a, 2, s+1), replay, []string{
			"- R -, 0 0 0", "r R -, 0 0 0", "r Rr -, 0 0 0", "r Rr r, 0 0 0",
			"R Rr r, 0 0 0", "R R r, 0 0 0", "R R R, 0 0 0",
			"Rw R R, 0 0 0", "Rw Rw R, 0 0 0", "Rw Rw Rw, 1 0 0",
			"R Rw Rw, 1 0 0", "R R Rw, 1 0 0", "R R R, 1 1 1",
			"mR R R, 1 1 1", "mR mR R, 1 1 1", "mR mR mR, 1 1 1",
			"MR mR mR, 1 1 1", "MR MR mR, 1 1 1", "MR MR MR, 1 1 1", "MR MR MR, 1 1 1",
		})
	}
	wantTracks(t, "no record", wantNewArr(arrayId, g), func(a impl.Arr) (impl.Arr, string) {
		x := impl.Replay(a)
		return x, fmt.Sprint(tracks(x, 2, 1, firstStripe), ", ", x.Seq, x.Tail, x.Gen)
	}, []string{
		"- - -, 0 0 0", "- - -, 0 0 0", "- - -, 0 0 0", "- - -, 0 0 1",
		"m - -, 0 0 1", "m m -, 0 0 1", "m m m, 0 0 1", "M m m, 0 0 1", "M M m, 0 0 1", "M M M, 0 0 1", "M M M, 0 0 1",
	})
}

// With each Fuse, of each Geo, whatever is lost: all that is answered.
func TestEachFuseOfAReplay(t *testing.T) {
	t.Parallel()
	next := drawn(283)
	for _, g := range rightGeos() {
		a, _ := filled(g, next)
		for i, c := range standingsAt(restless(a), g.S/2) {
			x := c.a
			x.Tail, x.Gen = next(1000), next(60000)
			x.Seq = x.Tail
			for k := range i % (impl.Slots + 1) {
				x = withRec(x, next(g.N), impl.Rec{Seq: x.Seq + k, Stripe: next(g.S), Data: dataFor(g, next)})
			}
			operations := operationsOf(stepsOfReplay(x))
			for _, fuse := range fusesFor(operations) {
				x.Fuse = fuse
				y := wantReplay(t, c.name, x)
				if y.Down != within(fuse, 0, operations-1) || fuse >= operations && y.Fuse != fuse-operations || fuse < operations && y.Fuse != -1 {
					t.Fatal(c.name, g, "Fuse", fuse, "of", operations, "is", y.Fuse, y.Down)
				}
			}
		}
	}
}

// How many operations there are, told by hand: of each disk that is there two
// for each record and three for Check, and one of each that is LiveAt.
func TestOperationsOfAReplay(t *testing.T) {
	for _, g := range rightGeos() {
		for recs := 0; recs <= impl.Slots; recs++ {
			a := wantNewArr(arrayId, g)
			for k := range recs {
				a = withRec(a, 2, impl.Rec{Seq: k, Stripe: g.S - 1, Data: upTo(g.N - 1)})
			}
			for name, c := range map[string]struct {
				a          impl.Arr
				operations int
			}{
				"none lost":     {a, 3*g.N*recs + 3*g.N},
				"one Failed":    {withLost(withFailed(a, 1), 1, g.S), 3*(g.N-1)*recs + 3*(g.N-1)},
				"one Lost":      {withLost(a, 1, g.S-1), (3*g.N-1)*recs + 3*g.N},
				"one built":     {withLost(a, 1, g.S), 3*g.N*recs + 3*g.N},
				"another built": {withLost(a, 2, g.S), 3*g.N*recs + 3*g.N},
			} {
				c.a.Fuse = c.operations - 1
				if x := impl.Replay(c.a); !x.Down || x.Fuse != -1 || x.Seq != recs || x.Tail != recs || x.Gen != 1 {
					t.Error(name, g, recs, "one less:", x.Fuse, x.Seq)
				}
				c.a.Fuse = c.operations
				if x := impl.Replay(c.a); x.Down || x.Fuse != 0 || x.Seq != recs {
					t.Error(name, g, recs, "just:", x.Fuse, x.Seq)
				}
			}
		}
	}
}

// A disk whose cache is full refuses the record, but not its word, which comes
// behind the flush.
func TestReplayWithAFullCache(t *testing.T) {
	for _, g := range rightGeos() {
		for m := range g.N {
			for _, waiting := range []int{mostWrs - 1, mostWrs} {
				a := withRec(wantNewArr(arrayId, g), (m+1)%g.N, impl.Rec{Seq: 0, Stripe: 0, Data: upTo(g.N - 1)})
				for i := range waiting {
					a = withWr(a, m, 5, i)
				}
				x := wantReplay(t, "a full cache", a)
				if (len(x.Mems[m].Secs[firstSlot]) == 0) != (waiting == mostWrs) || x.Seq != 1 {
					t.Fatal(g, m, waiting, x)
				}
				wantStripe(t, "a full cache", x, 0, wantHeld(g, 0, upTo(g.N-1)))
				wantSupers(t, "a full cache", x)
			}
		}
	}
}

// What is in memory stays as it is, also of a stripe that is replayed.
func TestReplayLeavesMemory(t *testing.T) {
	for _, g := range rightGeos() {
		a := withEnts(recordsFor(g, 0), stripesIn(1<<g.S-1, g.S)...)
		if x := wantReplay(t, "memory", a); !alike(x.Dirty, a.Dirty) || x.Seq != impl.Slots {
			t.Error(g, x)
		}
	}
}

func TestRecoverWithEachFuse(t *testing.T) {
	for _, g := range rightGeos() {
		a := recordsFor(g, 0)
		for fuse, want := range map[int]int{-2: -1, -1: -1, 0: -1, 1000: 1000 - 15*g.N, 1001: -1, 1002: -1, math.MinInt: -1, math.MaxInt: -1, 15 * g.N: 0, 15*g.N - 1: -1} {
			x, ok := wantRecover(t, "fuse", a.Mems, nil, arrayId, fuse)
			if !ok || x.Fuse != want || x.Down != within(fuse, 0, 15*g.N-1) || !x.Down && x.Seq != impl.Slots {
				t.Error(g, fuse, ok, x.Fuse, x.Down, x.Seq)
			}
		}
	}
}

// Where Replay is refused, Recover answers what Assemble does, with its Fuse.
func TestRecoverWhatIsNotReplayed(t *testing.T) {
	for _, g := range rightGeos() {
		a := recordsFor(g, 0)
		two := withoutSupers(withoutSupers(a, 0), 2)
		last := a
		for m := range g.N {
			last = withSuper(last, m, impl.Super{Id: arrayId, Gen: 60000, Role: m, N: g.N, S: g.S, Lost: -1})
		}
		for _, fuse := range []int{-2, -1, 0, 7, 1000, 1001} {
			want := fuse
			if !within(fuse, -1, 1000) {
				want = -1
			}
			x, ok := wantRecover(t, "Broken", two.Mems, nil, arrayId, fuse)
			if !ok || !x.Broken || x.Lost != 0 || x.Fuse != want || x.Seq != 0 || x.Gen != 0 || x.Down {
				t.Error("Broken", g, fuse, ok, x)
			}
			x, ok = wantRecover(t, "the last Gen", last.Mems, nil, arrayId, fuse)
			if !ok || x.Gen != 60000 || x.Fuse != want || x.Seq != 0 || x.Down {
				t.Error("the last Gen", g, fuse, ok, x)
			}
		}
	}
}

func TestRecoverWhereThereIsNoArray(t *testing.T) {
	for _, c := range slices.Concat(whichSuperCounts(), whoIsLost(), whatIsNoArray()) {
		x := c.change(fourDisks())
		for _, fuse := range []int{-2, -1, 0, 5, 1000, 1001} {
			wantRecover(t, c.name, x.Mems, nil, arrayId, fuse)
			a, ok := wantRecover(t, c.name, x.Mems, []int{mostKeep, 1, 2, mostKeep}, arrayId, fuse)
			if c.nothing && (ok || !alike(a, impl.Arr{})) {
				t.Error(c.name, a, ok)
			}
		}
		if a, ok := impl.Recover(x.Mems, nil, arrayId+1, -1); ok && c.name != "newer, but of another array" || ok && !a.Broken {
			t.Error(c.name, "another array", a, ok)
		}
	}
	for _, fuse := range []int{-2, -1, 0, 1000, 1001} {
		if a, ok := impl.Recover(nil, []int{1, 2, 3}, arrayId, fuse); ok || !alike(a, impl.Arr{}) {
			t.Error("no disk", a, ok)
		}
	}
}

// Whatever the disks hold, and whatever is kept of their caches.
func TestRecoverOfAnyDisks(t *testing.T) {
	t.Parallel()
	next, downs, broken, none := drawn(293), 0, 0, 0
	for range 8000 {
		g := rightGeos()[next(24)]
		a, _ := filled(g, next)
		for m := range a.Mems {
			if next(3) == 0 {
				a = anyDisk(a, m, next)
			}
			for range next(6) {
				a = anyRec(a, m, next(12), next)
			}
		}
		keeps := []int{}
		for range next(g.N + 2) {
			keeps = append(keeps, max(-1, next(1<<20+1<<18)-1<<17))
		}
		x, ok := wantRecover(t, "any", a.Mems, keeps, arrayId, max(-2, next(100)-50))
		switch {
		case !ok:
			none++
		case x.Down:
			downs++
		case x.Broken:
			broken++
		}
	}
	if downs < 500 || broken < 100 || none < 100 {
		t.Error("something seldom came:", downs, broken, none)
	}
}

// arrsToFall are right and wrong, with and without power, with records and
// without, their disks known or not.
func arrsToFall() []impl.Arr {
	l := append(cornerArrs(), wrongArrs()["0 Id 0"], wrongArrs()["3 one disk less"], wrongArrs()["1 a Wr at the end 1"], impl.Arr{})
	next := drawn(307)
	for _, g := range []impl.Geo{{N: 3, S: 1}, {N: 4, S: 3}, {N: 5, S: 8}} {
		a := recordsFor(g, 0)
		for i, c := range standingsAt(restless(a), 0) {
			x := c.a
			x.Fuse = []int{-1, 0, 5, 11, 17, 30, 60}[i%7]
			l = append(l, x, withoutSupers(x, next(g.N)), withoutSupers(withoutSupers(x, 0), 1))
		}
		l = append(l, arrsThatBroke(a)...)
	}
	return l
}

func TestFallsHoldApart(t *testing.T) {
	t.Parallel()
	for i, plainly := range arrsToFall() {
		a, mems := roomy(plainly), roomy(plainly.Mems)
		holdsApart(t, "PowerOff", []any{a}, func() []any { return []any{impl.PowerOff(a), impl.PowerOff(a)} })
		holdsApart(t, "Replay", []any{a}, func() []any { return []any{impl.Replay(a), impl.Replay(a)} })
		if !alike(impl.PowerOff(a), impl.PowerOff(plainly)) || !alike(impl.Replay(a), impl.Replay(plainly)) {
			t.Error("what lies behind was read", i, plainly)
		}
		for _, seq := range []int{-1, 0, 3, 4} {
			holdsApart(t, "FindRec", []any{a}, func() []any {
				r, _ := impl.FindRec(a, seq)
				q, _ := impl.FindRec(a, seq)
				return []any{r, q}
			})
			r, ok := impl.FindRec(a, seq)
			if q, there := impl.FindRec(plainly, seq); ok != there || !sameRec(r, q) {
				t.Error("FindRec: what lies behind was read", i, seq)
			}
		}
		for _, keeps := range [][]int{nil, {1}, {mostKeep, 2, 0, 1, mostKeep}} {
			wantFallsApart(t, mems, plainly.Mems, keeps, i)
		}
	}
}

func wantFallsApart(t *testing.T, mems, plainly []impl.Mem, keeps []int, i int) {
	t.Helper()
	roomed := roomy(keeps)
	holdsApart(t, "Fall", []any{mems, roomed}, func() []any { return []any{impl.Fall(mems, roomed), impl.Fall(mems, roomed)} })
	if !alike(impl.Fall(mems, roomed), impl.Fall(plainly, keeps)) {
		t.Error("Fall: what lies behind was read", i)
	}
	holdsApart(t, "Assemble", []any{mems}, func() []any {
		x, _ := impl.Assemble(mems, arrayId)
		y, _ := impl.Assemble(mems, arrayId)
		return []any{x, y}
	})
	x, ok := impl.Assemble(mems, arrayId)
	if y, there := impl.Assemble(plainly, arrayId); ok != there || !alike(x, y) {
		t.Error("Assemble: what lies behind was read", i)
	}
	for _, fuse := range []int{-1, 0, 7, 25} {
		holdsApart(t, "Recover", []any{mems, roomed}, func() []any {
			x, _ := impl.Recover(mems, roomed, arrayId, fuse)
			y, _ := impl.Recover(mems, roomed, arrayId, fuse)
			return []any{x, y}
		})
		x, ok := impl.Recover(mems, roomed, arrayId, fuse)
		if y, there := impl.Recover(plainly, keeps, arrayId, fuse); ok != there || !alike(x, y) {
			t.Error("Recover: what lies behind was read", i)
		}
	}
}

// What was answered stays as it was, whatever is done with it, and so does
// what was handed in.
func TestFallsTurnApart(t *testing.T) {
	a := recordsFor(impl.Geo{N: 3, S: 2}, 0)
	was := plain(a)
	off, replayed := impl.PowerOff(a), impl.Replay(a)
	assembled, _ := impl.Assemble(a.Mems, arrayId)
	recovered, _ := impl.Recover(a.Mems, nil, arrayId, -1)
	r, _ := impl.FindRec(a, 0)
	r.Data[0] = 9
	for i, mems := range [][]impl.Mem{off.Mems, replayed.Mems, assembled.Mems, recovered.Mems, impl.Fall(a.Mems, nil)} {
		for m := range mems {
			mems[m].Secs[0][0], mems[m].Secs[firstSlot][0], mems[m].Failed = 9, 9, true
		}
		if !alike(a, was) {
			t.Fatal("it turned", i, a)
		}
	}
	keeps := []int{1, 1, 1}
	x, _ := impl.Recover(a.Mems, keeps, arrayId, -1)
	then := plain(x)
	a.Mems[0].Secs[0][0], keeps[0] = 77, 78
	if !alike(x, then) {
		t.Error("it turned", x)
	}
}
