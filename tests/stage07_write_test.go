package tests

import (
	"fmt"
	"math"
	"slices"
	"strings"
	"testing"

	"loop.example/g00398/impl"
)

const (
	fullFrom  = 59990
	firstSlot = 2
)

// A step is one thing that a call does by the document's words: a disk
// operation, or a number of the array that turns.
type step struct {
	operation bool
	do        func(*impl.Arr)
}

func number(do func(*impl.Arr)) []step { return []step{{false, do}} }

func stepOfWrite(m, n int, words func(impl.Arr) []int) step {
	return step{true, func(a *impl.Arr) {
		if x := &a.Mems[m]; len(x.Cache) < mostWrs {
			x.Cache = append(x.Cache, impl.Wr{N: n, S: words(*a)})
			x.Bad = slices.DeleteFunc(x.Bad, func(bad int) bool { return bad == n })
		}
	}}
}

func stepOfFlush(m int) step {
	return step{true, func(a *impl.Arr) {
		for _, w := range a.Mems[m].Cache {
			a.Mems[m].Secs[w.N] = w.S
		}
		a.Mems[m].Cache = nil
	}}
}

// stepsOfDisks answers one step of each disk that is not Failed, the disk 0
// first.
func stepsOfDisks(a impl.Arr, stepAt func(m int) step) []step {
	l := []step{}
	for m := 0; m < a.G.N; m++ {
		if !a.Mems[m].Failed {
			l = append(l, stepAt(m))
		}
	}
	return l
}

func stepsOfSync(a impl.Arr) []step { return stepsOfDisks(a, stepOfFlush) }

func stepsOfMark(a impl.Arr, gen int) []step {
	supers := stepsOfDisks(a, func(m int) step {
		return stepOfWrite(m, gen%2, func(a impl.Arr) []int {
			return wantSuperWords(impl.Super{Id: a.Id, Gen: gen, Role: m, N: a.G.N, S: a.G.S, Tail: a.Tail, Lost: a.Lost, Built: a.Built})
		})
	})
	return slices.Concat(number(func(a *impl.Arr) { a.Gen = gen }), supers, stepsOfSync(a))
}

func stepsOfCheck(a impl.Arr) []step {
	return slices.Concat(stepsOfSync(a), number(func(a *impl.Arr) { a.Tail = a.Seq }), stepsOfMark(a, a.Gen+1))
}

// stepsOfJournal has the record in its slot of each disk, and flushed.
func stepsOfJournal(a impl.Arr, r impl.Rec) []step {
	words := wantRecWords(r)
	writes := stepsOfDisks(a, func(m int) step {
		return stepOfWrite(m, firstSlot+r.Seq%impl.Slots, func(impl.Arr) []int { return words })
	})
	return append(writes, stepsOfSync(a)...)
}

func stepsOfWords(a impl.Arr, s int, data []int) []step {
	l := []step{}
	for m, w := range wantHeld(a.G, s, data) {
		if wantLive(a, m, s) {
			l = append(l, stepOfWrite(m, firstStripe+s, func(impl.Arr) []int { return []int{w} }))
		}
	}
	return l
}

func stepsOfSeq() []step { return number(func(a *impl.Arr) { a.Seq++ }) }

func stepsOfStripe(a impl.Arr, s int, data []int) []step {
	l := []step{}
	if a.Seq-a.Tail == impl.Slots {
		l = stepsOfCheck(a)
	}
	journal := stepsOfJournal(a, impl.Rec{Seq: a.Seq, Stripe: s, Data: data})
	return slices.Concat(l, journal, stepsOfSeq(), stepsOfWords(a, s, data))
}

// wantHeld answers what each disk is to hold of a stripe that has these words.
func wantHeld(g impl.Geo, s int, data []int) []int {
	words, first := make([]int, g.N), s*(g.N-1)
	for m, block := range laidOut(g)[s] {
		if block >= 0 {
			words[m] = data[block-first]
			continue
		}
		for _, w := range data {
			words[m] ^= w
		}
	}
	return words
}

func operationsOf(steps []step) int {
	n := 0
	for _, s := range steps {
		if s.operation {
			n++
		}
	}
	return n
}

// played answers a behind these steps, or where the power goes between them.
func played(a impl.Arr, steps []step) impl.Arr {
	a = plain(a)
	for _, s := range steps {
		if s.operation && a.Fuse == 0 {
			a.Down, a.Fuse = true, -1
			return a
		}
		if s.operation && a.Fuse > 0 {
			a.Fuse--
		}
		s.do(&a)
	}
	return a
}

// wantCode is WriteStripe's code by the document's words, but for the power.
func wantCode(a impl.Arr, s int, data []int) int {
	wrong := func(n int) bool { return !within(n, 0, 65535) }
	switch {
	case !wantArrOk(a), len(data) != a.G.N-1, slices.ContainsFunc(data, wrong):
		return impl.CoForm
	case a.Down:
		return impl.CoDown
	case !within(s, 0, a.G.S-1):
		return impl.CoRange
	case a.Broken:
		return impl.CoIo
	case a.Seq == mostOfAnArr, a.Gen >= fullFrom:
		return impl.CoFull
	}
	return impl.CoGood
}

func wantWritten(a impl.Arr, s int, data []int) (impl.Arr, int) {
	if code := wantCode(a, s, data); code != impl.CoGood {
		return a, code
	}
	out := played(a, stepsOfStripe(a, s, data))
	if out.Down {
		return out, impl.CoDown
	}
	return out, impl.CoGood
}

// A turning is one of the calls that turn the disks by themselves, with what
// the document says of it.
type turning struct {
	name    string
	call    func(impl.Arr) impl.Arr
	refuses func(impl.Arr) bool
	steps   func(impl.Arr) []step
}

func turnings() []turning {
	off := func(a impl.Arr) bool { return !wantArrOk(a) || a.Down }
	offOrFull := func(a impl.Arr) bool { return off(a) || a.Gen == mostOfAnArr }
	return []turning{
		{"Sync", impl.Sync, off, stepsOfSync},
		{"Mark", impl.Mark, offOrFull, func(a impl.Arr) []step { return stepsOfMark(a, a.Gen+1) }},
		{"Check", impl.Check, offOrFull, stepsOfCheck},
	}
}

func (c turning) want(a impl.Arr) impl.Arr {
	if c.refuses(a) {
		return a
	}
	return played(a, c.steps(a))
}

// wantTurned asks each of these calls for what the document says.
func wantTurned(t *testing.T, name string, a impl.Arr) {
	t.Helper()
	for _, c := range turnings() {
		if x, want := c.call(a), c.want(a); !alike(x, want) {
			t.Fatal(name, c.name, "\nof", a, "\nis", x, "\nnot", want)
		}
	}
}

func wantWrite(t *testing.T, name string, a impl.Arr, s int, data []int) impl.Arr {
	t.Helper()
	x, code := impl.WriteStripe(a, s, data)
	if want, wantedCode := wantWritten(a, s, data); code != wantedCode || !alike(x, want) {
		t.Fatal(name, "stripe", s, data, "\nof", a, "\nis", code, x, "\nnot", wantedCode, want)
	}
	return x
}

// wantRefused asks that a write is refused with this code, and turns nothing.
func wantRefused(t *testing.T, name string, a impl.Arr, s int, data []int, code int) {
	t.Helper()
	if x, c := impl.WriteStripe(a, s, data); c != code || !alike(x, a) {
		t.Error(name, "stripe", s, data, "code", c, "not", code, "of", a, "is", x)
	}
}

// restless has something in each disk's cache, so that each flush shows, and
// something in memory, which no call of this chapter turns.
func restless(a impl.Arr) impl.Arr {
	for m := range a.Mems {
		a = withWr(a, m, 1, m+1, 4321)
	}
	a.Dirty = []impl.Ent{{Stripe: a.G.S - 1, Data: upTo(a.G.N - 1)}}
	return a
}

// A standing is how the disks of an array stand.
type standing struct {
	name string
	a    impl.Arr
}

// standingsAt answers a with none lost, and with each disk Lost in each way
// that counts for the stripe s.
func standingsAt(a impl.Arr, s int) []standing {
	l := []standing{{"none lost", a}}
	for m := range a.G.N {
		put := func(name string, x impl.Arr) { l = append(l, standing{fmt.Sprint("disk ", m, " ", name), x}) }
		gone := withFailed(a, m)
		put("Failed", withLost(gone, m, 0))
		put("Failed, built past it", withLost(gone, m, s+1))
		put("not yet built", withLost(a, m, 0))
		put("built up to it", withLost(a, m, s))
		put("built past it", withLost(a, m, s+1))
		put("all built", withLost(a, m, a.G.S))
	}
	return l
}

func dataFor(g impl.Geo, next func(int) int) []int {
	data := make([]int, g.N-1)
	for i := range data {
		data[i] = next(65536)
	}
	return data
}

// flushed has nothing in its caches, but what was there in its sectors.
func flushed(a impl.Arr) impl.Arr {
	a = plain(a)
	for m := range a.Mems {
		stepOfFlush(m).do(&a)
	}
	return a
}

func TestCodes(t *testing.T) {
	codes := []int{impl.CoGood, impl.CoForm, impl.CoRange, impl.CoSize, impl.CoMiss, impl.CoIo, impl.CoDown, impl.CoFull}
	if !slices.Equal(codes, []int{0, 1, 2, 3, 4, 5, 6, 7}) {
		t.Error(codes)
	}
}

// The promise itself: what is written is there, and no other stripe turns,
// whatever is lost, and wherever the parity is.
func TestWrittenStripeIsThere(t *testing.T) {
	next := drawn(71)
	for _, g := range rightGeos() {
		a, held := filled(g, next)
		for s := range g.S {
			for _, c := range standingsAt(restless(a), s) {
				data := dataFor(g, next)
				x, code := impl.WriteStripe(c.a, s, data)
				if code != impl.CoGood || !impl.ArrOk(x) {
					t.Fatal(c.name, g, s, code, x)
				}
				if l, ok := impl.DataOf(x, s); !ok || !slices.Equal(l, data) {
					t.Fatal(c.name, g, s, "DataOf:", l, ok, "not", data)
				}
				for other := range g.S {
					want := held[other]
					if other == s {
						want = wantHeld(g, s, data)
					}
					wantStripe(t, c.name, x, other, want)
					wantStripe(t, c.name+", flushed", flushed(x), other, want)
				}
			}
		}
	}
}

// The record is in its slot of each disk that is not Failed, and flushed; the
// word alone is in the cache, of each disk that is LiveAt.
func TestRecordIsAheadOfTheWords(t *testing.T) {
	next := drawn(73)
	for _, g := range rightGeos() {
		a, _ := filled(g, next)
		for s := range g.S {
			a.Tail = next(60000 - impl.Slots)
			a.Seq = a.Tail + next(impl.Slots)
			for _, c := range standingsAt(restless(a), s) {
				data := dataFor(g, next)
				x, code := impl.WriteStripe(c.a, s, data)
				if code != impl.CoGood || x.Seq != a.Seq+1 || x.Tail != a.Tail || x.Gen != a.Gen {
					t.Fatal(c.name, g, s, code, x)
				}
				for m := range g.N {
					wantRecAndWord(t, c.name, c.a, x, m, impl.Rec{Seq: a.Seq, Stripe: s, Data: data})
				}
			}
		}
	}
}

func wantRecAndWord(t *testing.T, name string, was, is impl.Arr, m int, r impl.Rec) {
	t.Helper()
	mem, at := is.Mems[m], firstStripe+r.Stripe
	if was.Mems[m].Failed {
		if !alike(mem, was.Mems[m]) {
			t.Fatal(name, "it Failed, but turned:", mem)
		}
		return
	}
	if !slices.Equal(mem.Secs[firstSlot+r.Seq%impl.Slots], wantRecWords(r)) {
		t.Fatal(name, "disk", m, "has no record", r, mem)
	}
	want := []impl.Wr{{N: at, S: []int{wantHeld(was.G, r.Stripe, r.Data)[m]}}}
	if !wantLive(was, m, r.Stripe) {
		want = nil
	}
	if !alike(mem.Cache, want) {
		t.Fatal(name, "disk", m, "cache", mem.Cache, "not", want)
	}
	if before := flushed(was).Mems[m].Secs[at]; !slices.Equal(mem.Secs[at], before) {
		t.Fatal(name, "disk", m, "the word went past the cache", mem, before)
	}
}

// tracks tells of each disk what a write of the record and the word has left
// on it: r the record in the cache, R in its slot, w the word in the cache, m
// the Super in the cache, M in its sector, j what was in the cache, J in its
// sector. A disk that Failed is x, one that has nothing is -.
func tracks(a impl.Arr, rec, super, at int) string {
	marks := []struct {
		n     int
		first int
		mark  string
	}{{5, 4321, "j"}, {super, firstOfASuper, "m"}, {rec, firstOfARec, "r"}, {at, 0, "w"}}
	disks := []string{}
	for _, m := range a.Mems {
		text := ""
		for _, k := range marks {
			if len(m.Secs[k.n]) > 0 && m.Secs[k.n][0] == k.first && k.mark != "w" {
				text += strings.ToUpper(k.mark)
			}
			for _, w := range m.Cache {
				if w.N == k.n {
					text += k.mark
				}
			}
		}
		if m.Failed {
			text = "x"
		}
		if text == "" {
			text = "-"
		}
		disks = append(disks, text)
	}
	return strings.Join(disks, " ")
}

// wantTracks asks a call with each Fuse from 0 on for what it leaves.
func wantTracks(t *testing.T, name string, a impl.Arr, call func(impl.Arr) (impl.Arr, string), rows []string) {
	t.Helper()
	for fuse, row := range rows {
		a.Fuse = fuse
		x, text := call(a)
		if text != row {
			t.Error(name, "Fuse", fuse, "leaves", text, "not", row)
		}
		left := fuse - (len(rows) - 2)
		if left < 0 && (!x.Down || x.Fuse != -1) || left >= 0 && (x.Down || x.Fuse != left) {
			t.Error(name, "Fuse", fuse, "is", x.Fuse, x.Down)
		}
	}
}

// Disk by disk, the disk 0 first, whichever has the parity.
func TestPowerGoesInAWrite(t *testing.T) {
	a := wantNewArr(arrayId, impl.Geo{N: 3, S: 3})
	for s := range 3 {
		write := func(a impl.Arr) (impl.Arr, string) {
			x, code := impl.WriteStripe(a, s, []int{5, 6})
			return x, fmt.Sprint(tracks(x, 2, 1, firstStripe+s), ", ", x.Seq, code)
		}
		wantTracks(t, "none lost", a, write, []string{
			"- - -, 0 6", "r - -, 0 6", "r r -, 0 6", "r r r, 0 6",
			"R r r, 0 6", "R R r, 0 6", "R R R, 1 6",
			"Rw R R, 1 6", "Rw Rw R, 1 6", "Rw Rw Rw, 1 0", "Rw Rw Rw, 1 0",
		})
		wantTracks(t, "the first Failed", withLost(withFailed(a, 0), 0, 3), write, []string{
			"x - -, 0 6", "x r -, 0 6", "x r r, 0 6", "x R r, 0 6", "x R R, 1 6",
			"x Rw R, 1 6", "x Rw Rw, 1 0", "x Rw Rw, 1 0",
		})
		wantTracks(t, "the second Lost", withLost(a, 1, s), write, []string{
			"- - -, 0 6", "r - -, 0 6", "r r -, 0 6", "r r r, 0 6",
			"R r r, 0 6", "R R r, 0 6", "R R R, 1 6",
			"Rw R R, 1 6", "Rw R Rw, 1 0", "Rw R Rw, 1 0",
		})
		wantTracks(t, "the last built past it", withLost(a, 2, s+1), write, []string{
			"- - -, 0 6", "r - -, 0 6", "r r -, 0 6", "r r r, 0 6",
			"R r r, 0 6", "R R r, 0 6", "R R R, 1 6",
			"Rw R R, 1 6", "Rw Rw R, 1 6", "Rw Rw Rw, 1 0", "Rw Rw Rw, 1 0",
		})
	}
}

// Where there are Slots records, all of Check is ahead of the record.
func TestPowerGoesInACheckAheadOfAWrite(t *testing.T) {
	a := wantNewArr(arrayId, impl.Geo{N: 3, S: 2})
	a.Tail, a.Seq = 4, 8
	for m := range a.Mems {
		a = withWr(a, m, 5, 4321)
	}
	write := func(a impl.Arr) (impl.Arr, string) {
		x, code := impl.WriteStripe(a, 1, []int{5, 6})
		return x, fmt.Sprint(tracks(x, 2, 1, firstStripe+1), ", ", x.Tail, x.Gen, x.Seq, code)
	}
	wantTracks(t, "none lost", a, write, []string{
		"j j j, 4 0 8 6", "J j j, 4 0 8 6", "J J j, 4 0 8 6",
		"J J J, 8 1 8 6", "Jm J J, 8 1 8 6", "Jm Jm J, 8 1 8 6", "Jm Jm Jm, 8 1 8 6",
		"JM Jm Jm, 8 1 8 6", "JM JM Jm, 8 1 8 6", "JM JM JM, 8 1 8 6",
		"JMr JM JM, 8 1 8 6", "JMr JMr JM, 8 1 8 6", "JMr JMr JMr, 8 1 8 6",
		"JMR JMr JMr, 8 1 8 6", "JMR JMR JMr, 8 1 8 6", "JMR JMR JMR, 8 1 9 6",
		"JMRw JMR JMR, 8 1 9 6", "JMRw JMRw JMR, 8 1 9 6", "JMRw JMRw JMRw, 8 1 9 0", "JMRw JMRw JMRw, 8 1 9 0",
	})
	wantTracks(t, "the second Failed", withLost(withFailed(a, 1), 1, 0), write, []string{
		"j x j, 4 0 8 6", "J x j, 4 0 8 6", "J x J, 8 1 8 6", "Jm x J, 8 1 8 6", "Jm x Jm, 8 1 8 6",
		"JM x Jm, 8 1 8 6", "JM x JM, 8 1 8 6", "JMr x JM, 8 1 8 6", "JMr x JMr, 8 1 8 6",
		"JMR x JMr, 8 1 8 6", "JMR x JMR, 8 1 9 6", "JMRw x JMR, 8 1 9 6", "JMRw x JMRw, 8 1 9 0", "JMRw x JMRw, 8 1 9 0",
	})
}

func TestPowerGoesInSyncMarkAndCheck(t *testing.T) {
	a := wantNewArr(arrayId, impl.Geo{N: 3, S: 2})
	a.Tail, a.Seq = 4, 6
	for m := range a.Mems {
		a = withWr(a, m, 5, 4321)
	}
	leaves := func(call func(impl.Arr) impl.Arr) func(impl.Arr) (impl.Arr, string) {
		return func(a impl.Arr) (impl.Arr, string) {
			x := call(a)
			return x, fmt.Sprint(tracks(x, 2, 1, firstStripe), ", ", x.Tail, x.Gen, x.Seq)
		}
	}
	wantTracks(t, "Sync", a, leaves(impl.Sync), []string{
		"j j j, 4 0 6", "J j j, 4 0 6", "J J j, 4 0 6", "J J J, 4 0 6", "J J J, 4 0 6",
	})
	wantTracks(t, "Mark", a, leaves(impl.Mark), []string{
		"j j j, 4 1 6", "jm j j, 4 1 6", "jm jm j, 4 1 6", "jm jm jm, 4 1 6",
		"JM jm jm, 4 1 6", "JM JM jm, 4 1 6", "JM JM JM, 4 1 6", "JM JM JM, 4 1 6",
	})
	wantTracks(t, "Check", a, leaves(impl.Check), []string{
		"j j j, 4 0 6", "J j j, 4 0 6", "J J j, 4 0 6", "J J J, 6 1 6",
		"Jm J J, 6 1 6", "Jm Jm J, 6 1 6", "Jm Jm Jm, 6 1 6",
		"JM Jm Jm, 6 1 6", "JM JM Jm, 6 1 6", "JM JM JM, 6 1 6", "JM JM JM, 6 1 6",
	})
	gone := withLost(withFailed(a, 2), 2, 1)
	wantTracks(t, "Sync, one Failed", gone, leaves(impl.Sync), []string{
		"j j x, 4 0 6", "J j x, 4 0 6", "J J x, 4 0 6", "J J x, 4 0 6",
	})
	wantTracks(t, "Mark, one Failed", gone, leaves(impl.Mark), []string{
		"j j x, 4 1 6", "jm j x, 4 1 6", "jm jm x, 4 1 6", "JM jm x, 4 1 6", "JM JM x, 4 1 6", "JM JM x, 4 1 6",
	})
}

// fusesFor answers -1, each Fuse up to one more than there are operations, and
// the greatest.
func fusesFor(operations int) []int {
	l := []int{-1}
	for fuse := 0; fuse <= operations+1; fuse++ {
		l = append(l, fuse)
	}
	return append(l, mostFuse)
}

// With each Fuse, of each Geo, whatever is lost: all that is answered.
func TestEachFuseOfAWrite(t *testing.T) {
	next := drawn(79)
	for _, g := range rightGeos() {
		a, _ := filled(g, next)
		for _, s := range []int{0, g.S / 2, g.S - 1} {
			for i, c := range standingsAt(restless(a), s) {
				x, data := c.a, dataFor(g, next)
				x.Tail, x.Gen = next(1000), next(fullFrom)
				x.Seq = x.Tail + (i+s)%(impl.Slots+1)
				operations := operationsOf(stepsOfStripe(x, s, data))
				for _, fuse := range fusesFor(operations) {
					x.Fuse = fuse
					y := wantWrite(t, c.name, x, s, data)
					if y.Down != within(fuse, 0, operations-1) || fuse >= operations && y.Fuse != fuse-operations || fuse < operations && y.Fuse != -1 {
						t.Fatal(c.name, g, s, "Fuse", fuse, "of", operations, "is", y.Fuse, y.Down)
					}
				}
			}
		}
	}
}

// How many operations there are, told by hand: each disk that is there is
// written and flushed, and by Check flushed, written and flushed before.
func TestOperationsOfAWrite(t *testing.T) {
	for _, g := range rightGeos() {
		for s := range g.S {
			for _, recs := range []int{0, impl.Slots - 1, impl.Slots} {
				a := wantNewArr(arrayId, g)
				a.Seq = recs
				check := 0
				if recs == impl.Slots {
					check = 3
				}
				for name, c := range map[string]struct {
					a          impl.Arr
					operations int
				}{
					"none lost":     {a, g.N*(2+check) + g.N},
					"one Failed":    {withLost(withFailed(a, 1), 1, s+1), (g.N-1)*(2+check) + g.N - 1},
					"one Lost":      {withLost(a, 1, s), g.N*(2+check) + g.N - 1},
					"one built":     {withLost(a, 1, s+1), g.N*(2+check) + g.N},
					"another built": {withLost(a, g.N-1, g.S), g.N*(2+check) + g.N},
				} {
					c.a.Fuse = c.operations - 1
					if x, code := impl.WriteStripe(c.a, s, upTo(g.N-1)); code != impl.CoDown || !x.Down || x.Fuse != -1 || x.Seq != recs+1 {
						t.Error(name, g, s, recs, "one less:", code, x.Fuse)
					}
					c.a.Fuse = c.operations
					if x, code := impl.WriteStripe(c.a, s, upTo(g.N-1)); code != impl.CoGood || x.Down || x.Fuse != 0 || x.Seq != recs+1 {
						t.Error(name, g, s, recs, "just:", code, x.Fuse)
					}
				}
			}
		}
	}
}

func TestEachFuseOfSyncMarkAndCheck(t *testing.T) {
	next := drawn(83)
	for _, g := range rightGeos() {
		a, _ := filled(g, next)
		a.Tail, a.Seq = 9, 9+g.S%(impl.Slots+1)
		standings := standingsAt(restless(a), g.S/2)
		for _, x := range arrsThatBroke(restless(a)) {
			standings = append(standings, standing{"Broken", x})
		}
		for _, c := range standings {
			c.a.Gen = next(mostOfAnArr)
			for _, fuse := range fusesFor(operationsOf(stepsOfCheck(c.a))) {
				c.a.Fuse = fuse
				wantTurned(t, c.name, c.a)
			}
		}
	}
}

// Wherever the power goes, and whatever of the caches is kept, no other stripe
// turns, and of this one each disk has the word that was, or is to be; that
// one only where the record is on all disks.
func TestPowerTurnsNoOtherStripe(t *testing.T) {
	next := drawn(89)
	for _, g := range rightGeos() {
		a, held := filled(g, next)
		a = flushed(a)
		for s := range g.S {
			for _, c := range standingsAt(a, s) {
				x, data := c.a, dataFor(g, next)
				x.Seq = next(impl.Slots + 1)
				for _, fuse := range fusesFor(operationsOf(stepsOfStripe(x, s, data))) {
					x.Fuse = fuse
					y, _ := impl.WriteStripe(x, s, data)
					wantOldOrNew(t, c.name, x, y, held, impl.Rec{Seq: x.Seq, Stripe: s, Data: data})
				}
			}
		}
	}
}

func wantOldOrNew(t *testing.T, name string, was, is impl.Arr, held [][]int, r impl.Rec) {
	t.Helper()
	words := wantHeld(was.G, r.Stripe, r.Data)
	for _, keep := range []int{0, 1, 2, 1<<20 - 1} {
		x := plain(is)
		for m := range x.Mems {
			x.Mems[m] = impl.FallMem(is.Mems[m], keep)
		}
		for s := range was.G.S {
			if s != r.Stripe {
				wantStripe(t, name, x, s, held[s])
			}
		}
		for m, mem := range x.Mems {
			w := mem.Secs[firstStripe+r.Stripe][0]
			if w != words[m] && w != held[r.Stripe][m] {
				t.Fatal(name, "disk", m, "has", w)
			}
			if w != held[r.Stripe][m] && !recordOnAll(is, r) {
				t.Fatal(name, "disk", m, "has its word ahead of the record")
			}
		}
	}
	if (is.Seq == was.Seq+1) != recordOnAll(is, r) {
		t.Fatal(name, "Seq", is.Seq, "of", was.Seq)
	}
}

func recordOnAll(a impl.Arr, r impl.Rec) bool {
	for _, m := range a.Mems {
		if !m.Failed && !slices.Equal(m.Secs[firstSlot+r.Seq%impl.Slots], wantRecWords(r)) {
			return false
		}
	}
	return true
}

// With no record, and with as many as there can be: Check comes first where
// there is no slot left.
func TestSlotsThatAreFull(t *testing.T) {
	next := drawn(97)
	for _, g := range rightGeos() {
		a, _ := filled(g, next)
		for _, c := range standingsAt(restless(a), 0) {
			for _, tail := range []int{0, 1, 2, 3, 59990} {
				for recs := 0; recs <= impl.Slots; recs++ {
					c.a.Tail, c.a.Seq, c.a.Gen = tail, tail+recs, 5+tail%2
					x := wantWrite(t, c.name, c.a, g.S-1, upTo(g.N-1))
					wantTail, wantGen := tail, c.a.Gen
					if recs == impl.Slots {
						wantTail, wantGen = tail+recs, c.a.Gen+1
					}
					if x.Tail != wantTail || x.Gen != wantGen || x.Seq != tail+recs+1 {
						t.Fatal(c.name, g, tail, recs, x)
					}
					if recs == impl.Slots {
						wantSupers(t, c.name, x)
					}
				}
			}
		}
	}
}

// wantSupers asks for a's Super on each disk that is not Failed, flushed.
func wantSupers(t *testing.T, name string, a impl.Arr) {
	t.Helper()
	for m, mem := range a.Mems {
		want := impl.Super{Id: a.Id, Gen: a.Gen, Role: m, N: a.G.N, S: a.G.S, Tail: a.Tail, Lost: a.Lost, Built: a.Built}
		if s, ok := impl.BestSuper(impl.FallMem(mem, 0), a.Id); !mem.Failed && (!ok || s != want) {
			t.Fatal(name, "disk", m, "has", s, ok, "not", want)
		}
	}
}

func TestMarkAndCheckWriteSupers(t *testing.T) {
	for _, g := range rightGeos() {
		for _, c := range standingsAt(restless(wantNewArr(mostOfAnArr, g)), g.S-1) {
			c.a.Tail, c.a.Seq, c.a.Gen = 7, 9, 40+g.S
			marked, checked := impl.Mark(c.a), impl.Check(c.a)
			if marked.Gen != 41+g.S || marked.Tail != 7 || marked.Seq != 9 || checked.Gen != 41+g.S || checked.Tail != 9 || checked.Seq != 9 {
				t.Fatal(c.name, marked, checked)
			}
			wantSupers(t, c.name, marked)
			wantSupers(t, c.name, checked)
			for _, x := range []impl.Arr{marked, checked, impl.Sync(c.a)} {
				for m, mem := range x.Mems {
					if (len(mem.Cache) != 0) != mem.Failed {
						t.Fatal(c.name, "disk", m, mem)
					}
				}
			}
		}
	}
}

// As many stripes one behind the other as there are Gens and slots for.
func TestManyWrites(t *testing.T) {
	next := drawn(101)
	for _, g := range []impl.Geo{{N: 3, S: 1}, {N: 4, S: 8}, {N: 5, S: 5}} {
		a, held := filled(g, next)
		for i := range 200 {
			s, data := next(g.S), dataFor(g, next)
			a = wantWrite(t, "many", a, s, data)
			held[s] = wantHeld(g, s, data)
			if a.Seq != i+1 || a.Gen != i/impl.Slots || a.Tail != i/impl.Slots*impl.Slots {
				t.Fatal(g, i, a.Seq, a.Gen, a.Tail)
			}
			for s := range g.S {
				wantStripe(t, "many", a, s, held[s])
			}
		}
	}
}

// Whatever is done one behind the other, up to where the power goes.
func TestAnyCallsBehindEachOther(t *testing.T) {
	next, downs := drawn(103), 0
	for range 3000 {
		g := rightGeos()[next(24)]
		a, held := filled(g, next)
		a.Fuse = max(-1, next(400)-200)
		a.Tail, a.Gen = next(59999), next(59999)
		a.Seq = a.Tail + next(2)
		if m := next(g.N + 1); m < g.N {
			a = standingsAt(a, next(g.S))[1+6*m+next(6)].a
		}
		for range 6 {
			c := turnings()[next(3)]
			x := c.call(a)
			if want := c.want(a); !alike(x, want) || !impl.ArrOk(x) {
				t.Fatal(c.name, a, x, want)
			}
			s, data := next(g.S), dataFor(g, next)
			a = wantWrite(t, "any", x, s, data)
			if a.Seq == x.Seq+1 && !a.Down {
				held[s] = wantHeld(g, s, data)
			}
		}
		if a.Down {
			downs++
			continue
		}
		for s := range g.S {
			wantStripe(t, "any", a, s, held[s])
		}
	}
	if !within(downs, 500, 2500) {
		t.Error("the power seldom went, or seldom stayed:", downs)
	}
}

func TestWriteAtTheEndsOfGenAndSeq(t *testing.T) {
	for _, g := range rightGeos() {
		a, _ := filled(g, drawn(107))
		data := upTo(g.N - 1)
		for _, c := range []struct{ tail, seq, gen, code, wantTail, wantGen int }{
			{0, 0, 59988, impl.CoGood, 0, 59988},
			{0, 0, 59989, impl.CoGood, 0, 59989},
			{0, 0, 59990, impl.CoFull, 0, 59990},
			{0, 0, 59991, impl.CoFull, 0, 59991},
			{0, 0, 59999, impl.CoFull, 0, 59999},
			{0, 0, 60000, impl.CoFull, 0, 60000},
			{0, 4, 59989, impl.CoGood, 4, 59990},
			{0, 4, 59990, impl.CoFull, 0, 59990},
			{0, 4, 60000, impl.CoFull, 0, 60000},
			{59998, 59998, 3, impl.CoGood, 59998, 3},
			{59999, 59999, 3, impl.CoGood, 59999, 3},
			{59996, 59999, 3, impl.CoGood, 59996, 3},
			{59995, 59999, 3, impl.CoGood, 59999, 4},
			{60000, 60000, 3, impl.CoFull, 60000, 3},
			{59996, 60000, 3, impl.CoFull, 59996, 3},
			{59995, 59999, 59989, impl.CoGood, 59999, 59990},
			{59999, 59999, 59990, impl.CoFull, 59999, 59990},
		} {
			a.Tail, a.Seq, a.Gen = c.tail, c.seq, c.gen
			x := wantWrite(t, "ends", a, g.S-1, data)
			_, code := impl.WriteStripe(a, g.S-1, data)
			if code != c.code || x.Tail != c.wantTail || x.Gen != c.wantGen || (x.Seq == c.seq+1) != (c.code == impl.CoGood) {
				t.Error(g, c, code, x.Tail, x.Gen, x.Seq)
			}
			if code != impl.CoGood && !alike(x, a) {
				t.Error("it turned", g, c)
			}
		}
	}
}

func TestMarkAndCheckAtTheEndsOfGen(t *testing.T) {
	for _, g := range rightGeos() {
		a := restless(wantNewArr(arrayId, g))
		for _, gen := range []int{0, 1, 59988, 59989, 59990, 59998, 59999} {
			for _, seq := range []int{0, 4} {
				a.Gen, a.Seq = gen, seq
				wantTurned(t, "ends", a)
				if x, y := impl.Mark(a), impl.Check(a); x.Gen != gen+1 || y.Gen != gen+1 || x.Tail != 0 || y.Tail != seq {
					t.Error(g, gen, x, y)
				}
			}
		}
		a.Gen = 60000
		if x, y := impl.Mark(a), impl.Check(a); !alike(x, a) || !alike(y, a) {
			t.Error("past the last Gen", x, y)
		}
		if x := impl.Sync(a); len(x.Mems[0].Cache) != 0 {
			t.Error("Sync hangs on Gen", x)
		}
		a.Seq, a.Tail = 60000, 60000
		wantTurned(t, "the last Seq", a)
		a.Gen = 59999
		wantTurned(t, "the last Seq", a)
	}
}

func TestStripesThatAreNotThere(t *testing.T) {
	for _, g := range rightGeos() {
		a := wantNewArr(arrayId, g)
		data := upTo(g.N - 1)
		for _, s := range []int{0, g.S - 1} {
			if _, code := impl.WriteStripe(a, s, data); code != impl.CoGood {
				t.Error(g, s, code)
			}
		}
		for _, s := range outside(g.S) {
			for _, recs := range []int{0, impl.Slots} {
				a.Seq = recs
				wantRefused(t, "no such stripe", a, s, data, impl.CoRange)
			}
		}
	}
}

func TestDataThatIsWrong(t *testing.T) {
	for _, g := range rightGeos() {
		a := wantNewArr(arrayId, g)
		for n := range impl.MaxSec + 3 {
			data := upTo(n)
			if n == g.N-1 {
				wantWrite(t, "so many words", a, 0, data)
				continue
			}
			wantRefused(t, "so many words", a, 0, data, impl.CoForm)
			wantRefused(t, "so many words, with room", a, 0, roomy(data), impl.CoForm)
		}
		wantRefused(t, "nil", a, 0, nil, impl.CoForm)
		wantRefused(t, "the last is behind the length", a, 0, upTo(g.N - 1)[:g.N-2], impl.CoForm)
		for at := range g.N - 1 {
			for _, w := range []int{0, 1, 65534, 65535} {
				data := upTo(g.N - 1)
				data[at] = w
				x := wantWrite(t, "a word", a, 0, data)
				if l, ok := impl.DataOf(x, 0); !ok || !slices.Equal(l, data) {
					t.Error(g, data, l, ok)
				}
			}
			for _, w := range wrongWords() {
				data := upTo(g.N - 1)
				data[at] = w
				wantRefused(t, "no word", a, 0, data, impl.CoForm)
			}
		}
		wrong := append(upTo(g.N-1), -1)
		wantWrite(t, "no word behind the length", a, 0, wrong[:g.N-1])
	}
}

// A disk whose cache is full refuses what is written: it is not there, but an
// operation all the same.
func TestCacheThatIsFull(t *testing.T) {
	for _, g := range rightGeos() {
		for m := range g.N {
			for _, waiting := range []int{mostWrs - 1, mostWrs} {
				// All of them are of a sector that the calls do not write.
				a := wantNewArr(arrayId, g)
				for i := range waiting {
					a = withWr(a, m, 5, i)
				}
				wantFullCache(t, a, m, waiting == mostWrs)
			}
		}
	}
}

func wantFullCache(t *testing.T, a impl.Arr, m int, full bool) {
	t.Helper()
	s, data := a.G.S-1, upTo(a.G.N-1)
	operations := 3 * a.G.N
	for _, fuse := range fusesFor(operations) {
		a.Fuse = fuse
		wantTurned(t, "a full cache", a)
		x := wantWrite(t, "a full cache", a, s, data)
		if x.Down != within(fuse, 0, operations-1) {
			t.Fatal("what is refused is no operation", a.G, m, fuse)
		}
	}
	a.Fuse = -1
	x, code := impl.WriteStripe(a, s, data)
	if code != impl.CoGood || (len(x.Mems[m].Secs[firstSlot]) == 0) != full || len(x.Mems[m].Cache) != 1 {
		t.Fatal("a full cache", code, x)
	}
	wantStripe(t, "a full cache", x, s, wantHeld(a.G, s, data))
	marked := impl.Mark(a)
	if (len(marked.Mems[m].Secs[1]) == 0) != full || marked.Gen != 1 || len(marked.Mems[m].Cache) != 0 {
		t.Fatal("Mark with a full cache", marked)
	}
	// What Check flushes first makes room for its Super.
	wantSupers(t, "Check with a full cache", impl.Check(a))
	a.Seq = impl.Slots
	x = wantWrite(t, "a full cache, and Check first", a, s, data)
	wantSupers(t, "a full cache, and Check first", x)
	if !recordOnAll(x, impl.Rec{Seq: impl.Slots, Stripe: s, Data: data}) {
		t.Fatal("a full cache, and Check first", x)
	}
}

// What cannot be read can be written, and is not Bad any more.
func TestWriteOverBadSectors(t *testing.T) {
	for _, g := range rightGeos() {
		for s := range g.S {
			a, held := filled(g, drawn(109))
			for m := range g.N {
				for n := range firstStripe + g.S {
					if n < firstStripe || n == firstStripe+s {
						a = withBad(a, m, n)
					}
				}
			}
			for _, c := range standingsAt(a, s) {
				for _, recs := range []int{0, impl.Slots} {
					c.a.Seq = recs
					wantTurned(t, "Bad", c.a)
					x := wantWrite(t, "Bad", c.a, s, upTo(g.N-1))
					wantStripe(t, "Bad", x, s, wantHeld(g, s, upTo(g.N-1)))
					for other := range g.S {
						if other != s {
							wantStripe(t, "Bad", x, other, held[other])
						}
					}
				}
			}
		}
	}
}

// What is Broken is synced, marked and checked, but no stripe of it written.
func TestCallsOfWhatBroke(t *testing.T) {
	for _, g := range rightGeos() {
		a, _ := filled(g, drawn(113))
		for _, x := range arrsThatBroke(restless(a)) {
			for _, seq := range []int{0, impl.Slots} {
				for _, fuse := range []int{-1, 0, 3} {
					x.Seq, x.Fuse = seq, fuse
					wantTurned(t, "Broken", x)
					wantRefused(t, "Broken", x, 0, upTo(g.N-1), impl.CoIo)
				}
			}
		}
		// Where all Failed there is no operation that the power could go in.
		all := arrsThatBroke(restless(a))
		none := all[len(all)-1]
		none.Fuse = 0
		if x := impl.Check(none); x.Down || x.Fuse != 0 || x.Gen != 1 || !alike(x.Mems, none.Mems) {
			t.Error("all Failed", x)
		}
	}
}

func TestCallsWithoutPower(t *testing.T) {
	for _, g := range rightGeos() {
		a, _ := filled(g, drawn(127))
		for _, c := range standingsAt(restless(a), 0) {
			c.a.Down = true
			for _, fuse := range []int{-1, 0, 1, mostFuse} {
				c.a.Fuse = fuse
				for _, call := range turnings() {
					if x := call.call(c.a); !alike(x, c.a) {
						t.Error(call.name, "without power", x)
					}
				}
				wantRefused(t, c.name, c.a, 0, upTo(g.N-1), impl.CoDown)
			}
		}
	}
}

func TestCallsOfWrongArrs(t *testing.T) {
	for name, a := range wrongArrs() {
		datas := [][]int{nil, upTo(2), upTo(3), upTo(4)}
		for _, x := range []impl.Arr{a, roomy(a)} {
			for _, c := range turnings() {
				if y := c.call(x); !alike(y, a) {
					t.Error(c.name, name, y)
				}
			}
			for _, data := range datas {
				if y, code := impl.WriteStripe(x, 0, data); code != impl.CoForm || !alike(y, a) {
					t.Error(name, code, y)
				}
			}
		}
	}
	for _, s := range []int{-1, 0, 1, math.MinInt, math.MaxInt} {
		wantRefused(t, "the zero one", impl.Arr{}, s, nil, impl.CoForm)
		wantRefused(t, "the zero one", impl.Arr{}, s, upTo(2), impl.CoForm)
	}
}

// Of several reasons the first counts, whatever comes behind it.
func TestWhichCodeCounts(t *testing.T) {
	reasons := []struct {
		code   int
		change func(a *impl.Arr, s *int, data *[]int)
	}{
		{impl.CoForm, func(a *impl.Arr, s *int, data *[]int) { a.Fuse = -2 }},
		{impl.CoForm, func(a *impl.Arr, s *int, data *[]int) { *data = upTo(a.G.N) }},
		{impl.CoForm, func(a *impl.Arr, s *int, data *[]int) { (*data)[0] = 65536 }},
		{impl.CoDown, func(a *impl.Arr, s *int, data *[]int) { a.Down = true }},
		{impl.CoRange, func(a *impl.Arr, s *int, data *[]int) { *s = a.G.S }},
		{impl.CoIo, func(a *impl.Arr, s *int, data *[]int) { a.Broken = true }},
		{impl.CoFull, func(a *impl.Arr, s *int, data *[]int) { a.Seq, a.Tail = 60000, 59996 }},
		{impl.CoFull, func(a *impl.Arr, s *int, data *[]int) { a.Gen = 59990 }},
	}
	for _, g := range rightGeos() {
		for some := 1; some < 1<<len(reasons); some++ {
			a, s, data, want := wantNewArr(arrayId, g), 0, upTo(g.N-1), impl.CoGood
			a.Fuse = some % 2
			for i, r := range reasons {
				if some>>i&1 == 0 {
					continue
				}
				r.change(&a, &s, &data)
				if want == impl.CoGood {
					want = r.code
				}
			}
			wantRefused(t, fmt.Sprintf("%b", some), a, s, data, want)
		}
	}
}

// arrsToHoldApart are right and wrong, with and without power, with slots left
// and without.
func arrsToHoldApart() []impl.Arr {
	l := append(cornerArrs(), wrongArrs()["0 Id 0"], wrongArrs()["3 one disk less"], impl.Arr{})
	next := drawn(131)
	for _, g := range []impl.Geo{{N: 3, S: 1}, {N: 4, S: 3}, {N: 5, S: 8}} {
		a, _ := filled(g, next)
		for _, c := range standingsAt(restless(a), 0) {
			for _, recs := range []int{0, impl.Slots} {
				c.a.Seq = recs
				for _, fuse := range []int{-1, 0, 4, 9, 15, 25} {
					c.a.Fuse = fuse
					l = append(l, c.a)
				}
			}
		}
	}
	return l
}

func TestWritesHoldApart(t *testing.T) {
	for _, plainly := range arrsToHoldApart() {
		a, data := roomy(plainly), roomy(upTo(max(plainly.G.N-1, 0)))
		for _, c := range turnings() {
			holdsApart(t, c.name, []any{a}, func() []any { return []any{c.call(a), c.call(a)} })
			if !alike(c.call(a), c.call(plainly)) {
				t.Error(c.name, "what lies behind was read", plainly)
			}
		}
		for _, s := range []int{-1, 0, a.G.S - 1, a.G.S} {
			holdsApart(t, "WriteStripe", []any{a, data}, func() []any {
				x, _ := impl.WriteStripe(a, s, data)
				y, _ := impl.WriteStripe(a, s, data)
				return []any{x, y}
			})
			x, code := impl.WriteStripe(a, s, data)
			if y, plainCode := impl.WriteStripe(plainly, s, slices.Clip(upTo(len(data)))); code != plainCode || !alike(x, y) {
				t.Error("what lies behind was read", s, plainly)
			}
		}
		holdsApart(t, "WriteStripe", []any{a, data}, func() []any {
			x, _ := impl.WriteStripe(a, 0, data[:0])
			return []any{x}
		})
	}
}

// What was answered stays as it was, whatever is done with it, and so does
// what was handed in.
func TestWritesTurnApart(t *testing.T) {
	a, data := impl.ArrNew(arrayId, impl.Geo{N: 3, S: 2}), []int{5, 6}
	x, _ := impl.WriteStripe(a, 1, data)
	was := plain(x)
	y, _ := impl.WriteStripe(x, 1, []int{7, 8})
	z, _ := impl.WriteStripe(x, 1, []int{9, 10})
	data[0], a.Mems[0].Secs[0][0] = 77, 78
	for i, w := range []struct {
		a    impl.Arr
		data []int
	}{{x, []int{5, 6}}, {y, []int{7, 8}}, {z, []int{9, 10}}} {
		if l, ok := impl.DataOf(w.a, 1); !ok || !slices.Equal(l, w.data) {
			t.Error(i, l, ok)
		}
	}
	y.Mems[0].Cache[0].S[0], y.Mems[1].Secs[2][4] = 79, 80
	if !alike(x, was) || len(a.Mems[0].Cache) != 0 || a.Seq != 0 {
		t.Error("it turned", a, x)
	}
}
