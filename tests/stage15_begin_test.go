package tests

import (
	"fmt"
	"math"
	"slices"
	"testing"

	"loop.example/g00398/impl"
)

// wantSubmitted is what the document says of a command that is submitted.
func wantSubmitted(e impl.Eng, c impl.Cmd) (impl.Eng, bool) {
	if !wantEngOk(e) || len(e.Wait) == mostWait {
		return e, false
	}
	return withWait(e, c), true
}

// wantCan is what the document says of a command that waits, reason by reason.
func wantCan(e impl.Eng, k int) bool {
	if !wantEngOk(e) || k < 0 || k >= len(e.Wait) {
		return false
	}
	taken := uint64(0)
	for _, j := range e.Jobs {
		taken |= blocksOfCmd(e.A.G, j.C)
	}
	for _, c := range e.Wait[:k] {
		taken |= blocksOfCmd(e.A.G, c)
	}
	if taken&blocksOfCmd(e.A.G, e.Wait[k]) != 0 {
		return false
	}
	return len(e.Jobs) < mostJobs && len(e.Done)+len(e.Jobs) < mostDone && len(e.Log)+len(e.Jobs) < mostLog
}

func wantBegun(e impl.Eng, k int) (impl.Eng, bool) {
	if !wantCan(e, k) {
		return e, false
	}
	c := e.Wait[k]
	e.Wait = slices.Concat(e.Wait[:k], e.Wait[k+1:])
	code := wantCmdCode(e.A.G, c)
	if code == impl.CoGood {
		return withBegun(e, c), true
	}
	ans := impl.Ans{Id: c.Id, Code: code}
	e.Done = slices.Concat(e.Done, []impl.Ans{ans})
	e.Log = slices.Concat(e.Log, []impl.Turn{{C: c, A: ans}})
	return e, true
}

// wantSubmit asks what Submit does, with junk behind the lists or not.
func wantSubmit(t *testing.T, name string, e impl.Eng, c impl.Cmd) (impl.Eng, bool) {
	t.Helper()
	want, ok := wantSubmitted(e, c)
	for _, room := range []bool{false, true} {
		on, asked := e, c
		if room {
			on, asked = roomy(e), roomy(c)
		}
		if x, is := impl.Submit(on, asked); is != ok || !alike(x, want) {
			t.Fatal(name, e, c, "answered", x, is, "not", want, ok)
		}
	}
	if ok && !impl.EngOk(want) {
		t.Fatal(name, e, c, "is not EngOk behind it")
	}
	return want, ok
}

// wantBegin asks what CanBegin and Begin do, with junk behind the lists or not.
func wantBegin(t *testing.T, name string, e impl.Eng, k int) (impl.Eng, bool) {
	t.Helper()
	want, ok := wantBegun(e, k)
	for _, on := range []impl.Eng{e, roomy(e)} {
		if impl.CanBegin(on, k) != ok {
			t.Fatal(name, on, k, "CanBegin is not", ok)
		}
		if x, is := impl.Begin(on, k); is != ok || !alike(x, want) {
			t.Fatal(name, on, k, "answered", x, is, "not", want, ok)
		}
	}
	if ok && !impl.EngOk(want) {
		t.Fatal(name, e, k, "is not EngOk behind it")
	}
	return want, ok
}

// placesOf answers each place that waits, and those beside and far off.
func placesOf(e impl.Eng) []int {
	l := append([]int{-1, -2, -len(e.Wait), len(e.Wait) + 1, mostWait, mostWait + 1, 256, 65536}, far()...)
	for k := range len(e.Wait) + 1 {
		l = append(l, k)
	}
	return l
}

// wantCans asks of all that waits which can begin, as it is written out, and
// that nothing else can.
func wantCans(t *testing.T, name string, e impl.Eng, cans ...bool) {
	t.Helper()
	if len(cans) != len(e.Wait) {
		t.Fatal("the tests are wrong:", name, len(e.Wait))
	}
	for _, k := range placesOf(e) {
		can := within(k, 0, len(cans)-1) && cans[k]
		if _, ok := wantBegin(t, name, e, k); ok != can {
			t.Error(name, k, "can begin:", ok)
		}
	}
}

// wantNoneCan asks that nothing can begin, whatever the place.
func wantNoneCan(t *testing.T, name string, e impl.Eng) {
	t.Helper()
	wantCans(t, name, e, make([]bool, len(e.Wait))...)
}

func TestSubmit(t *testing.T) {
	t.Parallel()
	for i, corner := range cornerEngs() {
		for n := range mostWait + 1 {
			e := corner
			e.Wait = anyWaiting()[:n:n]
			for _, c := range append(cornerCmds(), cmdOf(impl.OpRead, 1, 0, 1), cmdOf(impl.OpFlush, 1, 0, 0), impl.Cmd{}) {
				if x, ok := wantSubmit(t, fmt.Sprint(i), e, c); ok != (n < 8) || len(x.Wait) != min(n+1, 8) {
					t.Error(i, n, c, x.Wait, ok)
				}
			}
		}
	}
}

// What is submitted waits as it was handed in, whatever it is.
func TestSubmitOfEachCmd(t *testing.T) {
	t.Parallel()
	for _, g := range []impl.Geo{{N: 3, S: 1}, {N: 4, S: 3}} {
		busy := withDone(withBegun(withWait(engOf(g), cmdOf(impl.OpZero, 2, 0, 1)), cmdOf(impl.OpFlush, 3, 0, 0)), 2)
		for _, c := range slices.Concat(rightCmds(g), cmdsAlmostRight(g), cornerCmds(), wrongCmds()) {
			for _, e := range []impl.Eng{engOf(g), busy} {
				x, ok := wantSubmit(t, "each", e, c)
				if n := len(x.Wait); !ok || !alike(x.Wait[n-1], c) {
					t.Fatal(g, c, x)
				}
			}
		}
	}
}

func TestSubmitToWrongEngs(t *testing.T) {
	t.Parallel()
	for name, e := range wrongEngs() {
		if x, ok := impl.Submit(e, cmdOf(impl.OpRead, 1, 0, 1)); ok || !alike(x, e) {
			t.Fatal(name, e, x, ok)
		}
	}
}

// Nothing waits: nothing can begin.
func TestCanBeginOfNone(t *testing.T) {
	for i, e := range cornerEngs() {
		e.Wait = nil
		wantNoneCan(t, fmt.Sprint(i), e)
		e.Wait = []impl.Cmd{cmdOf(impl.OpRead, 1, 0, 1)}[:0]
		wantNoneCan(t, fmt.Sprint(i, " behind the length"), e)
	}
}

// What clashes, with whom, and where that stands, written out.
func TestCanBegin(t *testing.T) {
	read := func(lba, n int) impl.Cmd { return cmdOf(impl.OpRead, 1+lba, lba, n) }
	write := func(lba, n int) impl.Cmd { return cmdOf(impl.OpWrite, 100+lba, lba, n) }
	flush, bad, far := cmdOf(impl.OpFlush, 7, 0, 0), impl.Cmd{Op: 9, Id: 4}, read(9, 1)
	e := engOf(impl.Geo{N: 4, S: 3})
	for i, c := range []struct {
		jobs, wait []impl.Cmd
		cans       []bool
	}{
		{nil, []impl.Cmd{read(0, 1)}, []bool{true}},
		{nil, []impl.Cmd{read(0, 3), read(3, 3), read(6, 3)}, []bool{true, true, true}},
		// Two reads of one block clash as well.
		{nil, []impl.Cmd{read(0, 3), read(2, 3), read(4, 3)}, []bool{true, false, false}},
		// What clashes with one behind alone can begin.
		{nil, []impl.Cmd{write(0, 1), write(3, 2), read(0, 6)}, []bool{true, true, false}},
		{nil, []impl.Cmd{read(0, 6), write(0, 1), write(3, 2)}, []bool{true, false, false}},
		// It clashes with one that cannot begin itself.
		{[]impl.Cmd{write(0, 1)}, []impl.Cmd{read(0, 2), read(1, 1), read(2, 1)}, []bool{false, false, true}},
		{[]impl.Cmd{write(0, 1)}, []impl.Cmd{read(2, 1), read(0, 2), read(1, 1)}, []bool{true, false, false}},
		{[]impl.Cmd{write(0, 1)}, []impl.Cmd{read(2, 1), read(1, 1), read(0, 2)}, []bool{true, true, false}},
		{[]impl.Cmd{write(2, 2), write(6, 2)}, []impl.Cmd{read(2, 1), read(3, 1), read(4, 1), read(5, 1), read(6, 1), read(7, 1), read(8, 1), read(1, 1)}, []bool{false, false, true, true, false, false, true, true}},
		{[]impl.Cmd{write(6, 2), write(2, 2)}, []impl.Cmd{read(0, 2), read(0, 3), read(5, 2), read(5, 1), read(7, 2), read(8, 1)}, []bool{true, false, false, false, false, false}},
		// A flush has all blocks, ahead and behind.
		{nil, []impl.Cmd{flush}, []bool{true}},
		{nil, []impl.Cmd{flush, read(0, 1), read(8, 1), flush}, []bool{true, false, false, false}},
		{nil, []impl.Cmd{read(0, 1), flush, read(8, 1)}, []bool{true, false, false}},
		{nil, []impl.Cmd{read(8, 1), flush}, []bool{true, false}},
		{[]impl.Cmd{flush}, []impl.Cmd{read(0, 1), read(8, 1), flush, bad}, []bool{false, false, false, true}},
		{[]impl.Cmd{read(4, 1)}, []impl.Cmd{flush, read(0, 1)}, []bool{false, false}},
		{[]impl.Cmd{read(4, 1)}, []impl.Cmd{read(0, 1), flush}, []bool{true, false}},
		// What CmdCode refuses has no block: it is in the way of none, and none of it.
		{nil, []impl.Cmd{bad}, []bool{true}},
		{nil, []impl.Cmd{bad, bad, far, far}, []bool{true, true, true, true}},
		{nil, []impl.Cmd{bad, flush, bad, flush}, []bool{true, true, true, false}},
		{nil, []impl.Cmd{read(8, 2), read(8, 1), write(8, 2), write(8, 1)}, []bool{true, true, true, false}},
		{[]impl.Cmd{read(0, 6), read(6, 3)}, []impl.Cmd{read(0, 7), read(0, 0), read(-1, 2), read(0, 1), {}}, []bool{true, true, true, false, true}},
		{[]impl.Cmd{flush}, []impl.Cmd{{Op: impl.OpFlush}, {Op: impl.OpFlush, Id: 1000}, {Op: impl.OpFlush, Id: 999}}, []bool{true, true, false}},
	} {
		wantCans(t, fmt.Sprint(i), withWait(withBegun(e, c.jobs...), c.wait...), c.cans...)
	}
}

// Of what is asked for behind the first there is one way in which it cannot
// begin, and all others can.
func TestCanBeginWhereverTheOtherStands(t *testing.T) {
	g := impl.Geo{N: 5, S: 2}
	for n := 1; n <= mostWait; n++ {
		for k := range n {
			wait := []impl.Cmd{}
			for lba := range n {
				wait = append(wait, cmdOf(impl.OpCompare, 1+lba, lba, 1))
			}
			cans := slices.Repeat([]bool{true}, n)
			wantCans(t, "apart", withWait(engOf(g), wait...), cans...)
			for other := range n {
				same := slices.Clone(wait)
				same[other] = cmdOf(impl.OpZero, 9, k, 1)
				now := slices.Clone(cans)
				now[max(k, other)] = k == other
				wantCans(t, fmt.Sprint(k, " is as ", other), withWait(engOf(g), same...), now...)
			}
			for job := range min(mostJobs-1, 3) {
				jobs := []impl.Cmd{}
				for i := range job {
					jobs = append(jobs, cmdOf(impl.OpRead, 50+i, n+i, 1))
				}
				if n+job > blocksIn(g) {
					continue
				}
				now := slices.Clone(cans)
				now[k] = false
				e := withWait(withBegun(engOf(g), append(jobs, cmdOf(impl.OpFua, 9, k, 1))...), wait...)
				wantCans(t, fmt.Sprint(k, " is as the Job ", job), e, now...)
			}
		}
	}
}

// Each two commands, one ahead of the other, or a Job.
func TestCanBeginOfEachTwo(t *testing.T) {
	t.Parallel()
	for _, g := range []impl.Geo{{N: 3, S: 1}, {N: 3, S: 2}} {
		all := append(rightCmds(g), cmdsForLengths(g)...)
		for _, a := range all {
			for _, b := range all {
				apart := blocksOfCmd(g, a)&blocksOfCmd(g, b) == 0
				e := withWait(engOf(g), a, b)
				if !impl.CanBegin(e, 0) || impl.CanBegin(e, 1) != apart {
					t.Fatal(g, a, b, "not", apart)
				}
				if wantCmdCode(g, a) != impl.CoGood {
					continue
				}
				if e := withWait(withBegun(engOf(g), a), b); impl.CanBegin(e, 0) != apart {
					t.Fatal("the Job", g, a, b, "not", apart)
				}
			}
		}
	}
}

// roomsToBegin answers engines of nothing but so many Jobs, Done and Turns, and
// whether there is room for one more.
func roomsToBegin(ask func(name string, e impl.Eng, room bool)) {
	for jobs := range mostJobs + 1 {
		e := withJobs(engOf(impl.Geo{N: 4, S: 3}), fourApart()[:jobs]...)
		for done := range mostDone + 1 {
			for _, log := range []int{0, 1, 8, 394, 395, 396, 397, 398, 399, 400} {
				room := jobs < 4 && done+jobs < 8 && log+jobs < 400
				ask(fmt.Sprint(jobs, " Jobs, ", done, " Done, ", log, " of Log"), withLog(withDone(e, done), log), room)
			}
		}
	}
}

// What is refused needs as much room as what is not.
func TestCanBeginWhereThereIsRoom(t *testing.T) {
	t.Parallel()
	for _, c := range []impl.Cmd{cmdOf(impl.OpRead, 5, 8, 1), {Op: impl.OpRead, Id: 5}} {
		roomsToBegin(func(name string, e impl.Eng, room bool) {
			if impl.CanBegin(withWait(e, c), 0) != room {
				t.Error(name, c, "not", room)
			}
			x, ok := impl.Begin(withWait(e, c), 0)
			want, _ := wantBegun(withWait(e, c), 0)
			if ok != room || !alike(x, want) {
				t.Error(name, c, "answered", x.Jobs, ok, "not", want.Jobs, room)
			}
		})
	}
}

// Each of the three limits at its edge, alone.
func TestCanBeginAtEachLimit(t *testing.T) {
	e, jobs := withWait(engOf(impl.Geo{N: 4, S: 3}), cmdOf(impl.OpZero, 5, 8, 1)), fourApart()
	for i, c := range []struct {
		jobs, done, log int
		can             bool
	}{
		{0, 0, 0, true}, {3, 0, 0, true}, {4, 0, 0, false},
		{0, 7, 0, true}, {0, 8, 0, false},
		{1, 6, 0, true}, {1, 7, 0, false}, {1, 8, 0, false},
		{2, 5, 0, true}, {2, 6, 0, false}, {3, 4, 0, true}, {3, 5, 0, false},
		{4, 3, 0, false}, {4, 4, 0, false}, {4, 8, 0, false},
		{0, 0, 399, true}, {0, 0, 400, false},
		{1, 0, 398, true}, {1, 0, 399, false}, {1, 0, 400, false},
		{3, 0, 396, true}, {3, 0, 397, false}, {3, 4, 396, true}, {3, 5, 396, false}, {3, 4, 397, false},
		{0, 7, 399, true}, {0, 8, 399, false}, {0, 7, 400, false},
	} {
		wantCans(t, fmt.Sprint(i), withLog(withDone(withJobs(e, jobs[:c.jobs]...), c.done), c.log), c.can)
	}
}

func TestCanBeginOfWrongEngs(t *testing.T) {
	t.Parallel()
	for name, e := range wrongEngs() {
		if len(e.Wait) < mostWait {
			e = withWait(e, impl.Cmd{}, impl.Cmd{Op: impl.OpFlush, Id: 1})
		}
		for k := -1; k <= 2; k++ {
			if impl.CanBegin(e, k) {
				t.Fatal(name, e, k)
			}
		}
		if x, ok := impl.Begin(e, 0); ok || !alike(x, e) {
			t.Fatal(name, e, x, ok)
		}
	}
}

// Each right command of each Geo is a Job with nothing done of it, as it was
// handed in.
func TestBeginOfRightCmds(t *testing.T) {
	t.Parallel()
	for _, g := range rightGeos() {
		for _, c := range rightCmds(g) {
			c.N = max(c.N, 1)
			x, ok := impl.Begin(withWait(engOf(g), c), 0)
			if !ok || !alike(x, withJobs(engOf(g), impl.Job{C: c})) || !impl.EngOk(x) {
				t.Fatal(g, c, x, ok)
			}
		}
	}
}

// What CmdCode refuses is answered so at once: no Job, and last of Done and Log.
func TestBeginOfWhatIsRefused(t *testing.T) {
	t.Parallel()
	codes := seen{}
	for _, g := range geosOfCmds() {
		for i, c := range cmdsAlmostRight(g) {
			e := withLog(withDone(withWait(engOf(g), c), i%8), i%17)
			if i%2 == 0 {
				e = withBegun(e, cmdOf(impl.OpFlush, 5, 0, 0))
			}
			x, ok := wantBegin(t, "refused", e, 0)
			if ok != (len(e.Jobs)+len(e.Done) < 8) {
				t.Fatal(g, c, ok)
			}
			if !ok {
				continue
			}
			done, turn := x.Done[len(x.Done)-1], x.Log[len(x.Log)-1]
			codes[[2]int{c.Op, done.Code}]++
			if done.Id != c.Id || len(done.Vals) != 0 || !alike(turn, impl.Turn{C: c, A: done}) || done.Code != impl.CmdCode(g, c) {
				t.Fatal(g, c, done, turn)
			}
			if len(x.Wait) != 0 || len(x.Jobs) != len(e.Jobs) || len(x.Done) != len(e.Done)+1 || len(x.Log) != len(e.Log)+1 {
				t.Fatal(g, c, x)
			}
		}
	}
	for _, op := range allOps() {
		for _, code := range []int{impl.CoForm, impl.CoSize, impl.CoRange} {
			if op != impl.OpFlush && codes[[2]int{op, code}] < 10 || codes[[2]int{op, impl.CoForm}] < 10 {
				t.Error("few of", op, code)
			}
		}
	}
}

// The codes of what is refused, written out.
func TestBeginAnswersAtOnce(t *testing.T) {
	for i, c := range []struct {
		c   impl.Cmd
		ans impl.Ans
	}{
		{impl.Cmd{}, impl.Ans{Code: impl.CoForm}},
		{impl.Cmd{Op: 9, Id: 4, Vals: upTo(3)}, impl.Ans{Id: 4, Code: impl.CoForm}},
		{impl.Cmd{Op: impl.OpRead, Id: 1000, N: 1}, impl.Ans{Id: 1000, Code: impl.CoForm}},
		{impl.Cmd{Op: impl.OpRead, Id: -8, N: 1}, impl.Ans{Id: -8, Code: impl.CoForm}},
		{impl.Cmd{Op: impl.OpFlush, Id: math.MinInt}, impl.Ans{Id: math.MinInt, Code: impl.CoForm}},
		{impl.Cmd{Op: impl.OpRead, Id: 5, N: 7, Vals: upTo(2)}, impl.Ans{Id: 5, Code: impl.CoSize}},
		{impl.Cmd{Op: impl.OpFua, Id: 6, Vals: []int{1, 65536}}, impl.Ans{Id: 6, Code: impl.CoSize}},
		{impl.Cmd{Op: impl.OpCompare, Id: 7, Vals: upTo(3)}, impl.Ans{Id: 7, Code: impl.CoSize}},
		{impl.Cmd{Op: impl.OpZero, Id: 8, Lba: 8, N: 2}, impl.Ans{Id: 8, Code: impl.CoRange}},
		{impl.Cmd{Op: impl.OpWrite, Id: 9, Lba: -1, Vals: upTo(2)}, impl.Ans{Id: 9, Code: impl.CoRange}},
	} {
		e := engOf(impl.Geo{N: 4, S: 3})
		x, ok := impl.Begin(withWait(e, c.c), 0)
		e.Done, e.Log = []impl.Ans{c.ans}, []impl.Turn{{C: c.c, A: c.ans}}
		if !ok || !alike(x, e) {
			t.Error(i, x, ok)
		}
	}
}

// Whichever begins, the others wait as they did, in their order.
func TestBeginOfEachPlace(t *testing.T) {
	for _, e := range []impl.Eng{engOf(impl.Geo{N: 5, S: 3}), withLog(withDone(withBegun(engOf(impl.Geo{N: 5, S: 3}), cmdOf(impl.OpRead, 60, 9, 3)), 3), 7)} {
		for n := 1; n <= mostWait; n++ {
			for refused := -1; refused < n; refused++ {
				wait := []impl.Cmd{}
				for lba := range n {
					wait = append(wait, impl.Cmd{Op: impl.OpWrite, Id: 1 + lba, Lba: lba, N: -3, Vals: []int{65535 - lba}})
				}
				if refused >= 0 {
					wait[refused] = impl.Cmd{Op: impl.OpCompare, Id: 77, Lba: 2, Vals: upTo(1)}
				}
				full := withWait(e, wait...)
				wantCans(t, "each", full, slices.Repeat([]bool{true}, n)...)
				for k := range n {
					x, _ := impl.Begin(full, k)
					if !alike(x.Wait, slices.Concat(wait[:k], wait[k+1:])) || !alike(x.A, e.A) {
						t.Error(n, k, x.Wait)
					}
					if k == refused {
						if len(x.Jobs) != len(e.Jobs) || !alike(x.Done, append(slices.Clone(e.Done), impl.Ans{Id: 77, Code: impl.CoSize})) {
							t.Error(n, k, x.Jobs, x.Done)
						}
					} else if !alike(x.Jobs, append(slices.Clone(e.Jobs), impl.Job{C: wait[k]})) || len(x.Done) != len(e.Done) || len(x.Log) != len(e.Log) {
						t.Error(n, k, x.Jobs, x.Done)
					}
				}
			}
		}
	}
}

// How the array stands is not asked: what is Down or Broken, or has lost a
// disk, begins all the same.
func TestBeginHoweverTheArrStands(t *testing.T) {
	t.Parallel()
	for i, a := range rightArrs() {
		if i%11 != 0 && !a.Down && (!a.Broken || i%2 == 0) {
			continue
		}
		e := withWait(impl.Eng{A: a}, cmdOf(impl.OpZero, 1, 0, 1), cmdOf(impl.OpCompare, 2, 1, 1), impl.Cmd{Op: impl.OpRead, Id: 3})
		wantCans(t, fmt.Sprint(i), e, true, true, true)
	}
}

func TestAllOfCornerEngs(t *testing.T) {
	for i, e := range cornerEngs() {
		for _, k := range placesOf(e) {
			wantBegin(t, fmt.Sprint(i), e, k)
		}
		wantSubmit(t, fmt.Sprint(i), e, cmdOf(impl.OpRead, 1, 0, 1))
	}
}

// Whatever the engine is, what is answered is what the document says.
func TestBeginOfAnyEng(t *testing.T) {
	t.Parallel()
	type end struct {
		jobs, more int
		ok         bool
	}
	next, came, submitted := drawn(821), map[end]int{}, map[bool]int{}
	for range 1500 {
		e := anyEng(next)
		_, ok := wantSubmit(t, "any", e, anyCmd(blocksIn(e.A.G), next))
		submitted[ok]++
		for k := range len(e.Wait) {
			x, ok := wantBegin(t, "any", e, k)
			came[end{len(e.Jobs), len(x.Jobs) - len(e.Jobs), ok}]++
		}
		wantBegin(t, "any", e, []int{-1, len(e.Wait), 8, math.MaxInt, math.MinInt}[next(5)])
	}
	for jobs := range mostJobs {
		for _, x := range []end{{jobs, 1, true}, {jobs, 0, true}, {jobs, 0, false}} {
			if came[x] < 20 {
				t.Error("seldom:", x, came)
			}
		}
	}
	if submitted[true] < 200 || submitted[false] < 200 {
		t.Error("seldom:", submitted)
	}
}
