package tests

import (
	"fmt"
	"math"
	"slices"
	"testing"

	"loop.example/g00398/impl"
)

// wantEnd asks that the k-th Job is answered so, and is no Job any more, and
// answers the engine behind it.
func wantEnd(t *testing.T, name string, e impl.Eng, k int, ans impl.Ans) impl.Eng {
	t.Helper()
	x, ok := wantWork(t, name, e, k)
	if !ok || !alike(x.Jobs, slices.Concat(e.Jobs[:k], e.Jobs[k+1:])) {
		t.Fatal(name, k, "Jobs", x.Jobs, ok)
	}
	if !alike(x.Done, append(slices.Clone(e.Done), ans)) || !alike(x.Log, append(slices.Clone(e.Log), impl.Turn{C: e.Jobs[k].C, A: ans})) {
		t.Fatal(name, k, "answered", x.Done, "not", ans)
	}
	return x
}

// wantStep asks that the k-th Job is a Job still, with At one more.
func wantStep(t *testing.T, name string, e impl.Eng, k int) impl.Eng {
	t.Helper()
	x, ok := wantWork(t, name, e, k)
	if !ok || len(x.Jobs) != len(e.Jobs) || x.Jobs[k].At != e.Jobs[k].At+1 || x.Jobs[k].Code != impl.CoGood {
		t.Fatal(name, k, "Jobs", x.Jobs, ok)
	}
	if !alike(x.Done, e.Done) || !alike(x.Log, e.Log) {
		t.Fatal(name, k, "was answered", x.Done)
	}
	return x
}

// oneOfEach answers a command of each Op, none of which goes wrong on tens.
func oneOfEach() []impl.Cmd {
	return []impl.Cmd{
		{Op: impl.OpRead, Id: 1, Lba: 2, N: 3},
		{Op: impl.OpWrite, Id: 2, Lba: 2, Vals: upTo(3)},
		{Op: impl.OpFua, Id: 3, Lba: 2, Vals: upTo(3)},
		{Op: impl.OpFlush, Id: 4},
		{Op: impl.OpCompare, Id: 5, Lba: 2, Vals: []int{12, 9}},
		{Op: impl.OpZero, Id: 999, Lba: 2, N: 3},
	}
}

// The time behind the last part it is answered, not ahead of it, and so
// whatever At is from there on: no part is done then.
func TestWorkAboutTheLastPart(t *testing.T) {
	e := tens(impl.Geo{N: 4, S: 3})
	e.A.Dirty = []impl.Ent{entAt(1, 70, 71, 72)}
	for i, c := range oneOfEach() {
		steps := []int{4, 4, 6, 4, 2, 4}[i]
		job := func(at int) impl.Eng { return withJobs(e, impl.Job{C: c, At: at, Got: upTo(2)}) }
		ans := impl.Ans{Id: c.Id}
		if c.Op == impl.OpRead {
			ans.Vals = upTo(2)
		}
		x := wantStep(t, "less 2", job(steps-2), 0)
		if c.Op == impl.OpRead {
			if !slices.Equal(x.Jobs[0].Got, append(upTo(2), 71)) {
				t.Error("the last word", x.Jobs)
			}
		} else if alike(x.A, e.A) != (c.Op == impl.OpFlush) || !slices.Equal(x.Jobs[0].Got, upTo(2)) {
			t.Error("the last part of", c, "did", x.A)
		}
		for at := steps - 1; at <= mostAt; at++ {
			if x := wantEnd(t, fmt.Sprint("At ", at), job(at), 0, ans); !alike(x.A, e.A) {
				t.Error(c, at, "did", x.A)
			}
		}
	}
}

// Each right command at each At, also where what was done by then was not.
func TestWorkAtEachAt(t *testing.T) {
	t.Parallel()
	for _, g := range []impl.Geo{{N: 3, S: 1}, {N: 3, S: 4}, {N: 4, S: 2}} {
		e, next := tens(g), drawn(911)
		e.A.Dirty = withEnts(e.A, stripesIn(5, g.S)...).Dirty
		contents := impl.Contents(e.A)
		for _, c := range rightCmds(g) {
			if c.Op == impl.OpCompare {
				c.Vals[0] = contents[c.Lba]
			}
			for at := range wantSteps(g, c) + 1 {
				on := withJobs(e, impl.Job{C: c, At: at, Got: upTo(min(at, 3) + next(2))})
				if at < wantSteps(g, c)-1 {
					wantStep(t, "a part", on, 0)
				} else if x, ok := wantWork(t, "answered", on, 0); !ok || len(x.Jobs) != 0 || !alike(x.A, e.A) {
					t.Fatal(g, c, at, x)
				}
			}
		}
	}
}

// What went wrong is answered, and nothing else is done: of no Op, at no time,
// however the array stands.
func TestWorkOfWhatWentWrong(t *testing.T) {
	down, broken := tens(impl.Geo{N: 4, S: 3}), tens(impl.Geo{N: 4, S: 3})
	down.A.Down, broken.A.Broken = true, true
	for name, e := range map[string]impl.Eng{"": tens(impl.Geo{N: 4, S: 3}), "Down": down, "Broken": broken} {
		e.A.Dirty = []impl.Ent{entAt(0, 60, 61, 62), entAt(2, 80, 81, 82)}
		for _, c := range oneOfEach() {
			for _, code := range []int{impl.CoMiss, impl.CoIo, impl.CoDown, impl.CoFull} {
				for _, at := range []int{0, 1, impl.StepsOf(e.A.G, c) - 1, mostAt} {
					for _, got := range []int{0, 1, impl.MaxRun} {
						on := withJobs(e, impl.Job{C: c, At: at, Got: upTo(got), Code: code})
						if x := wantEnd(t, name, on, 0, impl.Ans{Id: c.Id, Code: code}); !alike(x.A, e.A) {
							t.Error(name, c, code, at, "did", x.A)
						}
					}
				}
			}
		}
	}
}

// What goes wrong, of which Op, and at which time, written out. The array is
// one of the words of tens.
func TestWorkThatGoesWrong(t *testing.T) {
	g := impl.Geo{N: 4, S: 3}
	right := tens(g).A
	change := func(do func(*impl.Arr)) impl.Arr {
		x := plain(right)
		do(&x)
		return x
	}
	inMemory := func(a impl.Arr) impl.Arr {
		a.Dirty = []impl.Ent{entAt(0, 10, 11, 12), entAt(1, 13, 14, 15)}
		return a
	}
	twoBad := withBad(withBad(right, 0, firstStripe), 1, firstStripe)
	down, broken := change(func(a *impl.Arr) { a.Down = true }), change(func(a *impl.Arr) { a.Broken = true })
	full, marked := change(func(a *impl.Arr) { a.Tail, a.Seq = 59999, 60000 }), change(func(a *impl.Arr) { a.Gen = 59990 })
	for _, c := range []struct {
		name string
		a    impl.Arr
		// Of each part of each Op a digit, up to the one that is answered.
		read, write, fua, flush, compare, zero string
	}{
		{"right", right, "0000", "0000", "000000", "0000", "00", "0000"},
		{"in memory", inMemory(right), "0000", "0000", "000000", "0000", "00", "0000"},
		{"Down", down, "6", "6", "6", "6", "6", "6"},
		{"Down, in memory", inMemory(down), "6", "6", "6", "6", "6", "6"},
		{"Broken", broken, "5", "5", "5", "0000", "5", "5"},
		{"Broken, in memory", inMemory(broken), "0000", "0000", "0005", "5", "00", "0000"},
		{"two Bad", twoBad, "5", "5", "5", "0000", "5", "5"},
		{"two Bad, in memory", inMemory(twoBad), "0000", "0000", "000000", "0000", "00", "0000"},
		{"Seq full", full, "0000", "0000", "0007", "0000", "00", "0000"},
		{"Seq full, in memory", inMemory(full), "0000", "0000", "0007", "7", "00", "0000"},
		{"Gen full", marked, "0000", "0000", "0007", "0000", "00", "0000"},
		{"Gen full, in memory", inMemory(marked), "0000", "0000", "0007", "7", "00", "0000"},
		{"the next stripe two Bad", withBad(withBad(right, 1, firstStripe+1), 2, firstStripe+1), "05", "05", "05", "0000", "00", "05"},
	} {
		for i, codes := range []string{c.read, c.write, c.fua, c.flush, c.compare, c.zero} {
			wantCodes(t, c.name, impl.Eng{A: c.a}, oneOfEach()[i], codes)
		}
	}
}

// wantCodes works on this command until it is answered: each digit is the code
// of one time, the last one that of the answer.
func wantCodes(t *testing.T, name string, e impl.Eng, c impl.Cmd, codes string) {
	t.Helper()
	e = withBegun(e, c)
	for at := range len(codes) - 1 {
		e = wantStep(t, fmt.Sprint(name, " Op ", c.Op, " at ", at), e, 0)
	}
	ans := impl.Ans{Id: c.Id, Code: int(codes[len(codes)-1] - '0')}
	if c.Op == impl.OpRead && ans.Code == impl.CoGood {
		ans.Vals = []int{12, 13, 14}
	}
	x := wantEnd(t, fmt.Sprint(name, " Op ", c.Op), e, 0, ans)
	if !impl.EngOk(x) || ans.Code != impl.CoGood && !alike(x.A, e.A) {
		t.Error(name, "Op", c.Op, "turned", x.A)
	}
}

// Where the power has gone what is through is good all the same, and what has
// a part left is not.
func TestPowerGoesBetween(t *testing.T) {
	for _, c := range oneOfEach() {
		e := withBegun(tens(impl.Geo{N: 4, S: 3}), c)
		for at := range wantSteps(e.A.G, c) - 1 {
			off := e
			off.A = impl.PowerOff(e.A)
			wantEnd(t, fmt.Sprint("off at ", at), off, 0, impl.Ans{Id: c.Id, Code: impl.CoDown})
			e = wantStep(t, "on", e, 0)
		}
		e.A = impl.PowerOff(e.A)
		wantEnd(t, "off behind all", e, 0, impl.Ans{Id: c.Id, Vals: e.Jobs[0].Got})
	}
}

// What was read is not answered where a later word cannot be.
func TestReadThatGoesWrongLate(t *testing.T) {
	e := withBegun(tens(impl.Geo{N: 4, S: 3}), impl.Cmd{Op: impl.OpRead, Id: 5, Lba: 0, N: 6})
	for at := range 6 {
		off := e
		off.A = withBad(withBad(off.A, 0, firstStripe+at/3), 3, firstStripe+at/3)
		if len(e.Jobs[0].Got) != at {
			t.Error(at, e.Jobs)
		}
		wantEnd(t, fmt.Sprint("at ", at), off, 0, impl.Ans{Id: 5, Code: impl.CoIo})
		e = wantStep(t, "read", e, 0)
	}
	wantEnd(t, "all", e, 0, impl.Ans{Id: 5, Vals: []int{10, 11, 12, 13, 14, 15}})
}

// A block that cannot be got is no miss, whatever words are asked for.
func TestCompareOfWhatCannotBeRead(t *testing.T) {
	for name, a := range unreadable(tens(impl.Geo{N: 4, S: 3}).A, 1) {
		for b := 3; b < 6; b++ {
			for _, there := range []int{0, 10 + b, 65535} {
				for _, toBe := range []int{0, there} {
					c := impl.Cmd{Op: impl.OpCompare, Id: 5, Lba: b, Vals: []int{there, toBe}}
					wantEnd(t, name, withBegun(impl.Eng{A: a}, c), 0, impl.Ans{Id: 5, Code: impl.CoIo})
					on := impl.Eng{A: withEnts(a, 1)}
					on.A.Dirty[0].Data[b-3] = there
					wantStep(t, name+", in memory", withBegun(on, c), 0)
				}
			}
		}
	}
}

// How an OpFua or an OpFlush ends at each Fuse: the array is as the flush that
// the power went in left it, and it is answered at once.
func TestWorkAtEachFuse(t *testing.T) {
	t.Parallel()
	for _, g := range []impl.Geo{{N: 3, S: 4}, {N: 4, S: 3}, {N: 5, S: 1}} {
		for _, c := range []impl.Cmd{
			cmdOf(impl.OpFua, 1, 0, 1), cmdOf(impl.OpFua, 2, g.N-2, 1), cmdOf(impl.OpFua, 3, 0, g.N), cmdOf(impl.OpFua, 4, g.N-2, 6), cmdOf(impl.OpFlush, 5, 0, 0),
			cmdOf(impl.OpRead, 6, 0, 2), cmdOf(impl.OpWrite, 7, 0, 2), cmdOf(impl.OpZero, 8, 0, 2),
		} {
			if wantCmdCode(g, c) != impl.CoGood {
				continue
			}
			for _, some := range []int{0, 2, 15} {
				for _, lost := range []int{-1, 0, g.N - 1} {
					wantEachFuse(t, g, c, some, lost)
				}
			}
		}
	}
}

func wantEachFuse(t *testing.T, g impl.Geo, c impl.Cmd, some, lost int) {
	t.Helper()
	e := tens(g)
	e.A.Dirty = withEnts(e.A, stripesIn(some&(1<<g.S-1), g.S)...).Dirty
	if lost >= 0 {
		e.A = impl.FailDisk(e.A, lost)
	}
	e.A.Fuse = mostFuse
	e = withBegun(e, c)
	all, _ := workedThrough(t, "as told", e)
	operations := mostFuse - all.A.Fuse
	if touched := c.Op == impl.OpFua || c.Op == impl.OpFlush && !impl.Clean(e.A); touched != (operations > 0) {
		t.Fatal("the tests are wrong:", g, c, some, lost, operations)
	}
	for fuse := range operations + 2 {
		e.A.Fuse = fuse
		x, _ := workedThrough(t, fmt.Sprint("Fuse ", fuse), e)
		down := fuse < operations
		want := impl.Ans{Id: c.Id}
		if down {
			want.Code = impl.CoDown
		} else if c.Op == impl.OpRead {
			want.Vals = all.Done[0].Vals
		}
		if !alike(x.Done, []impl.Ans{want}) || x.A.Down != down || !impl.EngOk(x) {
			t.Fatal(g, c, some, lost, "Fuse", fuse, "of", operations, x.Done, x.A.Down)
		}
		if !down && c.Op == impl.OpFua {
			wantThereAgain(t, x, c)
		}
	}
}

// wantThereAgain asks that the words of an OpFua are there behind the power,
// though nothing is kept of the caches.
func wantThereAgain(t *testing.T, e impl.Eng, c impl.Cmd) {
	t.Helper()
	x := back(t, "behind an OpFua", e.A, nil, -1)
	for i, want := range c.Vals {
		if n, code := impl.GetBlock(x, c.Lba+i); n != want || code != impl.CoGood {
			t.Fatal(c, "block", c.Lba+i, "is", n, code)
		}
	}
}

// Whichever Job is worked on, the others stay as they are, in their order, and
// so does what waits; what is Done and logged stays ahead of the answer.
func TestWorkOfEachJob(t *testing.T) {
	g := impl.Geo{N: 4, S: 3}
	for n := 1; n <= mostJobs; n++ {
		base := withLog(withDone(withWait(tens(g), anyWaiting()...), 3), 5)
		for k := range n {
			for at := range 4 {
				e := base
				for i := range n {
					e = withJobs(e, impl.Job{C: impl.Cmd{Op: impl.OpRead, Id: 50 + i, Lba: 2 * i, N: 2}, At: min(i, 2), Got: upTo(min(i, 2))})
				}
				e = withJobAt(e, k, func(j *impl.Job) { j.At, j.Got = at, upTo(min(at, 2)) })
				var x impl.Eng
				if at < 2 {
					x = wantStep(t, "of several", e, k)
					if !alike(slices.Delete(slices.Clone(x.Jobs), k, k+1), slices.Delete(slices.Clone(e.Jobs), k, k+1)) || x.Jobs[k].Got[at] != 10+2*k+at {
						t.Error(n, k, at, "Jobs", x.Jobs)
					}
				} else {
					x = wantEnd(t, "of several", e, k, impl.Ans{Id: 50 + k, Vals: upTo(2)})
				}
				if !alike(x.Wait, e.Wait) || !alike(x.A, e.A) {
					t.Error(n, k, at, "turned", x.Wait, x.A)
				}
			}
		}
	}
}

func TestWorkOfNoJob(t *testing.T) {
	for i, e := range append(cornerEngs(), withDone(withWait(engOf(impl.Geo{N: 4, S: 3}), anyWaiting()...), 4)) {
		for n := range len(e.Jobs) + 1 {
			x := e
			x.Jobs = e.Jobs[:n]
			for _, k := range jobsOf(x) {
				if _, ok := wantWork(t, fmt.Sprint(i), x, k); ok != (0 <= k && k < n && len(e.Log) < 400) {
					t.Error(i, n, k, ok)
				}
			}
		}
	}
}

// 400 in Log are full, whether the Job is to be answered or not; 399 are not.
func TestWorkWhereLogIsFull(t *testing.T) {
	e := withJobs(tens(impl.Geo{N: 4, S: 3}), impl.Job{C: cmdOf(impl.OpRead, 1, 0, 2)}, impl.Job{C: cmdOf(impl.OpZero, 2, 4, 1), At: 1}, impl.Job{C: cmdOf(impl.OpFua, 3, 6, 1), Code: impl.CoIo})
	for _, log := range []int{0, 1, 398, 399} {
		x := withLog(e, log)
		wantStep(t, "a part", x, 0)
		wantEnd(t, "through", x, 1, impl.Ans{Id: 2})
		y := wantEnd(t, "went wrong", x, 2, impl.Ans{Id: 3, Code: impl.CoIo})
		for k := range 2 {
			if _, ok := wantWork(t, "the next", y, k); ok != (log < 399) || len(y.Log) != log+1 {
				t.Error(log, k, ok)
			}
		}
	}
	x := withLog(e, 400)
	for _, k := range jobsOf(x) {
		if _, ok := wantWork(t, "full", x, k); ok || !impl.EngOk(x) {
			t.Error("400", k, ok)
		}
	}
}

// Done is not asked for ahead of the answer: where it is full the answer is
// one more than there can be, and nothing is done behind it.
func TestWorkWhereDoneIsFull(t *testing.T) {
	e := withJobs(tens(impl.Geo{N: 4, S: 3}), impl.Job{C: cmdOf(impl.OpRead, 1, 0, 2)}, impl.Job{C: cmdOf(impl.OpZero, 2, 4, 1), At: 1}, impl.Job{C: cmdOf(impl.OpFua, 3, 6, 1), Code: impl.CoIo})
	for done := range mostDone + 1 {
		x := withDone(e, done)
		wantStep(t, "a part", x, 0)
		y := wantEnd(t, "through", x, 1, impl.Ans{Id: 2})
		if impl.EngOk(y) != (done < 8) {
			t.Error(done, "is EngOk", impl.EngOk(y))
		}
		for k := range 2 {
			if z, ok := wantWork(t, "the next", y, k); ok != (done < 8) || !ok && !alike(z, y) {
				t.Error(done, k, ok)
			}
		}
	}
}

func TestWorkOfWrongEngs(t *testing.T) {
	t.Parallel()
	for name, e := range wrongEngs() {
		for _, k := range []int{0, len(e.Jobs) - 1, len(e.Jobs)} {
			if x, ok := impl.Work(e, k); ok || !alike(x, e) {
				t.Fatal(name, k, e, x, ok)
			}
		}
	}
}

// Got is what was read: a word more stands behind what is there.
func TestGotIsAddedTo(t *testing.T) {
	e := tens(impl.Geo{N: 4, S: 3})
	for at := range 5 {
		for n := range impl.MaxRun {
			on := withJobs(e, impl.Job{C: cmdOf(impl.OpRead, 7, 3, 5), At: at, Got: upTo(n)})
			if x := wantStep(t, "got", on, 0); !slices.Equal(x.Jobs[0].Got, append(upTo(n), 13+at)) || !impl.EngOk(x) {
				t.Error(at, n, x.Jobs)
			}
		}
	}
	wantEnd(t, "as it is", withJobs(e, impl.Job{C: cmdOf(impl.OpRead, 7, 3, 5), At: 5, Got: upTo(6)}), 0, impl.Ans{Id: 7, Vals: upTo(6)})
}

// How a Job is worked on hangs on the array that it is of.
func TestWorkOfRightArrs(t *testing.T) {
	t.Parallel()
	for i, a := range rightArrs() {
		if i%3 > 0 && !a.Down {
			continue
		}
		all := rightCmds(a.G)
		for j := range 3 {
			c := all[(i*7+j*len(all)/3)%len(all)]
			for at := range wantSteps(a.G, c) {
				wantWork(t, fmt.Sprint(i), withJobs(impl.Eng{A: a}, impl.Job{C: c, At: at}), 0)
			}
		}
	}
}

// anyAtWork is as anyEng, but most Jobs have a part left, and more goes wrong.
func anyAtWork(next func(int) int) impl.Eng {
	e := anyEng(next)
	if next(2) == 0 && geoRight(e.A.G) {
		e.A = anyArr(e.A.G, next)
		e.A.Down, e.A.Broken = next(6) == 0, next(6) == 0
		if next(4) == 0 {
			e.A.Gen = 59990
		}
	}
	for k := range e.Jobs {
		e = withJobAt(e, k, func(j *impl.Job) {
			if steps := wantSteps(e.A.G, j.C); steps > 0 && j.At > 0 && j.At < mostAt {
				j.At %= steps
			}
			if within(j.Code, impl.CoGood, impl.CoFull) {
				j.Code = []int{impl.CoMiss, impl.CoIo, impl.CoDown, impl.CoFull, impl.CoGood}[min(4, next(20))]
			}
		})
	}
	return e
}

// Whatever the engine is, what is answered is what the document says.
func TestWorkOfAnyEng(t *testing.T) {
	t.Parallel()
	const part, answered, wrong, wrongAlready = 0, 1, 2, 3
	next, came, not := drawn(921), map[[3]int]int{}, 0
	for range 3000 {
		e := anyAtWork(next)
		for k, j := range e.Jobs {
			x, ok := wantWork(t, "any", e, k)
			end, code := part, j.Code
			switch {
			case !ok:
				not++
				continue
			case j.Code != impl.CoGood:
				end = wrongAlready
			case len(x.Jobs) < len(e.Jobs):
				end, code = answered, x.Done[len(x.Done)-1].Code
			}
			if end == answered && code != impl.CoGood {
				end = wrong
			}
			came[[3]int{j.C.Op, end, code}]++
		}
		wantWork(t, "any", e, []int{-1, len(e.Jobs), 4, math.MaxInt, math.MinInt}[next(5)])
	}
	ends := [][3]int{{impl.OpCompare, wrong, impl.CoMiss}, {impl.OpFua, wrong, impl.CoFull}, {impl.OpFlush, wrong, impl.CoFull}}
	for _, op := range allOps() {
		ends = append(ends, [3]int{op, part, impl.CoGood}, [3]int{op, answered, impl.CoGood}, [3]int{op, wrong, impl.CoDown}, [3]int{op, wrong, impl.CoIo})
		for code := impl.CoMiss; code <= impl.CoFull; code++ {
			ends = append(ends, [3]int{op, wrongAlready, code})
		}
	}
	for _, x := range ends {
		if came[x] < 3 {
			t.Error("seldom came:", x, came[x])
		}
	}
	if not < 200 {
		t.Error("seldom refused:", not)
	}
}
