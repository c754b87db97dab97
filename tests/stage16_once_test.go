package tests

import (
	"fmt"
	"slices"
	"testing"

	"loop.example/g00398/impl"
)

// A ledger is an engine that comes of calls, with all that was submitted to
// it, each with an Id of its own, how often each was worked on, and what was
// fetched.
type ledger struct {
	e       impl.Eng
	all     []impl.Cmd
	worked  map[int]int
	fetched []impl.Ans
}

func ledgerOf(a impl.Arr) *ledger { return &ledger{e: impl.Eng{A: a}, worked: map[int]int{}} }

// split answers one that goes on by itself.
func (x *ledger) split() *ledger {
	y := &ledger{x.e, slices.Clone(x.all), map[int]int{}, slices.Clone(x.fetched)}
	for id, n := range x.worked {
		y.worked[id] = n
	}
	return y
}

func (x *ledger) submit(c impl.Cmd) bool {
	c.Id = len(x.all) + 1
	e, ok := impl.Submit(x.e, c)
	if ok {
		x.e, x.all = e, append(x.all, c)
	}
	return ok
}

func (x *ledger) begin(k int) bool {
	e, ok := impl.Begin(x.e, k)
	x.e = e
	return ok
}

func (x *ledger) work(t *testing.T, k int) bool {
	t.Helper()
	e, ok := impl.Work(x.e, k)
	if ok {
		j := x.e.Jobs[k]
		x.worked[j.C.Id]++
		if len(e.Jobs) < len(x.e.Jobs) {
			x.wantAnswered(t, j.C, e.Log[len(e.Log)-1])
		}
	}
	x.e = e
	return ok
}

// wantAnswered asks that it was answered in its time: behind all parts, or
// ahead of the end where something went wrong.
func (x *ledger) wantAnswered(t *testing.T, c impl.Cmd, last impl.Turn) {
	t.Helper()
	steps := wantSteps(x.e.A.G, c)
	if n := x.worked[c.Id]; last.A.Code == impl.CoGood && n != steps || last.A.Code != impl.CoGood && n >= steps {
		t.Fatal(c, "was answered", last.A, "behind", n, "times of", steps)
	}
	if !alike(last.C, c) || last.A.Id != c.Id {
		t.Fatal(c, "was answered as", last)
	}
}

func (x *ledger) fetch(k int) bool {
	e, ans, ok := impl.Fetch(x.e, k)
	if ok {
		x.fetched = append(x.fetched, ans)
	}
	x.e = e
	return ok
}

// want asks for the promise itself: each command waits, is a Job, or is in Log,
// in one of them and once; each that is in Log is in Done or fetched, once.
func (x *ledger) want(t *testing.T) {
	t.Helper()
	wantJobsApart(t, x.e)
	places, answers := make([]int, len(x.all)+1), make([]int, len(x.all)+1)
	told := make([]impl.Ans, len(x.all)+1)
	for _, c := range x.e.Wait {
		places[c.Id]++
	}
	for _, j := range x.e.Jobs {
		places[j.C.Id]++
	}
	for _, turn := range x.e.Log {
		places[turn.C.Id]++
		answers[turn.C.Id]--
		told[turn.C.Id] = turn.A
		if !alike(turn.C, x.all[turn.C.Id-1]) || turn.A.Id != turn.C.Id {
			t.Fatal("logged is", turn)
		}
	}
	for _, ans := range slices.Concat(x.e.Done, x.fetched) {
		answers[ans.Id]++
		if !alike(ans, told[ans.Id]) {
			t.Fatal("answered is", ans, "not", told[ans.Id])
		}
	}
	for id := 1; id < len(places); id++ {
		if places[id] != 1 || answers[id] != 0 {
			t.Fatal("the command", id, "is in", places[id], "places; its answers are", answers[id], "too many:", x.e, x.fetched)
		}
	}
}

// eachWay goes through all ways to submit these commands, in their order, and
// to begin, work on and fetch them meanwhile, and asks behind each step. An
// engine that has been is not gone on from again.
func eachWay(t *testing.T, x *ledger, cmds []impl.Cmd, been map[string]bool) {
	t.Helper()
	key := fmt.Sprint(x.e, x.fetched, len(cmds))
	if been[key] {
		return
	}
	been[key] = true
	x.want(t)
	went := false
	step := func(ok bool, y *ledger, left []impl.Cmd) {
		if ok {
			went = true
			eachWay(t, y, left, been)
		}
	}
	if len(cmds) > 0 {
		y := x.split()
		step(y.submit(cmds[0]), y, cmds[1:])
	}
	for k := range x.e.Wait {
		y := x.split()
		step(y.begin(k), y, cmds)
	}
	for k := range x.e.Jobs {
		y := x.split()
		step(y.work(t, k), y, cmds)
	}
	for k := range x.e.Done {
		y := x.split()
		step(y.fetch(k), y, cmds)
	}
	if !went && (len(x.e.Log) != len(x.all) || len(x.fetched) != len(x.all)) {
		t.Fatal("something is left:", x.e, x.fetched)
	}
}

// Whatever is submitted, begun, worked on and fetched, in whatever order, each
// is answered once; and so where the power goes, or the array is Broken or full.
func TestEachJobIsAnsweredOnce(t *testing.T) {
	g := impl.Geo{N: 3, S: 2}
	words := tens(g).A
	broken, full, bad := words, words, withBad(withBad(words, 0, firstStripe), 1, firstStripe)
	broken.Broken, full.Gen = true, 59990
	arrs := map[string]impl.Arr{"right": words, "Broken": broken, "full": full, "two Bad": bad, "off": impl.PowerOff(words)}
	for _, fuse := range []int{0, 3, 6, 9, 14, 20} {
		a := words
		a.Fuse = fuse
		arrs[fmt.Sprint("Fuse ", fuse)] = a
	}
	some := [][]impl.Cmd{
		{cmdOf(impl.OpWrite, 1, 0, 2), {Op: impl.OpCompare, Id: 1, Lba: 3, Vals: []int{13, 5}}, cmdOf(impl.OpFua, 1, 2, 1)},
		{cmdOf(impl.OpFua, 1, 1, 2), {Op: impl.OpRead, Id: 1, N: 7}, cmdOf(impl.OpRead, 1, 0, 2)},
		{cmdOf(impl.OpZero, 1, 0, 1), {Op: impl.OpCompare, Id: 1, Lba: 0, Vals: []int{10, 5}}, cmdOf(impl.OpFlush, 1, 0, 0)},
		{cmdOf(impl.OpFlush, 1, 0, 0), cmdOf(impl.OpWrite, 1, 2, 1), cmdOf(impl.OpFlush, 1, 0, 0)},
		{{Op: impl.OpCompare, Id: 1, Lba: 1, Vals: []int{11, 0}}, cmdOf(impl.OpZero, 1, 2, 1), cmdOf(impl.OpRead, 1, 3, 1)},
		{cmdOf(impl.OpZero, 1, 0, 1), {Op: impl.OpFua, Id: 1}, cmdOf(impl.OpCompare, 1, 1, 1), cmdOf(impl.OpRead, 1, 2, 1)},
	}
	for name, a := range arrs {
		t.Run(name, func(t *testing.T) {
			t.Parallel()
			ways := 0
			for _, cmds := range some {
				been := map[string]bool{}
				eachWay(t, ledgerOf(a), cmds, been)
				ways += len(been)
			}
			if ways < 3000 {
				t.Error("few ways:", ways)
			}
		})
	}
}

// disturb turns the array in some way that may come meanwhile.
func disturb(a impl.Arr, next func(int) int) impl.Arr {
	switch next(9) {
	case 0:
		a = impl.FailDisk(a, next(a.G.N))
	case 1:
		a = impl.SpoilAt(a, next(a.G.N), next(a.G.S))
	case 2:
		a, _ = impl.Spare(a)
	case 3:
		a, _ = impl.BuildStep(a)
	case 4:
		a, _ = impl.BuildAll(a)
	case 5:
		a = impl.Check(a)
	case 6:
		a = impl.PowerOff(a)
	case 7:
		if !a.Down {
			a.Fuse = next(60)
		}
	case 8:
		if a.Down {
			if x, ok := impl.Recover(a.Mems, nil, a.Id, -1); ok {
				a = x
			}
		}
	}
	return a
}

// anyStep does one thing of those that an engine can be asked for.
func (x *ledger) anyStep(t *testing.T, next func(int) int) {
	t.Helper()
	switch n := next(12); {
	case n < 4:
		x.submit(anyCmd(blocksIn(x.e.A.G), next))
	case n < 7:
		x.begin(next(len(x.e.Wait)+2) - 1)
	case n < 11:
		x.work(t, next(len(x.e.Jobs)+2)-1)
	default:
		x.fetch(next(len(x.e.Done)+2) - 1)
	}
}

// end goes on until nothing waits, nothing is a Job and all is fetched.
func (x *ledger) end(t *testing.T) {
	t.Helper()
	for range 200 {
		for len(x.e.Jobs) > 0 && x.work(t, len(x.e.Jobs)-1) {
			x.want(t)
		}
		for len(x.e.Done) > 0 && x.fetch(0) {
			x.want(t)
		}
		for k := range x.e.Wait {
			if x.begin(k) {
				break
			}
		}
		x.want(t)
	}
	if len(x.e.Wait)+len(x.e.Jobs)+len(x.e.Done) > 0 || len(x.fetched) != len(x.all) {
		t.Fatal("something is left:", x.e, x.fetched)
	}
}

// Whatever goes wrong on the way.
func TestEachIsAnsweredOnceWhateverGoesWrong(t *testing.T) {
	t.Parallel()
	next, codes := drawn(941), map[int]int{}
	for range 150 {
		g := geosOfCmds()[next(len(geosOfCmds()))]
		x := ledgerOf(tens(g).A)
		for range 100 {
			if next(8) == 0 {
				x.e.A = disturb(x.e.A, next)
			} else {
				x.anyStep(t, next)
			}
			x.want(t)
		}
		x.end(t)
		for _, turn := range x.e.Log {
			codes[turn.A.Code]++
		}
	}
	for code := impl.CoGood; code < impl.CoFull; code++ {
		if codes[code] < 20 {
			t.Error("the code", code, "seldom came:", codes)
		}
	}
}

// Where nothing of the array goes wrong the answers are those of the commands
// in the order of Log, one behind the other, and so are the blocks.
func TestAnswersAreThoseOfTheLog(t *testing.T) {
	t.Parallel()
	next, came := drawn(947), map[int]int{}
	for range 100 {
		g := geosOfCmds()[next(len(geosOfCmds()))]
		a, _ := filled(g, next)
		a.Dirty = withEnts(a, stripesIn(next(1<<g.S), g.S)...).Dirty
		x, blocks := ledgerOf(a), wantContents(a)
		for range 120 {
			x.anyStep(t, next)
		}
		x.end(t)
		for _, turn := range x.e.Log {
			var ans impl.Ans
			if blocks, ans = wantDone(g, blocks, turn.C); !alike(turn.A, ans) {
				t.Fatal(g, turn, "not", ans)
			}
			came[turn.A.Code]++
		}
		if !slices.Equal(wantContents(x.e.A), blocks) {
			t.Fatal(g, "blocks are", wantContents(x.e.A), "not", blocks)
		}
	}
	if came[impl.CoGood] < 500 || came[impl.CoMiss] < 50 || came[impl.CoSize] < 20 || came[impl.CoForm] < 20 || came[impl.CoRange] < 20 {
		t.Error("seldom:", came)
	}
}

// 400 are answered, and then no more is done; nothing is lost of what is left.
func TestAnsweredUntilLogIsFull(t *testing.T) {
	t.Parallel()
	x := ledgerOf(impl.EngNew(arrayId, impl.Geo{N: 4, S: 3}).A)
	for i := range 450 {
		x.submit(cmdOf(allOps()[i%6], 1, i%8, 1))
		x.begin(0)
		if i%3 > 0 {
			x.e = impl.WorkAll(x.e, 12)
		}
		for len(x.e.Done) > 0 && i%5 > 0 {
			x.fetch(len(x.e.Done) - 1)
		}
		if i%50 == 0 {
			x.want(t)
		}
	}
	x.want(t)
	if len(x.e.Log) != mostLog || len(x.e.Jobs) != 0 || len(x.e.Wait) != mostWait || x.begin(0) || x.work(t, 0) {
		t.Error(len(x.e.Log), x.e.Jobs, x.e.Wait)
	}
}
