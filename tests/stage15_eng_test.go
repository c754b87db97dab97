package tests

import (
	"fmt"
	"maps"
	"math"
	"slices"
	"testing"

	"loop.example/g00398/impl"
)

const (
	mostWait = 8
	mostJobs = 4
	mostDone = 8
	mostLog  = 400
	mostAt   = 40
)

// wantJobOk is what the document says of one Job.
func wantJobOk(g impl.Geo, j impl.Job) bool {
	if wantCmdCode(g, j.C) != impl.CoGood || !within(j.At, 0, mostAt) || len(j.Got) > 6 {
		return false
	}
	if slices.ContainsFunc(j.Got, func(n int) bool { return !within(n, 0, 65535) }) {
		return false
	}
	return slices.Contains([]int{impl.CoGood, impl.CoMiss, impl.CoIo, impl.CoDown, impl.CoFull}, j.Code)
}

// wantEngOk is what the document says of an engine, reason by reason.
func wantEngOk(e impl.Eng) bool {
	if !wantArrOk(e.A) || len(e.Wait) > mostWait || len(e.Jobs) > mostJobs || len(e.Done) > mostDone || len(e.Log) > mostLog {
		return false
	}
	taken := uint64(0)
	for _, j := range e.Jobs {
		blocks := blocksOfCmd(e.A.G, j.C)
		if !wantJobOk(e.A.G, j) || taken&blocks != 0 {
			return false
		}
		taken |= blocks
	}
	return true
}

func engOf(g impl.Geo) impl.Eng { return impl.Eng{A: wantNewArr(arrayId, g)} }

func withWait(e impl.Eng, cmds ...impl.Cmd) impl.Eng {
	e.Wait = slices.Concat(e.Wait, cmds)
	return e
}

func withJobs(e impl.Eng, jobs ...impl.Job) impl.Eng {
	e.Jobs = slices.Concat(e.Jobs, jobs)
	return e
}

// withBegun answers the engine with Jobs of these commands, just begun.
func withBegun(e impl.Eng, cmds ...impl.Cmd) impl.Eng {
	for _, c := range cmds {
		e = withJobs(e, impl.Job{C: c})
	}
	return e
}

// Answers, and what was done, may hold anything: these are no answers that
// could come.
func anyAns(i int) impl.Ans {
	return impl.Ans{Id: 5000 - i, Code: 90 + i, Vals: []int{-1, 65536, i, 1, 2, 3, 4, 5}[:i%9]}
}

func withDone(e impl.Eng, n int) impl.Eng {
	e.Done = nil
	for i := range n {
		e.Done = append(e.Done, anyAns(i))
	}
	return e
}

func withLog(e impl.Eng, n int) impl.Eng {
	e.Log = nil
	for i := range n {
		e.Log = append(e.Log, impl.Turn{C: impl.Cmd{Op: 70 + i, Id: -i, Lba: i, Vals: []int{-i, 65537}[:i%3]}, A: anyAns(i)})
	}
	return e
}

// withJobAt answers the engine with this Job changed, and the engine as it was.
func withJobAt(e impl.Eng, i int, change func(*impl.Job)) impl.Eng {
	e.Jobs = slices.Clone(e.Jobs)
	change(&e.Jobs[i])
	return e
}

// fourApart answers four Jobs, none of which has a block of another one, each
// with two blocks, in the midst of what can be.
func fourApart() []impl.Job {
	return []impl.Job{
		{C: cmdOf(impl.OpRead, 11, 0, 2), At: 1, Got: []int{65535}},
		{C: cmdOf(impl.OpWrite, 12, 2, 2)},
		{C: cmdOf(impl.OpZero, mostCmdId, 4, 2), At: 2, Code: impl.CoIo},
		{C: cmdOf(impl.OpFua, 1, 6, 2), At: mostAt, Got: []int{0, 1}, Code: impl.CoDown},
	}
}

// anyWaiting may not be begun all, but may wait.
func anyWaiting() []impl.Cmd {
	return []impl.Cmd{
		cmdOf(impl.OpRead, 21, 0, 1),
		{},
		{Op: impl.OpWrite, Id: 22, Lba: 1, N: -7, Vals: upTo(2)},
		{Op: -1, Id: -1, Lba: -1, N: -1, Vals: []int{-1}},
		cmdOf(impl.OpFlush, 23, 0, 0),
		{Op: impl.OpFua, Id: 24, Lba: math.MaxInt, Vals: make([]int, 300)},
		{Op: impl.OpRead, Id: 0, Lba: math.MinInt, N: math.MaxInt},
		cmdOf(impl.OpCompare, 25, 1, 1),
	}
}

// fullEng has as much of all as there can be.
func fullEng() impl.Eng {
	e := impl.Eng{A: cornerArrs()[3]}
	return withLog(withDone(withJobs(withWait(e, anyWaiting()...), fourApart()...), mostDone), mostLog)
}

// cornerEngs are right, with nothing and with all, on arrays of all kinds.
func cornerEngs() []impl.Eng {
	l, jobs := []impl.Eng{fullEng()}, fourApart()
	for i, a := range cornerArrs() {
		e := impl.Eng{A: a}
		l = append(l, e, withLog(withDone(withWait(e, anyWaiting()[:i]...), i), 3*i))
		if blocksIn(a.G) > 7 {
			l = append(l, withLog(withDone(withJobs(withWait(e, anyWaiting()[i:]...), jobs[:1+i%3]...), 4), 396))
		}
	}
	return append(l, withBegun(engOf(impl.Geo{N: 3, S: 1}), cmdOf(impl.OpFlush, 5, 0, 0)))
}

// wrongJobs answers Jobs that are not right, each for one reason, where the
// one that is handed in is right.
func wrongJobs(g impl.Geo, right impl.Job) map[string]impl.Job {
	l := map[string]impl.Job{}
	change := func(name string, do func(*impl.Job)) {
		j := right
		do(&j)
		l[name] = j
	}
	for _, n := range append([]int{-1, -2, -mostAt, mostAt + 1, mostAt + 2, 256, 65536}, far()...) {
		change(fmt.Sprint("At ", n), func(j *impl.Job) { j.At = n })
	}
	for _, n := range append([]int{-1, impl.CoForm, impl.CoRange, impl.CoSize, impl.CoFull + 1, -impl.CoMiss, 256, 65536}, far()...) {
		change(fmt.Sprint("Code ", n), func(j *impl.Job) { j.Code = n })
	}
	for _, n := range []int{impl.MaxRun + 1, impl.MaxRun + 2, impl.MaxSec, impl.MaxSec + 1, 256} {
		change(fmt.Sprint("words ", n), func(j *impl.Job) { j.Got = make([]int, n) })
	}
	for _, n := range []int{1, 2, impl.MaxRun} {
		for at := range n {
			for _, w := range wrongWords() {
				got := upTo(n)
				got[at] = w
				change(fmt.Sprint("word ", w, " at ", at, " of ", n), func(j *impl.Job) { j.Got = got })
			}
		}
	}
	for i, c := range cmdsAlmostRight(g) {
		change(fmt.Sprint("the ", i, " command ", c.Op, c.Id, c.Lba, c.N, len(c.Vals)), func(j *impl.Job) { j.C = c })
	}
	return l
}

// tooMany answers the engine with one more than there can be of something.
func tooMany(e impl.Eng) map[string]impl.Eng {
	free := e
	free.Jobs = nil
	apart := append(fourApart(), impl.Job{C: cmdOf(impl.OpCompare, 9, 8, 1)})
	l := map[string]impl.Eng{
		"waits":       withWait(e, make([]impl.Cmd, mostWait+1-len(e.Wait))...),
		"many wait":   withWait(e, make([]impl.Cmd, 256)...),
		"Done":        withDone(e, mostDone+1),
		"much Done":   withDone(e, 264),
		"Log":         withLog(e, mostLog+1),
		"much Log":    withLog(e, mostLog+256),
		"Done of all": withLog(withDone(e, mostLog), mostDone),
	}
	if blocksIn(e.A.G) > 8 {
		l["Jobs"] = withJobs(free, apart...)
	}
	return l
}

// wrongEngs answers engines that are not EngOk, for each reason that the
// document gives: of each there is one that is wrong for it alone.
func wrongEngs() map[string]impl.Eng {
	l := map[string]impl.Eng{"the zero one": {}, "a Job of no array": {Jobs: fourApart()}}
	for name, a := range wrongArrs() {
		l["Arr "+name] = impl.Eng{A: a}
	}
	for i, e := range cornerEngs() {
		for name, x := range tooMany(e) {
			l[fmt.Sprint(i, " too many: ", name)] = x
		}
	}
	g := impl.Geo{N: 4, S: 3}
	for _, n := range []int{1, mostJobs} {
		e := withJobs(engOf(g), fourApart()[:n]...)
		for i := range n {
			for name, j := range wrongJobs(g, e.Jobs[i]) {
				l[fmt.Sprint("Job ", i, " of ", n, " ", name)] = withJobAt(e, i, func(was *impl.Job) { *was = j })
			}
		}
	}
	maps.Copy(l, clashingEngs())
	return l
}

// clashingEngs answers engines with each two of up to four Jobs that clash, and
// none besides.
func clashingEngs() map[string]impl.Eng {
	l := map[string]impl.Eng{}
	for n := 2; n <= mostJobs; n++ {
		e := withJobs(engOf(impl.Geo{N: 4, S: 3}), fourApart()[:n]...)
		for i := range n {
			for with := range n {
				if i == with {
					continue
				}
				for _, op := range []int{impl.OpRead, impl.OpWrite, impl.OpFua, impl.OpCompare, impl.OpZero} {
					for b := 2 * with; b <= 2*with+1; b++ {
						name := fmt.Sprint("Job ", i, " of ", n, " clashes with ", with, " Op ", op, " block ", b)
						l[name] = withJobAt(e, i, func(j *impl.Job) { j.C = cmdOf(op, 500, b, 1) })
					}
				}
			}
		}
	}
	return l
}

// wantOk asks for EngOk, with junk behind the lists or not.
func wantOk(t *testing.T, name string, e impl.Eng, ok bool) {
	t.Helper()
	if want := wantEngOk(e); want != ok {
		t.Error("the tests are wrong:", name, want)
	}
	if impl.EngOk(e) != ok || impl.EngOk(roomy(e)) != ok {
		t.Error(name, e, impl.EngOk(e), impl.EngOk(roomy(e)), "not", ok)
	}
}

func TestEngLimits(t *testing.T) {
	if impl.MaxWait != mostWait || impl.MaxJobs != mostJobs || impl.MaxDone != mostDone {
		t.Error(impl.MaxWait, impl.MaxJobs, impl.MaxDone)
	}
}

func TestEngNew(t *testing.T) {
	for _, g := range rightGeos() {
		for _, id := range []int{1, 2, arrayId, mostOfAnArr - 1, mostOfAnArr} {
			e := impl.EngNew(id, g)
			if !alike(e, impl.Eng{A: wantNewArr(id, g)}) || !impl.EngOk(e) {
				t.Error(id, g, e)
			}
		}
		for _, id := range append([]int{0, -1, mostOfAnArr + 1, 65536}, far()...) {
			if e := impl.EngNew(id, g); !alike(e, impl.Eng{}) || impl.EngOk(e) {
				t.Error("wrong id", id, g, e)
			}
		}
	}
	for _, g := range append(wrongGeos(), impl.Geo{}) {
		for _, id := range []int{0, 1, mostOfAnArr, mostOfAnArr + 1} {
			if e := impl.EngNew(id, g); !alike(e, impl.Eng{}) || impl.EngOk(e) {
				t.Error("wrong Geo", id, g, e)
			}
		}
	}
}

func TestEngOkOfRightEngs(t *testing.T) {
	for i, e := range cornerEngs() {
		wantOk(t, fmt.Sprint(i), e, true)
	}
	for i, a := range rightArrs() {
		wantOk(t, fmt.Sprint("Arr ", i), impl.Eng{A: a}, true)
	}
}

func TestEngOkOfWrongEngs(t *testing.T) {
	t.Parallel()
	for name, e := range wrongEngs() {
		wantOk(t, name, e, false)
	}
}

// As many of each as there can be, alone and with all others, and one more.
func TestEngOkOfHowMany(t *testing.T) {
	g := impl.Geo{N: 4, S: 3}
	apart := []impl.Job{}
	for lba := range 9 {
		apart = append(apart, impl.Job{C: cmdOf(impl.OpCompare, 1+lba, lba, 1)})
	}
	for _, e := range []impl.Eng{engOf(g), withLog(withDone(withJobs(withWait(engOf(g), anyWaiting()...), fourApart()...), mostDone), mostLog)} {
		for n := range mostWait + 3 {
			x := e
			x.Wait = slices.Repeat([]impl.Cmd{cmdOf(impl.OpFlush, 1, 0, 0)}, n)
			wantOk(t, fmt.Sprint("waits ", n), x, n <= 8)
		}
		for n := range mostJobs + 5 {
			x := e
			x.Jobs = apart[:n:n]
			wantOk(t, fmt.Sprint("Jobs ", n), x, n <= 4)
		}
		for n := range mostDone + 3 {
			wantOk(t, fmt.Sprint("Done ", n), withDone(e, n), n <= 8)
		}
		for _, n := range []int{0, 1, 8, 9, 255, 256, 399, 400, 401, 402, 656} {
			wantOk(t, fmt.Sprint("Log ", n), withLog(e, n), n <= 400)
		}
	}
}

// Each number of a Job at each edge, wherever the Job stands.
func TestEngOkOfJobs(t *testing.T) {
	e := withJobs(engOf(impl.Geo{N: 4, S: 3}), fourApart()...)
	for i := range e.Jobs {
		for _, c := range []struct {
			name string
			ok   bool
			do   func(*impl.Job)
		}{
			{"At -1", false, func(j *impl.Job) { j.At = -1 }},
			{"At 0", true, func(j *impl.Job) { j.At = 0 }},
			{"At 1", true, func(j *impl.Job) { j.At = 1 }},
			{"At 39", true, func(j *impl.Job) { j.At = 39 }},
			{"At 40", true, func(j *impl.Job) { j.At = 40 }},
			{"At 41", false, func(j *impl.Job) { j.At = 41 }},
			{"Got nil", true, func(j *impl.Job) { j.Got = nil }},
			{"Got none", true, func(j *impl.Job) { j.Got = []int{} }},
			{"Got 6", true, func(j *impl.Job) { j.Got = make([]int, 6) }},
			{"Got 6 of the greatest", true, func(j *impl.Job) { j.Got = slices.Repeat([]int{65535}, 6) }},
			{"Got 7", false, func(j *impl.Job) { j.Got = make([]int, 7) }},
			{"Got 12", false, func(j *impl.Job) { j.Got = make([]int, 12) }},
			{"Got 13", false, func(j *impl.Job) { j.Got = make([]int, 13) }},
			{"Got 0", true, func(j *impl.Job) { j.Got = []int{0} }},
			{"Got 65535", true, func(j *impl.Job) { j.Got = []int{65535} }},
			{"Got 65536", false, func(j *impl.Job) { j.Got = []int{65536} }},
			{"Got -1", false, func(j *impl.Job) { j.Got = []int{-1} }},
			{"Got -1 last", false, func(j *impl.Job) { j.Got = []int{0, 0, 0, 0, 0, -1} }},
			{"Got -1 behind the length", true, func(j *impl.Job) { j.Got = []int{0, 0, 0, 0, 0, 0, -1}[:6] }},
			{"Code -1", false, func(j *impl.Job) { j.Code = -1 }},
			{"CoGood", true, func(j *impl.Job) { j.Code = impl.CoGood }},
			{"CoForm", false, func(j *impl.Job) { j.Code = impl.CoForm }},
			{"CoRange", false, func(j *impl.Job) { j.Code = impl.CoRange }},
			{"CoSize", false, func(j *impl.Job) { j.Code = impl.CoSize }},
			{"CoMiss", true, func(j *impl.Job) { j.Code = impl.CoMiss }},
			{"CoIo", true, func(j *impl.Job) { j.Code = impl.CoIo }},
			{"CoDown", true, func(j *impl.Job) { j.Code = impl.CoDown }},
			{"CoFull", true, func(j *impl.Job) { j.Code = impl.CoFull }},
			{"Code 8", false, func(j *impl.Job) { j.Code = 8 }},
			{"Id 0", false, func(j *impl.Job) { j.C.Id = 0 }},
			{"Id 1", true, func(j *impl.Job) { j.C.Id = 1 }},
			{"the Id of another", true, func(j *impl.Job) { j.C.Id = e.Jobs[(i+1)%4].C.Id }},
			{"Id 999", true, func(j *impl.Job) { j.C.Id = 999 }},
			{"Id 1000", false, func(j *impl.Job) { j.C.Id = 1000 }},
			{"no command", false, func(j *impl.Job) { j.C = impl.Cmd{} }},
			{"the last block", true, func(j *impl.Job) { j.C = cmdOf(impl.OpRead, 5, 8, 1) }},
			{"the block behind", false, func(j *impl.Job) { j.C = cmdOf(impl.OpRead, 5, 9, 1) }},
			{"the last block and the one behind", false, func(j *impl.Job) { j.C = cmdOf(impl.OpRead, 5, 8, 2) }},
			{"the block ahead of the first", false, func(j *impl.Job) { j.C = cmdOf(impl.OpRead, 5, -1, 1) }},
			{"no blocks", false, func(j *impl.Job) { j.C = cmdOf(impl.OpRead, 5, 8, 0) }},
			{"a word that is none", false, func(j *impl.Job) { j.C = impl.Cmd{Op: impl.OpFua, Id: 5, Lba: 8, Vals: []int{65536}} }},
			{"a flush", false, func(j *impl.Job) { j.C = cmdOf(impl.OpFlush, 5, 0, 0) }},
			{"a flush that names a block", false, func(j *impl.Job) { j.C = impl.Cmd{Op: impl.OpFlush, Id: 5, Lba: 8} }},
			{"what its Op does not name", true, func(j *impl.Job) { j.C = impl.Cmd{Op: impl.OpCompare, Id: 5, Lba: 8, N: -9, Vals: upTo(2)} }},
		} {
			wantOk(t, fmt.Sprint(i, " ", c.name), withJobAt(e, i, c.do), c.ok)
		}
	}
}

// A Job alone clashes with none, whatever it is; of a wrong one EngOk tells
// though no other one is there.
func TestEngOkOfOneJob(t *testing.T) {
	t.Parallel()
	for _, g := range geosOfCmds() {
		for _, c := range rightCmds(g) {
			wantOk(t, "alone", withBegun(engOf(g), c), true)
			wantOk(t, "twice", withBegun(engOf(g), c, c), false)
		}
		for _, c := range cmdsAlmostRight(g) {
			wantOk(t, "wrong", withBegun(engOf(g), c), false)
		}
	}
}

// Each two right commands as Jobs: right where they have no block in common.
func TestEngOkOfEachTwoJobs(t *testing.T) {
	t.Parallel()
	for _, g := range []impl.Geo{{N: 3, S: 1}, {N: 3, S: 2}, {N: 4, S: 2}} {
		all, oks := rightCmds(g), 0
		for _, a := range all {
			for _, b := range all {
				apart := blocksOfCmd(g, a)&blocksOfCmd(g, b) == 0
				if impl.EngOk(withBegun(engOf(g), a, b)) != apart {
					t.Fatal(g, a, b, "not", apart)
				}
				if apart {
					oks++
				}
			}
		}
		if oks == 0 {
			t.Error("no two are apart", g)
		}
	}
}

// A Job's Geo is that of the array.
func TestEngOkOfOtherGeos(t *testing.T) {
	jobs := fourApart()
	for _, g := range rightGeos() {
		for n := range jobs {
			wantOk(t, "some", withJobs(engOf(g), jobs[:n+1]...), 2*n+1 < blocksIn(g))
			wantOk(t, "one", withJobs(engOf(g), jobs[n]), 2*n+1 < blocksIn(g))
		}
	}
}

// What waits, what is Done and the Log may hold anything: what is a wrong Job,
// and what clashes, among them.
func TestEngOkPassesOverTheOthers(t *testing.T) {
	g := impl.Geo{N: 4, S: 3}
	e := withJobs(engOf(g), fourApart()...)
	for _, c := range slices.Concat(cmdsAlmostRight(g), cornerCmds(), wrongCmds(), rightCmds(g)) {
		wantOk(t, "waits", withWait(e, c, c), true)
		x := e
		x.Log = []impl.Turn{{C: c}, {C: c, A: impl.Ans{Vals: c.Vals}}}
		x.Done = []impl.Ans{{Id: c.Id, Code: c.Op, Vals: c.Vals}, {Id: c.Id}}
		wantOk(t, "done", x, true)
	}
	for _, n := range append([]int{-1, 8, 65536}, far()...) {
		x := e
		x.Done = []impl.Ans{{Id: n}, {Code: n}, {Vals: []int{n}}, {Vals: make([]int, 1000)}}
		for _, a := range x.Done {
			x.Log = append(x.Log, impl.Turn{A: a}, impl.Turn{C: e.Jobs[0].C, A: a})
		}
		wantOk(t, "answers", x, true)
	}
}

// anyJob is mostly right where there are so many blocks.
func anyJob(blocks int, next func(int) int) impl.Job {
	pick := func(often int, seldom ...int) int {
		if n := next(12 * len(seldom)); n < len(seldom) {
			return seldom[n]
		}
		return often
	}
	j := impl.Job{C: anyCmd(blocks, next), At: pick(next(mostAt+1), 0, -1, mostAt, mostAt+1), Code: pick(impl.CoGood, -1, 1, 2, 3, 4, 5, 6, 7, 8)}
	j.Got = upTo(pick(next(impl.MaxRun+1), 0, impl.MaxRun, impl.MaxRun+1))
	if len(j.Got) > 0 {
		j.Got[next(len(j.Got))] = pick(5, 0, -1, 65535, 65536)
	}
	return j
}

// anyEng is mostly right, and mostly has room for one more Job.
func anyEng(next func(int) int) impl.Eng {
	g := geosOfCmds()[next(len(geosOfCmds()))]
	e := engOf(g)
	switch next(8) {
	case 0:
		e.A = anyArr(g, next)
	case 1:
		e.A.Lost, e.A.Built = next(g.N+2)-1, next(2)
	}
	for range next(mostWait+1) + next(40)/39 {
		e = withWait(e, anyCmd(blocksIn(g), next))
	}
	taken := uint64(0)
	for range next(20) {
		j := anyJob(blocksIn(g), next)
		if len(e.Jobs) < mostJobs && taken&blocksOfCmd(g, j.C) == 0 && wantJobOk(g, j) || next(60) == 0 {
			e, taken = withJobs(e, j), taken|blocksOfCmd(g, j.C)
		}
	}
	logs := []int{0, 0, 1, 3, 395, 396, 397, 398, 399, 400, 401}
	return withLog(withDone(e, next(6)+next(20)/16), logs[max(0, next(60)-49)])
}

func TestEngOkOfAnyEng(t *testing.T) {
	t.Parallel()
	next, oks := drawn(811), map[int]int{}
	for range 40000 {
		e := anyEng(next)
		ok := wantEngOk(e)
		if impl.EngOk(e) != ok {
			t.Fatal(e, "not", ok)
		}
		if ok {
			oks[len(e.Jobs)]++
		} else {
			oks[-1]++
		}
	}
	for n := -1; n <= mostJobs; n++ {
		if oks[n] < 100 {
			t.Error("few with so many Jobs (-1 of wrong ones):", n, oks)
		}
	}
}
