package tests

import (
	"fmt"
	"slices"
	"testing"

	"loop.example/g00398/impl"
)

// wantPart is what the document says that a command does at one of its times:
// the array behind it, what was read, and the code.
func wantPart(a impl.Arr, c impl.Cmd, at int) (impl.Arr, []int, int) {
	var code int
	var read []int
	switch {
	case c.Op == impl.OpRead:
		n, got := wantGot(a, c.Lba+at)
		read, code = []int{n}, got
	case c.Op == impl.OpZero:
		a, code = wantSet(a, c.Lba+at, 0)
	case c.Op == impl.OpFlush:
		a, code = wantStripeFlushed(a, at)
	case c.Op == impl.OpCompare:
		n, got := wantGot(a, c.Lba)
		if got == impl.CoGood && n != c.Vals[0] {
			got = impl.CoMiss
		}
		if code = got; code == impl.CoGood {
			a, code = wantSet(a, c.Lba, c.Vals[1])
		}
	case at < len(c.Vals):
		a, code = wantSet(a, c.Lba+at, c.Vals[at])
	default:
		a, code = wantStripeFlushed(a, stripesOfCmd(a.G, c)[at-len(c.Vals)])
	}
	return a, read, code
}

// wantAnswered is what the document says of a Job that is answered.
func wantAnswered(e impl.Eng, k int) impl.Eng {
	j := e.Jobs[k]
	ans := impl.Ans{Id: j.C.Id, Code: j.Code}
	if j.C.Op == impl.OpRead && j.Code == impl.CoGood {
		ans.Vals = j.Got
	}
	e.Jobs = slices.Concat(e.Jobs[:k], e.Jobs[k+1:])
	e.Done = slices.Concat(e.Done, []impl.Ans{ans})
	e.Log = slices.Concat(e.Log, []impl.Turn{{C: j.C, A: ans}})
	return e
}

// wantWorked is what the document says of a Job that is worked on.
func wantWorked(e impl.Eng, k int) (impl.Eng, bool) {
	if !wantEngOk(e) || k < 0 || k >= len(e.Jobs) || len(e.Log) == mostLog {
		return e, false
	}
	j := e.Jobs[k]
	if j.Code != impl.CoGood || j.At >= wantSteps(e.A.G, j.C)-1 {
		return wantAnswered(e, k), true
	}
	a, read, code := wantPart(e.A, j.C, j.At)
	e = withJobAt(e, k, func(j *impl.Job) { j.At, j.Got, j.Code = j.At+1, slices.Concat(j.Got, read), code })
	e.A = a
	if code != impl.CoGood {
		return wantAnswered(e, k), true
	}
	return e, true
}

// wantWork asks what Work does, with junk behind the lists or not.
func wantWork(t *testing.T, name string, e impl.Eng, k int) (impl.Eng, bool) {
	t.Helper()
	want, ok := wantWorked(e, k)
	for _, on := range []impl.Eng{e, roomy(e)} {
		if x, is := impl.Work(on, k); is != ok || !alike(x, want) {
			t.Fatal(name, k, "of", on, "\nanswered", is, x, "\nnot", ok, want)
		}
	}
	return want, ok
}

// jobsOf answers each place of a Job, and those beside and far off.
func jobsOf(e impl.Eng) []int {
	l := append([]int{-1, -2, -len(e.Jobs), len(e.Jobs) + 1, mostJobs, mostJobs + 1, 256, 65536}, far()...)
	for k := range len(e.Jobs) + 1 {
		l = append(l, k)
	}
	return l
}

// tens answers an engine of which each block is on the disks, and has 10 and
// its place.
func tens(g impl.Geo) impl.Eng {
	e := impl.EngNew(arrayId, g)
	for s := range g.S {
		data := []int{}
		for i := range g.N - 1 {
			data = append(data, 10+s*(g.N-1)+i)
		}
		e.A, _ = impl.WriteStripe(e.A, s, data)
	}
	return e
}

// An atTime is what is there behind one more Work.
type atTime struct {
	at      int
	got     []int
	dirty   []impl.Ent
	durable []int
}

func entAt(s int, data ...int) impl.Ent { return impl.Ent{Stripe: s, Data: data} }

// wantTimes asks time by time, and for the answer behind the last one.
func wantTimes(t *testing.T, name string, e impl.Eng, c impl.Cmd, times []atTime, ans impl.Ans) {
	t.Helper()
	e = withBegun(e, c)
	if n := impl.StepsOf(e.A.G, c); n != len(times)+1 && ans.Code == impl.CoGood {
		t.Fatal("the tests are wrong:", name, n)
	}
	for i, x := range times {
		e, _ = wantWork(t, name, e, 0)
		if len(e.Jobs) != 1 || !alike(e.Jobs[0], impl.Job{C: c, At: x.at, Got: x.got}) || len(e.Done)+len(e.Log) != 0 {
			t.Fatal(name, i, "Jobs", e.Jobs, e.Done, e.Log, "not", x)
		}
		if !alike(e.A.Dirty, x.dirty) || !slices.Equal(impl.Durable(e.A), x.durable) {
			t.Fatal(name, i, "Dirty", e.A.Dirty, "Durable", impl.Durable(e.A), "not", x)
		}
		if !impl.EngOk(e) {
			t.Fatal(name, i, "is not EngOk", e)
		}
	}
	last, ok := wantWork(t, name, e, 0)
	if !ok || len(last.Jobs) != 0 || !alike(last.Done, []impl.Ans{ans}) || !alike(last.Log, []impl.Turn{{C: c, A: ans}}) {
		t.Fatal(name, "was answered", last, "not", ans)
	}
	if !alike(last.A, e.A) && ans.Code != impl.CoMiss {
		t.Fatal(name, "the array turned behind the last part", last.A)
	}
}

// now answers the blocks of tens, with some set.
func now(change ...int) []int {
	l := []int{10, 11, 12, 13, 14, 15, 16, 17, 18}
	for i := 0; i < len(change); i += 2 {
		l[change[i]] = change[i+1]
	}
	return l
}

func TestReadTimeByTime(t *testing.T) {
	e := tens(impl.Geo{N: 4, S: 3})
	wantTimes(t, "one", e, impl.Cmd{Op: impl.OpRead, Id: 3, Lba: 8, N: 1}, []atTime{{1, []int{18}, nil, now()}}, impl.Ans{Id: 3, Vals: []int{18}})
	wantTimes(t, "over two stripes", e, impl.Cmd{Op: impl.OpRead, Id: 4, Lba: 2, N: 2}, []atTime{
		{1, []int{12}, nil, now()},
		{2, []int{12, 13}, nil, now()},
	}, impl.Ans{Id: 4, Vals: []int{12, 13}})
	wantTimes(t, "the most", e, impl.Cmd{Op: impl.OpRead, Id: 999, Lba: 0, N: 6}, []atTime{
		{1, []int{10}, nil, now()},
		{2, []int{10, 11}, nil, now()},
		{3, []int{10, 11, 12}, nil, now()},
		{4, []int{10, 11, 12, 13}, nil, now()},
		{5, []int{10, 11, 12, 13, 14}, nil, now()},
		{6, []int{10, 11, 12, 13, 14, 15}, nil, now()},
	}, impl.Ans{Id: 999, Vals: []int{10, 11, 12, 13, 14, 15}})
	// What is only in memory is what the block is.
	e.A.Dirty = []impl.Ent{entAt(1, 70, 71, 72)}
	wantTimes(t, "of memory", e, impl.Cmd{Op: impl.OpRead, Id: 5, Lba: 2, N: 2, Vals: upTo(3)}, []atTime{
		{1, []int{12}, e.A.Dirty, now()},
		{2, []int{12, 70}, e.A.Dirty, now()},
	}, impl.Ans{Id: 5, Vals: []int{12, 70}})
}

func TestWriteTimeByTime(t *testing.T) {
	e := tens(impl.Geo{N: 4, S: 3})
	wantTimes(t, "one", e, impl.Cmd{Op: impl.OpWrite, Id: 3, Lba: 1, Vals: []int{7}}, []atTime{
		{1, nil, []impl.Ent{entAt(0, 10, 7, 12)}, now()},
	}, impl.Ans{Id: 3})
	wantTimes(t, "over three stripes", e, impl.Cmd{Op: impl.OpWrite, Id: 999, Lba: 2, N: 9, Vals: []int{1, 2, 3, 4, 65535}}, []atTime{
		{1, nil, []impl.Ent{entAt(0, 10, 11, 1)}, now()},
		{2, nil, []impl.Ent{entAt(0, 10, 11, 1), entAt(1, 2, 14, 15)}, now()},
		{3, nil, []impl.Ent{entAt(0, 10, 11, 1), entAt(1, 2, 3, 15)}, now()},
		{4, nil, []impl.Ent{entAt(0, 10, 11, 1), entAt(1, 2, 3, 4)}, now()},
		{5, nil, []impl.Ent{entAt(0, 10, 11, 1), entAt(1, 2, 3, 4), entAt(2, 65535, 17, 18)}, now()},
	}, impl.Ans{Id: 999})
}

func TestZeroTimeByTime(t *testing.T) {
	e := tens(impl.Geo{N: 4, S: 3})
	wantTimes(t, "one", e, impl.Cmd{Op: impl.OpZero, Id: 3, Lba: 0, N: 1, Vals: []int{9}}, []atTime{
		{1, nil, []impl.Ent{entAt(0, 0, 11, 12)}, now()},
	}, impl.Ans{Id: 3})
	e.A.Dirty = []impl.Ent{entAt(2, 80, 81, 82)}
	wantTimes(t, "over two stripes", e, impl.Cmd{Op: impl.OpZero, Id: 1, Lba: 4, N: 4, Vals: upTo(6)}, []atTime{
		{1, nil, []impl.Ent{entAt(1, 13, 0, 15), entAt(2, 80, 81, 82)}, now()},
		{2, nil, []impl.Ent{entAt(1, 13, 0, 0), entAt(2, 80, 81, 82)}, now()},
		{3, nil, []impl.Ent{entAt(1, 13, 0, 0), entAt(2, 0, 81, 82)}, now()},
		{4, nil, []impl.Ent{entAt(1, 13, 0, 0), entAt(2, 0, 0, 82)}, now()},
	}, impl.Ans{Id: 1})
}

func TestFuaTimeByTime(t *testing.T) {
	e := tens(impl.Geo{N: 4, S: 3})
	wantTimes(t, "in one stripe", e, impl.Cmd{Op: impl.OpFua, Id: 3, Lba: 4, Vals: []int{7}}, []atTime{
		{1, nil, []impl.Ent{entAt(1, 13, 7, 15)}, now()},
		{2, nil, nil, now(4, 7)},
	}, impl.Ans{Id: 3})
	wantTimes(t, "in two stripes", e, impl.Cmd{Op: impl.OpFua, Id: 4, Lba: 3, N: 1, Vals: []int{7, 8, 9, 6}}, []atTime{
		{1, nil, []impl.Ent{entAt(1, 7, 14, 15)}, now()},
		{2, nil, []impl.Ent{entAt(1, 7, 8, 15)}, now()},
		{3, nil, []impl.Ent{entAt(1, 7, 8, 9)}, now()},
		{4, nil, []impl.Ent{entAt(1, 7, 8, 9), entAt(2, 6, 17, 18)}, now()},
		{5, nil, []impl.Ent{entAt(2, 6, 17, 18)}, now(3, 7, 4, 8, 5, 9)},
		{6, nil, nil, now(3, 7, 4, 8, 5, 9, 6, 6)},
	}, impl.Ans{Id: 4})
	wantTimes(t, "in three stripes", e, impl.Cmd{Op: impl.OpFua, Id: 999, Lba: 2, Vals: []int{1, 2, 3, 4, 5}}, []atTime{
		{1, nil, []impl.Ent{entAt(0, 10, 11, 1)}, now()},
		{2, nil, []impl.Ent{entAt(0, 10, 11, 1), entAt(1, 2, 14, 15)}, now()},
		{3, nil, []impl.Ent{entAt(0, 10, 11, 1), entAt(1, 2, 3, 15)}, now()},
		{4, nil, []impl.Ent{entAt(0, 10, 11, 1), entAt(1, 2, 3, 4)}, now()},
		{5, nil, []impl.Ent{entAt(0, 10, 11, 1), entAt(1, 2, 3, 4), entAt(2, 5, 17, 18)}, now()},
		{6, nil, []impl.Ent{entAt(1, 2, 3, 4), entAt(2, 5, 17, 18)}, now(2, 1)},
		{7, nil, []impl.Ent{entAt(2, 5, 17, 18)}, now(2, 1, 3, 2, 4, 3, 5, 4)},
		{8, nil, nil, now(2, 1, 3, 2, 4, 3, 5, 4, 6, 5)},
	}, impl.Ans{Id: 999})
	// What was in memory of its stripe goes with it, what is of another stays.
	e.A.Dirty = []impl.Ent{entAt(0, 60, 61, 62), entAt(1, 70, 71, 72)}
	wantTimes(t, "of memory", e, impl.Cmd{Op: impl.OpFua, Id: 5, Lba: 5, Vals: []int{7}}, []atTime{
		{1, nil, []impl.Ent{entAt(0, 60, 61, 62), entAt(1, 70, 71, 7)}, now()},
		{2, nil, []impl.Ent{entAt(0, 60, 61, 62)}, now(3, 70, 4, 71, 5, 7)},
	}, impl.Ans{Id: 5})
}

func TestFlushTimeByTime(t *testing.T) {
	e := tens(impl.Geo{N: 4, S: 3})
	flush := impl.Cmd{Op: impl.OpFlush, Id: 3, Lba: 5, N: -1, Vals: upTo(9)}
	wantTimes(t, "nothing in memory", e, flush, []atTime{{1, nil, nil, now()}, {2, nil, nil, now()}, {3, nil, nil, now()}}, impl.Ans{Id: 3})
	zero, one, two := entAt(0, 60, 61, 62), entAt(1, 70, 71, 72), entAt(2, 80, 81, 82)
	e.A.Dirty = []impl.Ent{zero, one, two}
	wantTimes(t, "all in memory", e, flush, []atTime{
		{1, nil, []impl.Ent{one, two}, now(0, 60, 1, 61, 2, 62)},
		{2, nil, []impl.Ent{two}, now(0, 60, 1, 61, 2, 62, 3, 70, 4, 71, 5, 72)},
		{3, nil, nil, []int{60, 61, 62, 70, 71, 72, 80, 81, 82}},
	}, impl.Ans{Id: 3})
	e.A.Dirty = []impl.Ent{zero, two}
	wantTimes(t, "not the one in the midst", e, flush, []atTime{
		{1, nil, []impl.Ent{two}, now(0, 60, 1, 61, 2, 62)},
		{2, nil, []impl.Ent{two}, now(0, 60, 1, 61, 2, 62)},
		{3, nil, nil, now(0, 60, 1, 61, 2, 62, 6, 80, 7, 81, 8, 82)},
	}, impl.Ans{Id: 3})
	e.A.Dirty = []impl.Ent{one}
	wantTimes(t, "the one in the midst", e, flush, []atTime{
		{1, nil, []impl.Ent{one}, now()},
		{2, nil, nil, now(3, 70, 4, 71, 5, 72)},
		{3, nil, nil, now(3, 70, 4, 71, 5, 72)},
	}, impl.Ans{Id: 3})
}

func TestCompareTimeByTime(t *testing.T) {
	e := tens(impl.Geo{N: 4, S: 3})
	finds := func(name string, lba, there, toBe int, dirty ...impl.Ent) {
		t.Helper()
		wantTimes(t, name, e, impl.Cmd{Op: impl.OpCompare, Id: 3, Lba: lba, N: 7, Vals: []int{there, toBe}}, []atTime{{1, nil, dirty, now()}}, impl.Ans{Id: 3})
	}
	misses := func(name string, lba, there, toBe int) {
		t.Helper()
		wantTimes(t, name, e, impl.Cmd{Op: impl.OpCompare, Id: 999, Lba: lba, Vals: []int{there, toBe}}, nil, impl.Ans{Id: 999, Code: impl.CoMiss})
	}
	finds("found", 4, 14, 7, entAt(1, 13, 7, 15))
	finds("found, the greatest", 8, 18, 65535, entAt(2, 16, 17, 65535))
	finds("set to what it is", 0, 10, 10, entAt(0, 10, 11, 12))
	misses("another word", 4, 13, 7)
	misses("the second word already", 4, 7, 14)
	misses("0", 4, 0, 14)
	e.A.Dirty = []impl.Ent{entAt(1, 70, 71, 72)}
	finds("found in memory", 4, 71, 7, entAt(1, 70, 7, 72))
	misses("on the disks alone", 4, 14, 7)
}

// An OpCompare misses in its first time: it is answered at once, and nothing
// turns.
func TestMissIsAnsweredAtOnce(t *testing.T) {
	e := tens(impl.Geo{N: 4, S: 3})
	for b := range 9 {
		for _, n := range []int{0, 9 + b, 11 + b, 65535} {
			c := impl.Cmd{Op: impl.OpCompare, Id: 5, Lba: b, Vals: []int{n, 10 + b}}
			x, ok := wantWork(t, "misses", withBegun(e, c), 0)
			if !ok || len(x.Jobs) != 0 || !alike(x.Done, []impl.Ans{{Id: 5, Code: impl.CoMiss}}) || !alike(x.A, e.A) {
				t.Error(b, n, x, ok)
			}
		}
	}
}

// workedThrough works on the only Job until it is answered, and answers how
// often it was.
func workedThrough(t *testing.T, name string, e impl.Eng) (impl.Eng, int) {
	t.Helper()
	for n := 1; n <= mostAt+1; n++ {
		x, ok := wantWork(t, name, e, len(e.Jobs)-1)
		if !ok {
			t.Fatal(name, n, "is not worked on", e)
		}
		if len(x.Jobs) < len(e.Jobs) {
			return x, n
		}
		e = x
	}
	t.Fatal(name, "is not answered", e)
	return e, 0
}

// Each right command from its first time to its last, whatever is lost or in
// memory: it is answered behind StepsOf times, as it is meant on blocks alone.
func TestWorkFromFirstToLast(t *testing.T) {
	t.Parallel()
	next := drawn(901)
	for _, g := range geosOfCmds() {
		a, _ := filled(g, next)
		standings := standingsAt(a, next(g.S))
		for i, c := range rightCmds(g) {
			at := standings[next(len(standings))]
			e := impl.Eng{A: withEnts(at.a, stripesIn(next(1<<g.S), g.S)...)}
			blocks := wantContents(e.A)
			if c.Op == impl.OpCompare && next(2) == 0 {
				c.Vals[0] = blocks[c.Lba]
			}
			x, n := workedThrough(t, fmt.Sprint(at.name, i), withBegun(e, c))
			want, ans := wantDone(g, blocks, c)
			if !alike(x.Done, []impl.Ans{ans}) || !slices.Equal(wantContents(x.A), want) || !impl.EngOk(x) {
				t.Fatal(at.name, g, c, "answered", x.Done, "not", ans, "blocks", wantContents(x.A), "not", want)
			}
			steps := wantSteps(g, c)
			if ans.Code == impl.CoMiss {
				steps = 1
			}
			if n != steps {
				t.Fatal(g, c, "was worked on", n, "times, not", steps)
			}
		}
	}
}

// Behind an OpFua its blocks are on the disks, behind an OpFlush all are; of
// the other stripes what was in memory is there still.
func TestWhatIsSureIsOnTheDisks(t *testing.T) {
	t.Parallel()
	next := drawn(907)
	for _, g := range geosOfCmds() {
		a, _ := filled(g, next)
		for _, c := range rightCmds(g) {
			if c.Op != impl.OpFua && c.Op != impl.OpFlush {
				continue
			}
			e := impl.Eng{A: withEnts(a, stripesIn(next(1<<g.S), g.S)...)}
			x, _ := workedThrough(t, "sure", withBegun(e, c))
			contents, durable := wantContents(x.A), wantDurable(x.A)
			for b := range contents {
				if blocksOfCmd(g, c)>>b&1 == 1 && durable[b] != contents[b] {
					t.Fatal(g, c, "block", b, "is not on the disks", x.A)
				}
			}
			flushed := stripesOfCmd(g, c)
			left := slices.DeleteFunc(stripesInMemory(e.A), func(s int) bool { return slices.Contains(flushed, s) })
			if !slices.Equal(stripesInMemory(x.A), left) {
				t.Fatal(g, c, "in memory is", x.A.Dirty, "not", left)
			}
		}
	}
}
