package tests

import (
	"fmt"
	"slices"
	"testing"

	"loop.example/g00398/impl"
)

// likely answers a Kind so that courses go on: what is gone comes back, and
// what fails is built anew more often than a second one fails.
func likely(e impl.Eng, next func(int) int) int {
	if e.A.Down && next(3) == 0 {
		return comesOn
	}
	if e.A.Lost >= 0 && next(3) == 0 {
		return []int{comesSpare, comesBuild, comesBuild, comesAdopt}[next(4)]
	}
	often := []int{
		comesSubmit, comesSubmit, comesSubmit, comesSubmit, comesBegin, comesBegin, comesBegin, comesBegin, comesBegin,
		comesWork, comesWork, comesWork, comesWork, comesWork, comesWork, comesWork, comesWork, comesWork, comesWork, comesWork, comesWork,
		comesFetch, comesFetch, comesFetch, comesFetch, comesCheck, comesCheck, comesSpare, comesBuild, comesAdopt, comesOn,
	}
	if n := next(len(often) + 5); n < len(often) {
		return often[n]
	}
	return []int{comesFail, comesSpoil, comesPower, comesPower, wrongKinds()[next(len(wrongKinds()))]}[next(5)]
}

// anyPlace is mostly one of n, or next to them.
func anyPlace(n int, next func(int) int) int {
	if next(15) == 0 {
		l := append([]int{-2, 8, 40, 65535, 65536}, far()...)
		return l[next(len(l))]
	}
	return max(next(n+2)-1, next(n+1)-1)
}

func anyFuse(next func(int) int) int {
	l := append([]int{-1, -1, -1, -1, 0, 1000}, wrongFuses()[:5]...)
	if n := next(2 * len(l)); n < len(l) {
		return l[n]
	}
	return next(60)
}

func anyKeeps(n int, next func(int) int) []int {
	keeps := someKept(max(0, n-2+next(5)), next)
	for m := range keeps {
		switch next(8) {
		case 0:
			keeps[m] = wrongKeeps()[next(len(wrongKeeps()))]
		case 1:
			keeps[m] = keepsOf()[next(len(keepsOf()))]
		}
	}
	return keeps
}

// anyEvent has something in each field, whether its Kind names it or not.
func anyEvent(e impl.Eng, next func(int) int) impl.Event {
	v := impl.Event{Kind: likely(e, next), C: anyCmd(blocksIn(e.A.G), next), S: anyPlace(e.A.G.S, next), Keeps: anyKeeps(e.A.G.N, next)}
	switch v.Kind {
	case comesBegin:
		v.K = anyPlace(len(e.Wait), next)
	case comesWork:
		v.K = anyPlace(len(e.Jobs), next)
	case comesFetch:
		v.K = anyPlace(len(e.Done), next)
	case comesPower, comesOn:
		v.K = anyFuse(next)
	default:
		v.K = anyPlace(e.A.G.N, next)
	}
	return v
}

// A tally is how often each Kind was done, refused, and refused in its midst.
type tally struct{ done, refused, midst [comesOn + 1]int }

func (x *tally) came(v impl.Event, ok, midst bool) {
	kind := v.Kind
	if !within(kind, 1, comesOn) {
		kind = 0
	}
	switch {
	case ok:
		x.done[kind]++
	case midst:
		x.midst[kind]++
	default:
		x.refused[kind]++
	}
}

// goOn asks for the promise itself: an engine that is right is right behind what
// comes, and what is refused turns nothing, but where the power went in its
// midst.
func (x *tally) goOn(t *testing.T, name string, e impl.Eng, v impl.Event) impl.Eng {
	t.Helper()
	y, ok := wantEvent(t, name, e, v)
	if !impl.EngOk(y) || !wantEngOk(y) {
		t.Fatal(name, v, "to", e, "\nleft what is not right:", y)
	}
	midst := within(v.Kind, comesSpare, comesAdopt) && y.A.Down && !e.A.Down
	if !ok && !midst && !alike(y, e) {
		t.Fatal(name, v, "to", e, "\nwas refused, but turned something:", y)
	}
	x.came(v, ok, midst)
	return y
}

// wantRoomKept asks for what Begin keeps, so that each Job can be answered: no
// course of events leaves an engine otherwise.
func wantRoomKept(t *testing.T, e impl.Eng) {
	t.Helper()
	if len(e.Done)+len(e.Jobs) > mostDone || len(e.Log)+len(e.Jobs) > mostLog {
		t.Fatal("no room for an answer:", e)
	}
	for _, j := range e.Jobs {
		read := 0
		if j.C.Op == impl.OpRead {
			read = j.At
		}
		if j.At >= wantSteps(e.A.G, j.C) || len(j.Got) != read || j.Code != impl.CoGood {
			t.Fatal("not a Job as Begin and Work leave it:", j)
		}
	}
}

// keepsRoom tells whether an engine, however it was made, has room for each
// answer and each word that is still to be read.
func keepsRoom(e impl.Eng) bool {
	tooMany := func(j impl.Job) bool { return j.C.Op == impl.OpRead && len(j.Got) > j.At }
	return len(e.Done)+len(e.Jobs) <= mostDone && !slices.ContainsFunc(e.Jobs, tooMany)
}

func TestWhateverComesAnEngineIsRight(t *testing.T) {
	t.Parallel()
	next, all, ends := drawn(1021), &tally{}, map[string]int{}
	for i := range 100 {
		geos := rightGeos()
		e := impl.EngNew(1+next(mostOfAnArr), geos[next(len(geos))])
		for n := range 200 {
			v := anyEvent(e, next)
			e = all.goOn(t, fmt.Sprint(i, " ", n), e, v)
			wantRoomKept(t, e)
			if e.A.Broken && next(15) == 0 {
				ends["Broken"]++
				break
			}
		}
		ends["any"]++
		if impl.Online(e) {
			ends["Online"]++
		}
	}
	for kind := 1; kind <= comesOn; kind++ {
		if all.done[kind] < 25 || all.refused[kind] < 15 && kind != comesCheck && kind != comesPower {
			t.Error("seldom: Kind", kind, all)
		}
	}
	if all.done[0] != 0 || all.refused[0] < 25 || all.midst[comesSpare] == 0 || all.refused[comesCheck]+all.refused[comesPower] != 0 {
		t.Error("seldom, or done:", all)
	}
	if ends["Broken"] < 5 || ends["Online"] < 10 {
		t.Error("seldom:", ends)
	}
}

// Also of engines that no course has left, with anything in their lists.
func TestWhateverComesToAnyEngine(t *testing.T) {
	t.Parallel()
	next, all, engines := drawn(1031), &tally{}, 0
	for i := range 400 {
		e := anyAtWork(next)
		if !wantEngOk(e) || !keepsRoom(e) {
			continue
		}
		engines++
		for n := range 12 {
			e = all.goOn(t, fmt.Sprint("the ", i, "th, ", n), e, anyEvent(e, next))
			if !keepsRoom(e) {
				t.Fatal("no room for an answer:", e)
			}
		}
	}
	if engines < 150 {
		t.Error("seldom were they right:", engines)
	}
	for kind := 1; kind <= comesOn; kind++ {
		if all.done[kind] < 7 {
			t.Error("seldom: Kind", kind, all)
		}
	}
}

// To each engine that stands for a chapter each Kind at each edge: it is right.
func TestEachEventLeavesAnEngineRight(t *testing.T) {
	t.Parallel()
	for i, e := range engsToMeet() {
		if !keepsRoom(e) {
			continue
		}
		for _, kind := range allKinds() {
			for _, v := range eventsOf(kind, e) {
				x, ok := impl.DoEvent(e, v)
				if !impl.EngOk(x) || !keepsRoom(x) {
					t.Fatal(i, v, "to", e, "\nleft what is not right:", x)
				}
				if !ok && !alike(x, e) && !(x.A.Down && !e.A.Down) {
					t.Fatal(i, v, "to", e, "\nwas refused, but turned something:", x)
				}
			}
		}
	}
}

// fewEvents are such of which each can make another one come otherwise.
func fewEvents() []impl.Event {
	return []impl.Event{
		{Kind: 1, C: impl.Cmd{Op: impl.OpFua, Id: 1, Lba: 0, Vals: []int{5, 6}}}, {Kind: 1, C: cmdOf(impl.OpRead, 2, 1, 1)}, {Kind: 1},
		{Kind: 2}, {Kind: 2, K: 1}, {Kind: 3}, {Kind: 4}, {Kind: 5, K: 0}, {Kind: 5, K: 2}, {Kind: 6, K: 1}, {Kind: 7}, {Kind: 8}, {Kind: 9}, {Kind: 10},
		{Kind: 11, K: 0}, {Kind: 11, K: 4}, {Kind: 12, K: -1}, {Kind: 12, K: 2, Keeps: []int{1, 0, 2}},
	}
}

// eachCourse goes through all courses of so many of a few events. An engine that
// has been is not gone on from again.
func eachCourse(t *testing.T, all *tally, e impl.Eng, most int) int {
	t.Helper()
	been, level := map[string]bool{fmt.Sprint(e): true}, []impl.Eng{e}
	for range most {
		behind := []impl.Eng{}
		for _, e := range level {
			for _, v := range fewEvents() {
				x := all.goOn(t, "course", e, v)
				wantRoomKept(t, x)
				if key := fmt.Sprint(x); !been[key] {
					been[key], behind = true, append(behind, x)
				}
			}
		}
		level = behind
	}
	return len(been)
}

func TestEachCourse(t *testing.T) {
	t.Parallel()
	g, all := impl.Geo{N: 3, S: 1}, &tally{}
	flushing := impl.Play(impl.EngNew(arrayId, g), []impl.Event{{Kind: 1, C: cmdOf(impl.OpZero, 3, 0, 1)}, {Kind: 1, C: cmdOf(impl.OpFlush, 4, 0, 0)}, {Kind: 2}, {Kind: 3}, {Kind: 3}, {Kind: 2}})
	spared := impl.Play(flushing, []impl.Event{{Kind: 3}, {Kind: 5, K: 1}, {Kind: 7}})
	been := 0
	for _, e := range []impl.Eng{impl.EngNew(arrayId, g), flushing, spared} {
		been += eachCourse(t, all, e, 3)
	}
	if been < 1000 || slices.Min(all.done[1:]) < 9 {
		t.Error("few:", been, all)
	}
}

// Where Log is full nothing begins until the power was gone.
func TestAFullLogIsRight(t *testing.T) {
	t.Parallel()
	e := tens(impl.Geo{N: 3, S: 1})
	one := []impl.Event{{Kind: 1, C: cmdOf(impl.OpRead, 1, 1, 1)}, {Kind: 2}, {Kind: 3}, {Kind: 3}, {Kind: 4}}
	for i := range mostLog + 2 {
		e = wantEachRight(t, e, one)
		if len(e.Log) != min(i+1, mostLog) || len(e.Jobs)+len(e.Done) != 0 || len(e.Wait) != max(0, i+1-mostLog) {
			t.Fatal(i, len(e.Log), e.Wait, e.Jobs, e.Done)
		}
	}
	for _, kind := range []int{comesBegin, comesWork, comesFetch, comesOn} {
		wantKeptOut(t, "full", e, impl.Event{Kind: kind})
	}
	for _, v := range []impl.Event{{Kind: 5}, {Kind: 7}, {Kind: 8}, {Kind: 9}, {Kind: 10}, {Kind: 11}, {Kind: 10}} {
		e = wantComes(t, "not stopped by it", e, v)
	}
	e = wantComes(t, "on", e, impl.Event{Kind: 12, K: -1})
	if e = wantEachRight(t, e, one); len(e.Log) != 1 || e.Log[0].A.Vals[0] != 11 {
		t.Error(e.Log)
	}
}

// wantEachRight asks for EngOk behind each event, and that they are played so.
func wantEachRight(t *testing.T, e impl.Eng, l []impl.Event) impl.Eng {
	t.Helper()
	x := impl.Play(e, l)
	for _, v := range l {
		if e, _ = impl.DoEvent(e, v); !impl.EngOk(e) {
			t.Fatal(v, "left what is not right:", e)
		}
	}
	if !alike(x, e) {
		t.Fatal("it is played otherwise:", x, e)
	}
	return e
}

// However often it is marked, and however much is written, it is right: where
// the numbers are at their end nothing is marked, nothing written any more.
func TestNumbersAtTheirEndAreRight(t *testing.T) {
	t.Parallel()
	for _, gen := range []int{59980, 59987, 59988, 59989, 59990, 59996, 59997, 59998, 59999, 60000} {
		for _, seq := range []int{59980, 59989, 59990, 59991, 59998, 59999, 60000} {
			next, all := drawn(uint32(gen*7+seq)), &tally{}
			e := tens(impl.Geo{N: 3, S: 2})
			e.A.Gen, e.A.Seq, e.A.Tail = gen, seq, seq
			if !wantEngOk(e) {
				t.Fatal("the tests are wrong:", gen, seq)
			}
			for range 40 {
				e = all.goOn(t, fmt.Sprint("Gen ", gen, " Seq ", seq), e, anyEvent(e, next))
			}
		}
	}
}

// Behind each event of a course the power goes and comes back: it is right, and
// so is what comes then.
func TestThePowerBehindEachEvent(t *testing.T) {
	t.Parallel()
	next, online := drawn(1033), 0
	for i := range 12 {
		g := geosOfCmds()[i%len(geosOfCmds())]
		e := impl.EngNew(arrayId, g)
		for n := range 60 {
			e, _ = impl.DoEvent(e, anyEvent(e, next))
			x := impl.Play(e, []impl.Event{{Kind: 11, K: next(20)}, {Kind: 3}, {Kind: 3, K: 1}, {Kind: 10}, {Kind: 10}, {Kind: 11, K: 0}, {Kind: 10}})
			if marks := e.A.Gen < fullFrom; marks && !x.A.Down || impl.Online(x) || !impl.EngOk(x) {
				t.Fatal(i, n, "is not Down:", x)
			}
			for _, fuse := range []int{-1, next(40)} {
				y, ok := impl.DoEvent(x, impl.Event{Kind: impl.EvOn, K: fuse, Keeps: anyKeeps(g.N, next)})
				if !ok || !impl.EngOk(y) || len(y.Wait)+len(y.Jobs)+len(y.Done)+len(y.Log) != 0 {
					t.Fatal(i, n, "is not back:", y)
				}
				if impl.Online(y) {
					online++
				}
				wantRoomKept(t, wantEachRight(t, y, []impl.Event{anyEvent(y, next), anyEvent(y, next), anyEvent(y, next)}))
			}
		}
	}
	if online < 300 {
		t.Error("seldom was it there again:", online)
	}
}
