package tests

import (
	"fmt"
	"maps"
	"reflect"
	"slices"
	"testing"

	"loop.example/g00398/impl"
)

// wantJobsApart asks for the promise itself: no two Jobs have a block in
// common, and each is one that CmdCode has nothing against.
func wantJobsApart(t *testing.T, e impl.Eng) {
	t.Helper()
	taken := uint64(0)
	for i, j := range e.Jobs {
		blocks := blocksOfCmd(e.A.G, j.C)
		if blocks == 0 || taken&blocks != 0 {
			t.Fatal("the Job", i, "clashes:", e.Jobs)
		}
		taken |= blocks
		for _, other := range e.Jobs[:i] {
			if impl.Clash(e.A.G, j.C, other.C) || impl.Clash(e.A.G, other.C, j.C) {
				t.Fatal("two Jobs clash:", e.Jobs)
			}
		}
	}
	if !impl.EngOk(e) || len(e.Jobs) > mostJobs || len(e.Wait) > mostWait {
		t.Fatal("not EngOk:", e)
	}
}

// eachOrder goes through all ways in which these commands can be submitted, in
// their order, and begun meanwhile, and asks behind each step. It answers how
// many Jobs there were together at most.
func eachOrder(t *testing.T, e impl.Eng, cmds []impl.Cmd) int {
	t.Helper()
	wantJobsApart(t, e)
	most := len(e.Jobs)
	if len(cmds) > 0 {
		x, ok := impl.Submit(e, cmds[0])
		if !ok || len(x.Wait) != len(e.Wait)+1 {
			t.Fatal("not submitted", cmds[0])
		}
		most = max(most, eachOrder(t, x, cmds[1:]))
	}
	for k := range e.Wait {
		if x, ok := impl.Begin(e, k); ok {
			most = max(most, eachOrder(t, x, cmds))
		}
	}
	return most
}

// Whatever is begun, in whatever order.
func TestNoTwoJobsClash(t *testing.T) {
	t.Parallel()
	g := impl.Geo{N: 3, S: 2}
	some := []impl.Cmd{
		cmdOf(impl.OpRead, 1, 0, 1), cmdOf(impl.OpWrite, 2, 1, 2), cmdOf(impl.OpFua, 3, 0, 2), cmdOf(impl.OpFlush, 4, 0, 0),
		cmdOf(impl.OpCompare, 5, 3, 1), cmdOf(impl.OpZero, 6, 2, 2), {Op: impl.OpZero, Id: 7, N: 5},
	}
	together := map[int]int{}
	for _, a := range some {
		for _, b := range some {
			for _, c := range some {
				together[eachOrder(t, impl.EngNew(arrayId, g), []impl.Cmd{a, b, c})]++
			}
		}
	}
	if together[0] == 0 || together[1] == 0 || together[2] == 0 || together[3] == 0 {
		t.Error("not all came:", together)
	}
	// Of five that are apart four can be Jobs.
	apart := []impl.Cmd{}
	for lba := range 5 {
		apart = append(apart, cmdOf(impl.OpZero, 1+lba, lba, 1))
	}
	if most := eachOrder(t, impl.EngNew(arrayId, impl.Geo{N: 5, S: 2}), apart); most != mostJobs {
		t.Error("at most", most)
	}
}

// A course is an engine that comes of calls, with the number of each command
// that waits, and of each Job, as they were submitted.
type course struct {
	e             impl.Eng
	all           []impl.Cmd
	waits, jobs   []int
	began, refuse []int
}

func (x *course) submit(t *testing.T, c impl.Cmd) {
	t.Helper()
	e, ok := wantSubmit(t, "course", x.e, c)
	if !ok {
		return
	}
	x.e, x.waits, x.all = e, append(x.waits, len(x.all)), append(x.all, c)
}

func (x *course) begin(t *testing.T, k int) bool {
	t.Helper()
	e, ok := wantBegin(t, "course", x.e, k)
	if !ok {
		return false
	}
	which := x.waits[k]
	x.e, x.waits = e, slices.Delete(slices.Clone(x.waits), k, k+1)
	if impl.CmdCode(e.A.G, x.all[which]) == impl.CoGood {
		x.jobs, x.began = append(x.jobs, which), append(x.began, which)
	} else {
		x.refuse = append(x.refuse, which)
	}
	return true
}

// leave takes a Job away, as if it were done, and all answers.
func (x *course) leave(k int) {
	x.e.Jobs, x.jobs = slices.Delete(slices.Clone(x.e.Jobs), k, k+1), slices.Delete(slices.Clone(x.jobs), k, k+1)
	x.e.Done = nil
}

// want asks that each command is in one place, as it was submitted, and that
// of two that clash the one that was submitted first began first.
func (x *course) want(t *testing.T) {
	t.Helper()
	wantJobsApart(t, x.e)
	for i, which := range x.waits {
		if !alike(x.e.Wait[i], x.all[which]) || i > 0 && which <= x.waits[i-1] {
			t.Fatal("not the one that waits", i, x.e.Wait)
		}
	}
	for i, which := range x.jobs {
		if !alike(x.e.Jobs[i], impl.Job{C: x.all[which]}) {
			t.Fatal("not the Job", i, x.e.Jobs)
		}
	}
	for i, which := range x.refuse {
		if !alike(x.e.Log[i].C, x.all[which]) || x.e.Log[i].A.Id != x.all[which].Id || x.e.Log[i].A.Code == impl.CoGood {
			t.Fatal("not what was refused", i, x.e.Log)
		}
	}
	if len(x.e.Wait) != len(x.waits) || len(x.e.Jobs) != len(x.jobs) || len(x.e.Log) != len(x.refuse) {
		t.Fatal("not as many", x)
	}
	for i, later := range x.began {
		for _, which := range append(slices.Clone(x.began[i+1:]), x.waits...) {
			if which < later && impl.Clash(x.e.A.G, x.all[which], x.all[later]) {
				t.Fatal(x.all[later], "began ahead of", x.all[which])
			}
		}
	}
}

func TestWhatClashesBeginsInOrder(t *testing.T) {
	t.Parallel()
	next, begun, not, together := drawn(823), 0, 0, map[int]int{}
	for range 60 {
		g := geosOfCmds()[next(len(geosOfCmds()))]
		x := &course{e: impl.EngNew(arrayId, g)}
		was := plain(x.e.A)
		for range 60 {
			switch n := next(10); {
			case n < 4:
				x.submit(t, anyCmd(blocksIn(g), next))
			case n < 8 && len(x.e.Wait) > 0:
				if x.begin(t, next(len(x.e.Wait))) {
					begun++
				} else {
					not++
				}
			case n == 8 && len(x.e.Jobs) > 0:
				x.leave(next(len(x.e.Jobs)))
			}
			together[len(x.e.Jobs)]++
			x.want(t)
		}
		if !alike(x.e.A, was) {
			t.Fatal("the array turned", x.e.A)
		}
	}
	if begun < 500 || not < 300 || together[mostJobs] < 50 {
		t.Error("seldom:", begun, not, together)
	}
}

// Refused ones alone fill Done, and then nothing begins until one is fetched.
func TestRefusedOnesFillDone(t *testing.T) {
	e := impl.EngNew(arrayId, impl.Geo{N: 3, S: 2})
	for i := range 3 * mostDone {
		e, _ = wantSubmit(t, "refused", e, impl.Cmd{Op: impl.OpRead, Id: 1 + i})
		x, ok := wantBegin(t, "refused", e, 0)
		if ok != (i < mostDone) || len(x.Done) != min(i+1, mostDone) || len(x.Log) != len(x.Done) || len(x.Wait) != min(max(0, i-7), mostWait) {
			t.Fatal(i, ok, x)
		}
		e = x
	}
	for i, a := range e.Done {
		if !alike(a, impl.Ans{Id: 1 + i, Code: impl.CoSize}) || !alike(a, e.Log[i].A) {
			t.Error(i, a)
		}
	}
	e.Done = e.Done[1:]
	if x, ok := wantBegin(t, "once more", e, 7); !ok || x.Done[7].Id != 16 || len(x.Log) != 9 {
		t.Error(x, ok)
	}
}

// engsToHoldApart answers right and wrong ones, some of which have one list in
// several places.
func engsToHoldApart() []impl.Eng {
	l := append(cornerEngs(), impl.Eng{}, impl.Eng{Jobs: fourApart()})
	wrong := wrongEngs()
	for i, name := range slices.Sorted(maps.Keys(wrong)) {
		if i%(len(wrong)/40) == 0 {
			l = append(l, wrong[name])
		}
	}
	g, vals := impl.Geo{N: 4, S: 3}, []int{1, 2, 3, 4, 5, 6}
	write := impl.Cmd{Op: impl.OpWrite, Id: 1, Lba: 3, Vals: vals}
	refused := impl.Cmd{Op: impl.OpCompare, Id: 2, Vals: vals}
	e := withWait(withBegun(engOf(g), impl.Cmd{Op: impl.OpFua, Id: 3, Vals: vals[:3]}), refused, write, refused, write)
	e.Jobs[0].Got = vals
	e.Done = []impl.Ans{{Vals: vals}, {Vals: vals}}
	e.Log = []impl.Turn{{C: write, A: e.Done[0]}, {C: refused, A: e.Done[1]}}
	return append(l, e, withJobAt(e, 0, func(j *impl.Job) { j.At = -1 }))
}

// leftBehind tells whether anything stands behind the length of a list of v.
func leftBehind(v reflect.Value) bool {
	switch v.Kind() {
	case reflect.Slice:
		for i := range v.Cap() {
			x := v.Slice(0, v.Cap()).Index(i)
			if i >= v.Len() && !x.IsZero() || i < v.Len() && leftBehind(x) {
				return true
			}
		}
	case reflect.Struct:
		for i := range v.NumField() {
			if leftBehind(v.Field(i)) {
				return true
			}
		}
	}
	return false
}

func TestLeftBehind(t *testing.T) {
	e := withWait(engOf(impl.Geo{N: 3, S: 1}), cmdOf(impl.OpFua, 1, 0, 2))
	for name, c := range map[string]struct {
		v    any
		left bool
	}{
		"none": {e, false}, "spare": {slices.Grow([]int{1}, 9), false}, "nil": {impl.Eng{}, false},
		"junk": {roomy(e), true}, "cut": {e.Wait[:0], true}, "cut within": {[]impl.Cmd{{Vals: upTo(3)[:2]}}, true},
	} {
		if leftBehind(reflect.ValueOf(c.v)) != c.left {
			t.Error(name, !c.left)
		}
	}
}

func wantEngApart(t *testing.T, name string, args []any, call func() impl.Eng) {
	t.Helper()
	holdsApart(t, name, args, func() []any { return []any{call(), call()} })
	if x := call(); leftBehind(reflect.ValueOf(x)) {
		t.Error(name, "leaves something behind a list:", x)
	}
}

func TestEnginesHoldApart(t *testing.T) {
	t.Parallel()
	for _, plainly := range engsToHoldApart() {
		e := roomy(plainly)
		holdsApart(t, "EngOk", []any{e}, func() []any { return []any{impl.EngOk(e)} })
		for _, k := range []int{-1, 0, 1, 2, 3, 4, 7, 8, 9} {
			holdsApart(t, "CanBegin", []any{e}, func() []any { return []any{impl.CanBegin(e, k)} })
			for _, x := range []impl.Eng{e, plainly} {
				wantEngApart(t, fmt.Sprint("Begin ", k), []any{x}, func() impl.Eng {
					y, _ := impl.Begin(x, k)
					return y
				})
			}
		}
		for _, plainly := range append(cornerCmds(), impl.Cmd{}, impl.Cmd{Vals: make([]int, 30)}) {
			c := roomy(plainly)
			wantEngApart(t, "Submit", []any{e, c}, func() impl.Eng {
				y, _ := impl.Submit(e, c)
				return y
			})
		}
		if len(e.Wait) > 0 {
			wantEngApart(t, "Submit of one that waits", []any{e}, func() impl.Eng {
				y, _ := impl.Submit(e, e.Wait[0])
				return y
			})
		}
	}
	for _, g := range append(rightGeos(), impl.Geo{}) {
		wantEngApart(t, "EngNew", nil, func() impl.Eng { return impl.EngNew(arrayId, g) })
	}
}

// What is behind the lengths would clash, be too many, or be wrong.
func TestWhatLiesBehindAnEngIsNotRead(t *testing.T) {
	g := impl.Geo{N: 4, S: 3}
	flush, read := cmdOf(impl.OpFlush, 9, 0, 0), cmdOf(impl.OpRead, 8, 3, 2)
	e := withLog(withDone(withWait(withBegun(engOf(g), cmdOf(impl.OpZero, 1, 0, 1), flush, flush, flush, flush), read, flush, read), 9), 401)
	e.Jobs, e.Wait, e.Done, e.Log = e.Jobs[:1], e.Wait[:1], e.Done[:1], e.Log[:1]
	e.Jobs[0].Got, e.Jobs[0].C.Vals = []int{1, -1}[:1], upTo(9)[:0]
	wantOk(t, "behind", e, true)
	wantCans(t, "behind", e, true)
	wantSubmit(t, "behind", e, flush)
	e.Wait = e.Wait[:0]
	wantCans(t, "none waits", e)
	x, _ := wantSubmit(t, "none waits", e, impl.Cmd{Op: impl.OpWrite, Id: 5, Lba: 8, Vals: []int{5, 6}[:1]})
	wantCans(t, "the first", x, true)
}

// What was answered stays as it was, and so does what was handed in.
func TestEnginesTurnApart(t *testing.T) {
	g := impl.Geo{N: 4, S: 3}
	c := impl.Cmd{Op: impl.OpWrite, Id: 1, Lba: 0, Vals: []int{5, 6}}
	bad := impl.Cmd{Op: impl.OpCompare, Id: 2, Vals: []int{7}}
	e := withWait(withBegun(impl.EngNew(arrayId, g), cmdOf(impl.OpFua, 3, 4, 2)), bad, c)
	e.Jobs[0].Got, e.Done, e.Log = []int{8}, []impl.Ans{{Vals: []int{9}}}, []impl.Turn{{C: bad, A: impl.Ans{Vals: []int{10}}}}
	e, was := plain(e), plain(e)
	submitted, _ := impl.Submit(e, c)
	job, _ := impl.Begin(e, 1)
	refused, _ := impl.Begin(e, 0)
	same, _ := impl.Begin(e, 2)
	answers := []impl.Eng{submitted, job, refused, same}
	then := plain(answers[3])
	for i, x := range answers {
		for _, l := range [][]int{x.Wait[0].Vals, x.Jobs[0].C.Vals, x.Jobs[len(x.Jobs)-1].C.Vals, x.Jobs[0].Got, x.Done[0].Vals, x.Log[0].C.Vals, x.Log[len(x.Log)-1].C.Vals, x.Log[0].A.Vals, x.A.Mems[0].Secs[0]} {
			l[0] = 99
		}
		x.Wait[0].Op, x.Jobs[0].At, x.Done[0].Id, x.Log[0].A.Id, x.A.Mems[1].Failed = 99, 99, 99, 99, true
		if !alike(e, was) || !slices.Equal(c.Vals, []int{5, 6}) || i < 3 && !alike(same, then) {
			t.Fatal("it turned", i, e)
		}
	}
	again, _ := impl.Submit(e, c)
	now := plain(again)
	c.Vals[0], e.Wait[0].Vals[0], e.Jobs[0].Got[0], e.Log[0].A.Vals[0], e.A.Mems[0].Secs[firstStripe][0] = 98, 98, 98, 98, 98
	if !alike(again, now) {
		t.Error("it turned", again)
	}
}
