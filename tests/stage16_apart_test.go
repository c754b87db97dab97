package tests

import (
	"fmt"
	"reflect"
	"testing"

	"loop.example/g00398/impl"
)

// engsAtWork answers right ones, of whose Jobs some have a part left and some
// none, and some of which have one list in several places.
func engsAtWork() []impl.Eng {
	g, l := impl.Geo{N: 4, S: 3}, []impl.Eng{}
	memory := tens(g)
	memory.A.Dirty = []impl.Ent{entAt(0, 10, 61, 12), entAt(1, 70, 71, 72)}
	off := memory
	off.A = impl.PowerOff(memory.A)
	for _, e := range []impl.Eng{tens(g), memory, off} {
		for _, c := range oneOfEach() {
			for at := range wantSteps(g, c) {
				l = append(l, withLog(withDone(withWait(withJobs(e, impl.Job{C: c, At: at, Got: upTo(min(at, 3))}), anyWaiting()...), 2), 2))
			}
		}
		l = append(l, withBegun(e, fourToWork().Jobs[0].C, fourToWork().Jobs[2].C, fourToWork().Jobs[3].C))
	}
	vals := []int{12, 2, 3, 4, 5, 6}
	for _, at := range []int{0, 1, 2, 3} {
		e := withJobs(withWait(memory, impl.Cmd{Op: impl.OpWrite, Id: 1, Vals: vals}),
			impl.Job{C: impl.Cmd{Op: impl.OpRead, Id: 1, Lba: 0, N: 2, Vals: vals}, At: at, Got: vals[:at]},
			impl.Job{C: impl.Cmd{Op: impl.OpFua, Id: 2, Lba: 3, Vals: vals[:2]}, At: at, Got: vals},
			impl.Job{C: impl.Cmd{Op: impl.OpCompare, Id: 3, Lba: 2, Vals: vals[:2]}, Got: vals[:at]},
			impl.Job{C: impl.Cmd{Op: impl.OpRead, Id: 4, Lba: 6, N: 3}, At: 3 - at/2, Got: vals[:3]})
		e.Done = []impl.Ans{{Vals: vals}, {Vals: vals[:at]}}
		e.Log = []impl.Turn{{C: e.Jobs[0].C, A: e.Done[0]}, {C: e.Jobs[0].C, A: e.Done[1]}}
		l = append(l, e)
	}
	return l
}

func TestWorkHoldsApart(t *testing.T) {
	t.Parallel()
	for i, e := range engsAtWork() {
		if !wantEngOk(e) {
			t.Error("the tests are wrong:", i, e)
		}
	}
	for _, plainly := range append(engsToHoldApart(), engsAtWork()...) {
		for _, e := range []impl.Eng{plainly, roomy(plainly)} {
			for _, k := range []int{-1, 0, 1, 2, 3, 4} {
				wantEngApart(t, fmt.Sprint("Work ", k), []any{e}, func() impl.Eng {
					x, _ := impl.Work(e, k)
					return x
				})
			}
			for _, n := range []int{-1, 0, 1, 4, 1000} {
				wantEngApart(t, fmt.Sprint("WorkAll ", n), []any{e}, func() impl.Eng { return impl.WorkAll(e, n) })
			}
		}
	}
}

func TestFetchHoldsApart(t *testing.T) {
	t.Parallel()
	for _, plainly := range append(engsToHoldApart(), engsAtWork()...) {
		for _, e := range []impl.Eng{plainly, roomy(plainly)} {
			for _, k := range []int{-1, 0, 1, 7, 8} {
				holdsApart(t, fmt.Sprint("Fetch ", k), []any{e}, func() []any {
					x, ans, _ := impl.Fetch(e, k)
					y, again, _ := impl.Fetch(e, k)
					return []any{x, ans, y, again}
				})
				if x, ans, _ := impl.Fetch(e, k); leftBehind(reflect.ValueOf(x)) || leftBehind(reflect.ValueOf(ans)) {
					t.Error("Fetch", k, "leaves something behind a list:", x, ans)
				}
			}
		}
	}
}

// What was answered stays as it was, whatever becomes of what else was, and so
// does what was handed in.
func TestWorkTurnsApart(t *testing.T) {
	read := impl.Cmd{Op: impl.OpRead, Id: 1, Lba: 0, N: 2, Vals: []int{5}}
	fua := impl.Cmd{Op: impl.OpFua, Id: 2, Lba: 4, Vals: []int{6, 7}}
	e := plain(withBegun(tens(impl.Geo{N: 4, S: 3}), read, fua))
	was := plain(e)
	first, _ := impl.Work(e, 0)
	second, _ := impl.Work(first, 0)
	secondWas := plain(second)
	answered, _ := impl.Work(second, 0)
	logged := impl.Turn{C: read, A: impl.Ans{Id: 1, Vals: []int{10, 11}}}
	left, ans, _ := impl.Fetch(answered, 0)
	answered.Done[0].Vals[0], answered.Jobs[0].C.Vals[1] = 99, 99
	if !alike(answered.Log, []impl.Turn{logged}) || !alike(second, secondWas) {
		t.Error("what is in Done is shared", answered.Log, second.Jobs)
	}
	answered.Log[0].C.Vals[0], answered.Log[0].A.Vals[1] = 98, 98
	if !alike(answered.Done, []impl.Ans{{Id: 1, Vals: []int{99, 11}}}) || !alike(second, secondWas) || !alike(ans, logged.A) {
		t.Error("what is in Log is shared", answered.Done, second.Jobs, ans)
	}
	ans.Vals[0] = 97
	if !alike(left.Log, []impl.Turn{logged}) || len(left.Done) != 0 || !alike(left.Jobs, secondWas.Jobs[1:]) {
		t.Error("what is fetched is shared", left)
	}
	second.Jobs[0].Got[0], second.Jobs[0].C.Vals[0], second.Jobs[1].C.Vals[0] = 96, 96, 96
	if !alike(first.Jobs[0], impl.Job{C: read, At: 1, Got: []int{10}}) || !alike(e, was) {
		t.Error("Got is shared", first.Jobs, e.Jobs)
	}
	set, _ := impl.Work(e, 1)
	set.A.Dirty[0].Data[0], set.A.Mems[0].Secs[firstStripe][0] = 95, 95
	if !alike(e, was) {
		t.Error("the array is shared", e.A)
	}
}

// What lies behind the length of Got, of Vals, of Jobs and of Done is none of
// theirs.
func TestWhatLiesBehindAJobIsNotRead(t *testing.T) {
	got, vals := []int{5, 6, 7, 8}, []int{1, 2, 3, -1}
	e := withJobs(tens(impl.Geo{N: 4, S: 3}),
		impl.Job{C: impl.Cmd{Op: impl.OpRead, Id: 1, Lba: 1, N: 2}, At: 1, Got: got[:1]},
		impl.Job{C: impl.Cmd{Op: impl.OpFua, Id: 2, Lba: 3, Vals: vals[:1]}},
		impl.Job{C: impl.Cmd{Op: impl.OpFlush, Id: 0}, At: 99})
	e.Jobs = e.Jobs[:2]
	wantEnd(t, "read", wantStep(t, "read", e, 0), 0, impl.Ans{Id: 1, Vals: []int{5, 12}})
	fua := wantStep(t, "flushed", wantStep(t, "set", e, 1), 1)
	wantEnd(t, "set and flushed", fua, 1, impl.Ans{Id: 2})
	if got[1] != 6 || vals[1] != 2 {
		t.Error("it was written behind", got, vals)
	}
	if x, ok := wantWork(t, "none", e, 2); ok || len(x.Jobs) != 2 {
		t.Error("one behind was worked on", x.Jobs)
	}
}
