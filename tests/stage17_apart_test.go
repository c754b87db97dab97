package tests

import (
	"fmt"
	"slices"
	"testing"

	"loop.example/g00398/impl"
)

// engsToTurn answers engines for which each Kind does something, and some that
// are wrong: with the power there, about to go, and gone, with disks that
// failed, that are built anew, and that are built.
func engsToTurn() []impl.Eng {
	l := append(engsToHoldApart(), engsAtWork()...)
	g := impl.Geo{N: 4, S: 3}
	gone := impl.FailDisk(withEnts(tens(g).A, 0, 2), 1)
	placed, _ := impl.Spare(gone)
	built := placed
	for range g.S {
		built, _ = impl.BuildStep(built)
	}
	for _, a := range []impl.Arr{withEnts(tens(g).A, 1), gone, placed, built, impl.FailDisk(gone, 0)} {
		for _, fuse := range []int{-1, 0, 7} {
			x := a
			x.Fuse = fuse
			e := withLog(withDone(withWait(withBegun(impl.Eng{A: x}, cmdOf(impl.OpFua, 1, 0, 3)), anyWaiting()[:5]...), 3), 3)
			l = append(l, e)
		}
		l = append(l, impl.Eng{A: impl.PowerOff(a), Wait: anyWaiting(), Done: withDone(impl.Eng{}, 4).Done})
	}
	return l
}

// eventsToHoldApart answers of each Kind some that are done and some that are
// not, with something in each field; some have a list of the engine's.
func eventsToHoldApart(e impl.Eng) []impl.Event {
	l, shared := []impl.Event{}, []int{1, 2, 3}
	if len(e.A.Mems) > 0 && len(e.A.Mems[0].Secs) > firstStripe {
		shared = e.A.Mems[0].Secs[firstStripe]
	}
	for _, kind := range append(allKinds(), 0, comesOn+1) {
		for k := -1; k <= 4; k++ {
			v := impl.Event{Kind: kind, K: k, S: 1, C: impl.Cmd{Op: impl.OpWrite, Id: 1, Vals: shared}, Keeps: shared}
			if k > 1 {
				v.C, v.Keeps = cmdOf(impl.OpFua, 5, 0, 4), []int{3, 1, 2, 3, 5}[:k]
			}
			if k == 1 && len(e.Wait) > 0 {
				v.C = e.Wait[0]
			}
			l = append(l, v)
		}
	}
	return l
}

func TestEventsHoldApart(t *testing.T) {
	t.Parallel()
	for i, plainly := range engsToTurn() {
		both := []impl.Eng{plainly, roomy(plainly)}
		for j, v := range eventsToHoldApart(plainly) {
			e := both[(i+j)%2]
			if (i+j/2)%2 == 0 {
				v = roomy(v)
			}
			wantEngApart(t, fmt.Sprint(i, " ", v), []any{e, v}, func() impl.Eng {
				x, _ := impl.DoEvent(e, v)
				return x
			})
		}
		holdsApart(t, "Online", []any{both[1]}, func() []any { return []any{impl.Online(both[1])} })
	}
}

func TestPlayHoldsApart(t *testing.T) {
	t.Parallel()
	for i, plainly := range engsToTurn() {
		for _, e := range []impl.Eng{plainly, roomy(plainly)} {
			all := eventsToHoldApart(e)
			for _, l := range [][]impl.Event{nil, {}, all[:0], all[1:2], all, roomy(all), slices.Concat(all, all)[:101]} {
				wantEngApart(t, fmt.Sprint(i, " of ", len(l), " events"), []any{e, l}, func() impl.Eng { return impl.Play(e, l) })
			}
		}
	}
}

// What stands behind the length of the events does not come.
func TestWhatLiesBehindTheEventsDoesNotCome(t *testing.T) {
	e := tens(impl.Geo{N: 3, S: 2})
	l := []impl.Event{{Kind: 10}, {Kind: 10}, {Kind: 5, K: 1}, {Kind: 11, K: 0}, {Kind: 10}, {Kind: 12, K: -1}}
	for n := range len(l) + 1 {
		if x := impl.Play(e, l[:n]); !alike(x, wantPlay(t, "cut", e, slices.Clone(l[:n]))) || n > 0 && n < 3 && x.A.Gen != e.A.Gen+n {
			t.Error(n, x.A)
		}
	}
}

// What stands behind the length of Keeps is not kept, and what stands behind
// that of Vals is not written.
func TestWhatLiesBehindAnEventIsNotRead(t *testing.T) {
	g := impl.Geo{N: 3, S: 2}
	e := withBegun(impl.Eng{A: impl.Check(tens(g).A)}, impl.Cmd{Op: impl.OpFua, Id: 1, Lba: 0, Vals: []int{77}})
	cut := impl.Play(e, []impl.Event{{Kind: impl.EvPower, K: 3}, {Kind: impl.EvWork}, {Kind: impl.EvWork}})
	keeps := []int{0, 0, 1}
	for n, first := range []int{10, 10, 10, 77} {
		v := impl.Event{Kind: impl.EvOn, K: -1, Keeps: keeps[:n]}
		if x := wantComes(t, "on", cut, v); impl.Contents(x.A)[0] != first {
			t.Error("Keeps of", n, impl.Contents(x.A))
		}
	}
	vals := []int{61, 62, 63}
	for n := 1; n <= 3; n++ {
		x := impl.Play(e, []impl.Event{
			{Kind: impl.EvSubmit, C: impl.Cmd{Op: impl.OpWrite, Id: 2, Lba: 1, Vals: vals[:n]}}, {Kind: 2}, {Kind: 3, K: 1}, {Kind: 3, K: 1}, {Kind: 3, K: 1}, {Kind: 3, K: 1},
		})
		if want := now()[:4]; !slices.Equal(impl.Contents(x.A), append(append(want[:1:1], vals[:n]...), want[n+1:]...)) || len(x.Log) != 1 {
			t.Error("Vals of", n, impl.Contents(x.A))
		}
	}
	if !slices.Equal(keeps, []int{0, 0, 1}) || !slices.Equal(vals, []int{61, 62, 63}) {
		t.Error("it was written behind", keeps, vals)
	}
}

// What was answered stays as it was, whatever becomes of what was handed in, and
// the other way round.
func TestEventsTurnApart(t *testing.T) {
	t.Parallel()
	for _, e := range engsToTurn() {
		if !wantEngOk(e) {
			continue
		}
		e = plain(e)
		for _, v := range eventsToHoldApart(e) {
			v = plain(v)
			was, came := plain(e), plain(v)
			x, _ := impl.DoEvent(e, v)
			then := plain(x)
			y := plain(e)
			other := impl.Play(y, []impl.Event{v})
			disturbAll(&y, &v)
			if !alike(x, then) || !alike(other, then) {
				t.Fatal("the answer turned with what was handed in", came)
			}
			disturbAll(&x, &impl.Event{})
			if !alike(e, was) || !alike(other, then) {
				t.Fatal("what was handed in turned with the answer", came)
			}
		}
	}
}

// disturbAll turns each number that stands in a list of them.
func disturbAll(e *impl.Eng, v *impl.Event) {
	turn := func(l []int) {
		for i := range l {
			l[i] = ^l[i]
		}
	}
	turn(v.Keeps)
	turn(v.C.Vals)
	for i := range e.A.Mems {
		for _, s := range e.A.Mems[i].Secs {
			turn(s)
		}
		for _, w := range e.A.Mems[i].Cache {
			turn(w.S)
		}
		turn(e.A.Mems[i].Bad)
		e.A.Mems[i].Failed = !e.A.Mems[i].Failed
	}
	for i := range e.A.Dirty {
		turn(e.A.Dirty[i].Data)
		e.A.Dirty[i].Stripe++
	}
	for i := range e.Wait {
		turn(e.Wait[i].Vals)
		e.Wait[i].Op++
	}
	for i := range e.Jobs {
		turn(e.Jobs[i].Got)
		turn(e.Jobs[i].C.Vals)
		e.Jobs[i].At++
	}
	for i := range e.Done {
		turn(e.Done[i].Vals)
		e.Done[i].Code++
	}
	for i := range e.Log {
		turn(e.Log[i].A.Vals)
		turn(e.Log[i].C.Vals)
		e.Log[i].A.Id++
	}
}
