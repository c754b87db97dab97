package tests

import (
	"fmt"
	"slices"
	"testing"

	"loop.example/g00398/impl"
)

func rightFuses() []int { return []int{-1, 0, 1, 2, 500, 999, 1000} }

func wrongFuses() []int {
	return append([]int{-2, -3, -1000, 1001, 1002, 65535, 65536}, far()...)
}

// engsOfPower answers engines whose power stays, runs out already, is gone, and
// is of no use.
func engsOfPower() map[string]impl.Eng {
	l := map[string]impl.Eng{}
	for _, fuse := range rightFuses() {
		e := withLog(withDone(withWait(fourToWork(), anyWaiting()...), 3), 5)
		e.A.Fuse = fuse
		l[fmt.Sprint("Fuse ", fuse)] = e
		e.A.Down = true
		l[fmt.Sprint("Down, Fuse ", fuse)] = e
		e.A.Down, e.A.Broken = false, true
		l[fmt.Sprint("Broken, Fuse ", fuse)] = e
	}
	return l
}

// The Fuse is told, and nothing else turns; what is no Fuse turns nothing.
func TestPowerIsTold(t *testing.T) {
	for name, e := range engsOfPower() {
		for _, k := range rightFuses() {
			x := wantComes(t, name, e, impl.Event{Kind: 11, K: k})
			if x.A.Fuse != k || x.A.Down != e.A.Down {
				t.Error(name, k, x.A.Fuse, x.A.Down)
			}
			x.A.Fuse = e.A.Fuse
			if !alike(x, e) {
				t.Error(name, k, "turned something else", x)
			}
		}
		for _, k := range wrongFuses() {
			wantTurnsNothing(t, name, e, impl.Event{Kind: 11, K: k})
		}
	}
}

// The last Fuse that is told counts, and it can be taken back.
func TestPowerIsToldAnew(t *testing.T) {
	e := fourToWork()
	for _, first := range rightFuses() {
		for _, then := range rightFuses() {
			x, _ := impl.DoEvent(e, impl.Event{Kind: impl.EvPower, K: first})
			y, _ := impl.DoEvent(x, impl.Event{Kind: impl.EvPower, K: then})
			z := impl.Play(y, []impl.Event{{Kind: impl.EvCheck}})
			if y.A.Fuse != then || z.A.Down != within(then, 0, 11) {
				t.Error(first, then, y.A.Fuse, z.A.Down)
			}
		}
	}
}

// A power that is not yet gone is there: what needs no disk operation is done
// as ever, and takes nothing of the Fuse, and nothing is brought back.
func TestPowerThatIsNotYetGone(t *testing.T) {
	e := withDone(withWait(fourToWork(), anyWaiting()[2:5]...), 2)
	for _, fuse := range []int{0, 1, 1000} {
		x := wantComes(t, "told", e, impl.Event{Kind: 11, K: fuse})
		for _, v := range []impl.Event{
			{Kind: 1, C: cmdOf(impl.OpFlush, 1, 0, 0)}, {Kind: 1}, {Kind: 3}, {Kind: 3}, {Kind: 3}, {Kind: 3, K: 1}, {Kind: 3, K: 1}, {Kind: 3, K: 2},
			{Kind: 4, K: 2}, {Kind: 4}, {Kind: 6, K: 1, S: 1}, {Kind: 2, K: 1}, {Kind: 11, K: -2}, {Kind: 3}, {Kind: 3}, {Kind: 4, K: 1},
		} {
			x, _ = wantEvent(t, "not yet gone", x, v)
			if x.A.Fuse != fuse || x.A.Down || !impl.Online(x) {
				t.Fatal(fuse, v, "took of the Fuse", x.A)
			}
			wantKeptOut(t, "nothing is gone", x, impl.Event{Kind: 12, K: -1, Keeps: []int{1, 1, 1, 1}})
		}
		if len(x.Log) < 3 || impl.Clean(x.A) {
			t.Error("little was done", x)
		}
		for _, v := range []impl.Event{{Kind: 7}, {Kind: 8}, {Kind: 9}, {Kind: 3, K: 9}, {Kind: 2, K: 9}, {Kind: 5, K: 4}, {Kind: 0}, {Kind: 13}} {
			wantKeptOut(t, "refused", x, v)
		}
		if y := wantComes(t, "checked", x, impl.Event{Kind: 10}); y.A.Down != (fuse < 12) || !y.A.Down && y.A.Fuse != fuse-12 {
			t.Error(fuse, y.A)
		}
	}
}

// A course of events, each of which is disk operations, and how many of them.
func costs(g impl.Geo) ([]impl.Event, []int) {
	n := g.N
	return []impl.Event{
			{Kind: impl.EvWork},           // of an OpFlush: the stripe 0
			{Kind: impl.EvCheck},          // all disks
			{Kind: impl.EvWork},           // the stripe 1
			{Kind: impl.EvFail, K: 1},     // it is marked on the others
			{Kind: impl.EvWork},           // the stripe 2, on the others
			{Kind: impl.EvSpare},          // it is marked on all
			{Kind: impl.EvBuild},          // a word
			{Kind: impl.EvBuild},          // a word
			{Kind: impl.EvBuild},          // a word
			{Kind: impl.EvAdopt},          // all disks, twice marked
			{Kind: impl.EvWork},           // answered
			{Kind: impl.EvFail, K: n - 1}, // as above
		},
		[]int{3 * n, 3 * n, 3 * n, 2 * (n - 1), 3 * (n - 1), 2 * n, 1, 1, 1, 5 * n, 0, 2 * (n - 1)}
}

// Nothing goes ahead of what the Fuse says: what is ahead of it is done as ever,
// and from there on no disk turns any more but by what befalls it.
func TestPowerGoesWhereTheFuseSays(t *testing.T) {
	t.Parallel()
	for _, g := range []impl.Geo{{N: 3, S: 3}, {N: 4, S: 3}, {N: 5, S: 3}} {
		e := withBegun(tens(g), cmdOf(impl.OpFlush, 1, 0, 0))
		e.A = withEnts(impl.Check(e.A), 0, 1, 2)
		events, cost := costs(g)
		all := 0
		for _, n := range cost {
			all += n
		}
		for fuse := range all + 2 {
			wantGoesAt(t, e, events, cost, fuse)
		}
	}
}

func wantGoesAt(t *testing.T, e impl.Eng, events []impl.Event, cost []int, fuse int) {
	t.Helper()
	ever := e
	x, _ := impl.DoEvent(e, impl.Event{Kind: impl.EvPower, K: fuse})
	for i, v := range events {
		left := fuse
		ever, _ = impl.DoEvent(ever, v)
		x, _ = wantEvent(t, fmt.Sprint("Fuse ", fuse, " event ", i), x, v)
		fuse -= cost[i]
		if fuse < 0 {
			if !x.A.Down || x.A.Fuse != -1 || impl.Online(x) {
				t.Fatal("event", i, "Fuse", left, "the power is not gone:", x.A)
			}
			wantNothingMoreOnTheDisks(t, x)
			return
		}
		want := ever
		want.A.Fuse = fuse
		if !alike(x, want) || !impl.Online(x) {
			t.Fatal("event", i, "Fuse", left, "\nis", x, "\nnot", want)
		}
	}
}

// wantNothingMoreOnTheDisks asks that without power nothing is written.
func wantNothingMoreOnTheDisks(t *testing.T, e impl.Eng) {
	t.Helper()
	x := e
	for _, v := range []impl.Event{
		{Kind: 10}, {Kind: 7}, {Kind: 8}, {Kind: 9}, {Kind: 11, K: 50}, {Kind: 10}, {Kind: 3}, {Kind: 1, C: cmdOf(impl.OpFlush, 9, 0, 0)}, {Kind: 2}, {Kind: 3}, {Kind: 7}, {Kind: 8}, {Kind: 9},
	} {
		x, _ = wantEvent(t, "without power", x, v)
		if !alike(x.A.Mems, e.A.Mems) || !x.A.Down || !alike(x.A.Dirty, e.A.Dirty) {
			t.Fatal(v, "turned the disks without power", e.A, x.A)
		}
	}
	if last := x.Log[len(x.Log)-1]; last.C.Op != impl.OpFlush || last.A.Code != impl.CoDown {
		t.Fatal("flushed without power", x.Log)
	}
}

// Where the power goes in the midst of Work, the Job is answered with CoDown;
// of what else is a Job each is answered so at its next part.
func TestPowerGoesInTheMidstOfWork(t *testing.T) {
	g := impl.Geo{N: 4, S: 3}
	e := withBegun(tens(g), impl.Cmd{Op: impl.OpFua, Id: 1, Lba: 0, Vals: []int{5, 6}}, cmdOf(impl.OpRead, 2, 3, 2), impl.Cmd{Op: impl.OpZero, Id: 3, Lba: 6, N: 1})
	for fuse := range 3*g.N + 1 {
		x := impl.Play(e, []impl.Event{{Kind: impl.EvPower, K: fuse}, {Kind: impl.EvWork, K: 2}, {Kind: impl.EvWork}, {Kind: impl.EvWork}, {Kind: impl.EvWork}})
		down := fuse < 3*g.N
		if x.A.Down != down || down && !alike(x.Done, []impl.Ans{{Id: 1, Code: impl.CoDown}}) || !down && (len(x.Done) != 0 || x.A.Fuse != 0) {
			t.Fatal(fuse, x.A.Down, x.Done)
		}
		if !down {
			continue
		}
		wantTurnsNothing(t, "checked without power", x, impl.Event{Kind: 10})
		y := impl.Play(x, []impl.Event{{Kind: impl.EvWork, K: 1}, {Kind: impl.EvWork}, {Kind: impl.EvFetch}})
		if !alike(y.Done, []impl.Ans{{Id: 3}, {Id: 2, Code: impl.CoDown}}) || len(y.Log) != 3 || len(y.Jobs) != 0 || !y.A.Down {
			t.Fatal(fuse, y)
		}
	}
}

// Each way in which Keeps can be handed in, of a write that was cut off.
func TestOnIsRecover(t *testing.T) {
	t.Parallel()
	for _, g := range []impl.Geo{{N: 3, S: 2}, {N: 4, S: 3}, {N: 5, S: 1}} {
		base := withBegun(withWait(tens(g), anyWaiting()...), cmdOf(impl.OpFua, 1, 0, 1))
		for fuse := range 3 * g.N {
			cut := impl.Play(withLog(withDone(base, 3), 4), []impl.Event{{Kind: impl.EvPower, K: fuse}, {Kind: impl.EvWork}, {Kind: impl.EvWork}})
			if !cut.A.Down || len(cut.Log) != 5 || len(cut.Done) != 4 {
				t.Fatal("the power is not gone", g, fuse, cut)
			}
			for _, keeps := range keepsToHandIn(g.N, fuse) {
				k := append(rightFuses(), 3, 3*g.N-1, 3*g.N)[(fuse+len(keeps))%9]
				x := wantComes(t, "on", cut, impl.Event{Kind: 12, K: k, Keeps: keeps})
				a, ok := impl.Recover(cut.A.Mems, keeps, cut.A.Id, k)
				if !ok || !alike(x, impl.Eng{A: a}) {
					t.Fatal(g, fuse, keeps, k, "is", x, "not", a)
				}
			}
		}
	}
}

// keepsToHandIn answers Keeps of each length, right ones and wrong ones.
func keepsToHandIn(n, i int) [][]int {
	l := keepsFor(n, drawn(uint32(1013+i)))
	for length := range n + 3 {
		l = append(l, slices.Repeat([]int{mostKeep}, length), slices.Repeat([]int{1 << (i % 20)}, length))
	}
	for _, wrong := range wrongKeeps() {
		l = append(l, []int{1, wrong, 1})
	}
	for m := range n {
		for _, keep := range keepsOf()[i%11:][:8] {
			keeps := slices.Repeat([]int{3}, n)
			keeps[m] = keep
			l = append(l, keeps)
		}
	}
	return l
}

// What each disk may keep counts: a cut off write is there, or it is not.
func TestOnKeepsWhatIsKept(t *testing.T) {
	g := impl.Geo{N: 3, S: 2}
	e := withBegun(tens(g), impl.Cmd{Op: impl.OpFua, Id: 1, Lba: 0, Vals: []int{77}})
	// The record is in each cache behind the first 3, and in the first disk's
	// sector behind one more.
	on := func(fuse int, keeps ...int) []int {
		x := impl.Play(impl.Eng{A: impl.Check(e.A), Jobs: e.Jobs}, []impl.Event{
			{Kind: impl.EvPower, K: fuse}, {Kind: impl.EvWork}, {Kind: impl.EvWork}, {Kind: impl.EvOn, K: -1, Keeps: keeps},
		})
		if !impl.Online(x) || x.A.Lost != -1 {
			t.Error(fuse, keeps, "is not there again", x.A)
		}
		return impl.Contents(x.A)
	}
	was, is := []int{10, 11, 12, 13}, []int{77, 11, 12, 13}
	for _, c := range []struct {
		fuse  int
		keeps []int
		want  []int
	}{
		{3, nil, was}, {3, []int{0, 0, 0}, was}, {3, []int{1}, is}, {3, []int{0, 1}, is}, {3, []int{0, 0, 1}, is}, {3, []int{0, 0, 0, 1}, was},
		{3, []int{2}, was}, {3, []int{-1, 1048576, 1 << 32}, was}, {3, []int{1, 1, 1, 1}, is}, {3, []int{0, 0, mostKeep}, is},
		{0, []int{mostKeep, mostKeep, mostKeep}, was}, {1, []int{1}, is}, {1, []int{0, 1, 1}, was}, {4, nil, is}, {5, []int{0, 0, 0}, is}, {8, nil, is},
	} {
		if got := on(c.fuse, c.keeps...); !slices.Equal(got, c.want) {
			t.Error("Fuse", c.fuse, "Keeps", c.keeps, "is", got, "not", c.want)
		}
	}
}

// Behind it what waits, Jobs, Done, Log and what was in memory are nothing; what
// was flushed is there.
func TestOnForgetsAllButTheDisks(t *testing.T) {
	e := withLog(withDone(withWait(fourToWork(), anyWaiting()...), 8), 400)
	e.A.Dirty = []impl.Ent{entAt(0, 60, 61, 62), entAt(2, 80, 81, 82)}
	e.A = impl.PowerOff(e.A)
	for _, keeps := range [][]int{nil, {0, 0, 0, 0}, slices.Repeat([]int{mostKeep}, 4)} {
		x := wantComes(t, "on", e, impl.Event{Kind: 12, K: -1, Keeps: keeps})
		if len(x.Wait)+len(x.Jobs)+len(x.Done)+len(x.Log)+len(x.A.Dirty) != 0 || x.A.Down || !impl.Online(x) {
			t.Error(keeps, x)
		}
		if !slices.Equal(impl.Contents(x.A), now()) {
			t.Error(keeps, impl.Contents(x.A))
		}
	}
}

func TestOnWhereThePowerIsThere(t *testing.T) {
	for name, e := range engsOfPower() {
		for _, k := range []int{-2, -1, 0, 47, 48, 1000, 1001} {
			for _, keeps := range [][]int{nil, {1, 2, 3, 4}, slices.Repeat([]int{mostKeep}, 4)} {
				v := impl.Event{Kind: 12, K: k, Keeps: keeps}
				if !e.A.Down {
					wantKeptOut(t, name, e, v)
				} else if x := wantComes(t, name, e, v); x.A.Down != within(k, 0, 47) || len(x.Jobs) != 0 {
					t.Error(name, k, keeps, x)
				}
			}
		}
	}
}

// Where no disk knows the array, or not as many are there as one of them says,
// it stays as it is, also what waits.
func TestOnWhereThereIsNone(t *testing.T) {
	for _, g := range []impl.Geo{{N: 3, S: 1}, {N: 4, S: 3}} {
		e := withLog(withDone(withWait(tens(g), anyWaiting()...), 4), 2)
		e.A = impl.PowerOff(impl.Check(e.A))
		nobody, failed, other, greater := e, e, e, e
		for m := range g.N {
			nobody.A = withoutSupers(nobody.A, m)
			failed.A = withLost(withFailed(failed.A, m), 0, 0)
		}
		failed.A.Broken = true
		other.A.Id++
		greater.A = withSuper(greater.A, 0, impl.Super{Id: arrayId, Gen: 500, Role: 0, N: g.N + 1, S: g.S, Lost: -1})
		for name, x := range map[string]impl.Eng{"no Supers": nobody, "all failed": failed, "another Id": other, "more disks": greater} {
			for _, keeps := range [][]int{nil, slices.Repeat([]int{mostKeep}, g.N)} {
				for _, k := range []int{-1, 0, 1000, 1001} {
					wantKeptOut(t, name, x, impl.Event{Kind: 12, K: k, Keeps: keeps})
				}
			}
		}
		// One disk that knows it is enough.
		one := e
		for m := range g.N - 1 {
			one.A = withoutSupers(one.A, m)
		}
		if x := wantComes(t, "one knows it", one, impl.Event{Kind: 12, K: -1}); !x.A.Broken || x.A.Down || impl.Online(x) {
			t.Error(x.A)
		}
	}
}

// Each Fuse of what brings it back: it may go again in its midst, and come again.
func TestOnWithEachFuse(t *testing.T) {
	g := impl.Geo{N: 4, S: 3}
	e := withBegun(tens(g), cmdOf(impl.OpFlush, 1, 0, 0))
	e.A = impl.Check(e.A)
	e.A.Dirty = []impl.Ent{entAt(0, 60, 61, 62), entAt(1, 70, 71, 72)}
	cut := impl.Play(e, []impl.Event{{Kind: impl.EvPower, K: 14}, {Kind: impl.EvWork}, {Kind: impl.EvWork}})
	told := impl.Play(cut, []impl.Event{{Kind: impl.EvOn, K: 1000, Keeps: []int{3, 3, 3, 3}}})
	operations := 1000 - told.A.Fuse
	if !cut.A.Down || told.A.Down || operations != 3*12 {
		t.Fatal("the tests are wrong:", cut, told, operations)
	}
	for fuse := range operations + 2 {
		x := wantComes(t, "on", cut, impl.Event{Kind: 12, K: fuse, Keeps: []int{3, 3, 3, 3}})
		if x.A.Down != (fuse < operations) || !x.A.Down && x.A.Fuse != fuse-operations {
			t.Fatal(fuse, "of", operations, x.A)
		}
		if x.A.Down {
			x = wantComes(t, "once more", x, impl.Event{Kind: 12, K: -1, Keeps: []int{fuse % 16, fuse % 7, 0, 1}})
		}
		if contents := impl.Contents(x.A); !impl.Online(x) || !slices.Equal(contents, now(0, 60, 1, 61, 2, 62, 3, 70, 4, 71, 5, 72)) {
			t.Fatal(fuse, contents, x.A)
		}
	}
	for _, k := range wrongFuses() {
		if x := wantComes(t, "no Fuse", cut, impl.Event{Kind: 12, K: k}); x.A.Fuse != -1 || x.A.Down {
			t.Error(k, x.A)
		}
	}
}

// The Fuse that was told while the power was gone is not that which counts
// behind it.
func TestPowerToldWhileItIsGone(t *testing.T) {
	e := fourToWork()
	e.A = impl.PowerOff(e.A)
	for _, told := range rightFuses() {
		for _, k := range rightFuses() {
			x := impl.Play(e, []impl.Event{{Kind: impl.EvPower, K: told}, {Kind: impl.EvOn, K: k}})
			want := impl.Play(e, []impl.Event{{Kind: impl.EvOn, K: k}})
			if !alike(x, want) || want.A.Down != within(k, 0, 2) {
				t.Error(told, k, x.A)
			}
		}
	}
}

// What was Broken as two failed is so again; what was built goes on from where
// it was marked.
func TestOnWhereDisksAreGone(t *testing.T) {
	g := impl.Geo{N: 4, S: 3}
	one := impl.Play(tens(g), []impl.Event{{Kind: impl.EvFail, K: 2}, {Kind: impl.EvPower, K: 0}, {Kind: impl.EvCheck}})
	x := wantComes(t, "one failed", one, impl.Event{Kind: 12, K: -1})
	if x.A.Lost != 2 || x.A.Broken || !impl.Online(x) || !slices.Equal(impl.Contents(x.A), now()) {
		t.Error(x.A)
	}
	two := wantComes(t, "a second one fails without power", one, impl.Event{Kind: 5, K: 0})
	if x = wantComes(t, "two failed", two, impl.Event{Kind: 12, K: -1}); !x.A.Broken || x.A.Down || impl.Online(x) {
		t.Error(x.A)
	}
	built := impl.Play(tens(g), []impl.Event{{Kind: impl.EvFail, K: 2}, {Kind: impl.EvSpare}, {Kind: impl.EvBuild}, {Kind: impl.EvCheck}, {Kind: impl.EvBuild}, {Kind: impl.EvPower}, {Kind: impl.EvCheck}})
	x = wantComes(t, "built in part", built, impl.Event{Kind: 12, K: -1, Keeps: []int{0, 0, 0, mostKeep}})
	if x.A.Lost != 2 || x.A.Built != 1 {
		t.Error(x.A)
	}
	x = impl.Play(x, []impl.Event{{Kind: impl.EvBuild}, {Kind: impl.EvBuild}, {Kind: impl.EvAdopt}, {Kind: impl.EvFail, K: 3}})
	if x.A.Lost != 3 || !impl.Online(x) || !slices.Equal(impl.Contents(x.A), now()) {
		t.Error(x.A)
	}
}
