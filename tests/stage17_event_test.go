package tests

import (
	"fmt"
	"slices"
	"testing"

	"loop.example/g00398/impl"
)

// What comes is told by these numbers, as the document has them.
const (
	comesSubmit = iota + 1
	comesBegin
	comesWork
	comesFetch
	comesFail
	comesSpoil
	comesSpare
	comesBuild
	comesAdopt
	comesCheck
	comesPower
	comesOn
)

// wantCome is what the document says of an event, kind by kind.
func wantCome(e impl.Eng, v impl.Event) (impl.Eng, bool) {
	if !wantEngOk(e) {
		return e, false
	}
	switch v.Kind {
	case comesSubmit:
		return wantSubmitted(e, v.C)
	case comesBegin:
		return wantBegun(e, v.K)
	case comesWork:
		return wantWorked(e, v.K)
	case comesFetch:
		x, _, ok := wantFetched(e, v.K)
		return x, ok
	case comesOn:
		return wantOnAgain(e, v)
	}
	return wantArrTurned(e, v)
}

func wantOnAgain(e impl.Eng, v impl.Event) (impl.Eng, bool) {
	if !e.A.Down {
		return e, false
	}
	a, ok := wantRecovered(e.A.Mems, v.Keeps, e.A.Id, v.K)
	if !ok {
		return e, false
	}
	return impl.Eng{A: a}, true
}

// wantArrTurned is of those events that turn the array alone.
func wantArrTurned(e impl.Eng, v impl.Event) (impl.Eng, bool) {
	code := impl.CoGood
	switch {
	case (v.Kind == comesFail || v.Kind == comesSpoil) && !within(v.K, 0, e.A.G.N-1):
		return e, false
	case v.Kind == comesFail:
		e.A = wantFailed(e.A, v.K)
	case v.Kind == comesSpoil:
		e.A = wantSpoilt(e.A, v.K, v.S)
	case v.Kind == comesSpare:
		e.A, code = wantSpared(e.A)
	case v.Kind == comesBuild:
		e.A, code = wantStepped(e.A)
	case v.Kind == comesAdopt:
		e.A, code = wantAdopted(e.A)
	case v.Kind == comesCheck:
		e.A = turnings()[2].want(e.A)
	case v.Kind == comesPower:
		if within(v.K, -1, mostFuse) {
			e.A.Fuse = v.K
		}
	default:
		return e, false
	}
	return e, code == impl.CoGood
}

// wantEvent asks what DoEvent does, with junk behind the lists or not.
func wantEvent(t *testing.T, name string, e impl.Eng, v impl.Event) (impl.Eng, bool) {
	t.Helper()
	want, ok := wantCome(e, v)
	for _, room := range []bool{false, true} {
		on, comes := e, v
		if room {
			on, comes = roomy(e), roomy(v)
		}
		if x, is := impl.DoEvent(on, comes); is != ok || !alike(x, want) {
			t.Fatal(name, v, "to", on, "\nanswered", is, x, "\nnot", ok, want)
		}
	}
	return want, ok
}

// wantComes asks that the event is done, and answers the engine behind it.
func wantComes(t *testing.T, name string, e impl.Eng, v impl.Event) impl.Eng {
	t.Helper()
	x, ok := wantEvent(t, name, e, v)
	if !ok || !impl.EngOk(x) {
		t.Fatal(name, v, "to", e, "\nwas refused, or left what is not right:", ok, x)
	}
	return x
}

// wantKeptOut asks that the event is refused, and turns nothing.
func wantKeptOut(t *testing.T, name string, e impl.Eng, v impl.Event) {
	t.Helper()
	if x, ok := wantEvent(t, name, e, v); ok || !alike(x, e) {
		t.Fatal(name, v, "to", e, "\nwas done, or turned something:", ok, x)
	}
}

// wantTurnsNothing asks that the event is not refused, but turns nothing.
func wantTurnsNothing(t *testing.T, name string, e impl.Eng, v impl.Event) {
	t.Helper()
	if x := wantComes(t, name, e, v); !alike(x, e) {
		t.Fatal(name, v, "to", e, "\nturned something:", x)
	}
}

// numbersTo answers 0 and all up to most.
func numbersTo(most int) []int {
	l := []int{}
	for n := range most + 1 {
		l = append(l, n)
	}
	return l
}

func allKinds() []int { return numbersTo(comesOn)[1:] }

func wrongKinds() []int {
	return append([]int{0, -1, -2, -comesOn, comesOn + 1, comesOn + 2, 14, 256, 257, 65536, 65537}, far()...)
}

func TestEventKinds(t *testing.T) {
	for i, kind := range []int{
		impl.EvSubmit, impl.EvBegin, impl.EvWork, impl.EvFetch, impl.EvFail, impl.EvSpoil,
		impl.EvSpare, impl.EvBuild, impl.EvAdopt, impl.EvCheck, impl.EvPower, impl.EvOn,
	} {
		if kind != i+1 || kind != allKinds()[i] {
			t.Error(i, kind)
		}
	}
}

func changed(a impl.Arr, change func(*impl.Arr)) impl.Arr {
	change(&a)
	return a
}

func TestSubmitComes(t *testing.T) {
	e := fourToWork()
	for i, c := range slices.Concat(anyWaiting(), cornerCmds()) {
		x := wantComes(t, "submitted", e, impl.Event{Kind: 1, C: c})
		if len(x.Wait) != 1 || !alike(x.Wait[0], c) || !alike(x.Jobs, e.Jobs) || !alike(x.A, e.A) {
			t.Error(i, c, x)
		}
	}
	seven, full := withWait(e, anyWaiting()[:7]...), withWait(e, anyWaiting()...)
	c := cmdOf(impl.OpWrite, 7, 0, 2)
	if x := wantComes(t, "the last there is room for", seven, impl.Event{Kind: 1, C: c}); !alike(x.Wait[7], c) {
		t.Error(x.Wait)
	}
	wantKeptOut(t, "a ninth", full, impl.Event{Kind: 1, C: c})
	for _, a := range []impl.Arr{impl.PowerOff(e.A), changed(e.A, func(a *impl.Arr) { a.Broken = true })} {
		wantComes(t, "neither Down nor Broken is asked for", impl.Eng{A: a}, impl.Event{Kind: 1, C: c})
	}
}

func TestBeginComes(t *testing.T) {
	g := impl.Geo{N: 4, S: 3}
	waits := withWait(tens(g), cmdOf(impl.OpWrite, 1, 0, 2), cmdOf(impl.OpRead, 2, 1, 1), cmdOf(impl.OpFua, 3, 4, 2), impl.Cmd{Op: impl.OpRead, Id: 4})
	x := wantComes(t, "the first", waits, impl.Event{Kind: 2})
	if len(x.Jobs) != 1 || x.Jobs[0].C.Id != 1 || len(x.Wait) != 3 {
		t.Error(x)
	}
	wantKeptOut(t, "it clashes with a Job", x, impl.Event{Kind: 2, K: 0})
	wantKeptOut(t, "it clashes with one ahead", waits, impl.Event{Kind: 2, K: 1})
	if x = wantComes(t, "the third", waits, impl.Event{Kind: 2, K: 2}); len(x.Jobs) != 1 || x.Jobs[0].C.Id != 3 {
		t.Error(x)
	}
	if x = wantComes(t, "what is answered at once", waits, impl.Event{Kind: 2, K: 3}); len(x.Jobs) != 0 || !alike(x.Done, []impl.Ans{{Id: 4, Code: impl.CoSize}}) || len(x.Log) != 1 {
		t.Error(x)
	}
	for _, k := range placesOf(waits) {
		if !within(k, 0, 3) {
			wantKeptOut(t, "none waits there", waits, impl.Event{Kind: 2, K: k})
		}
	}
	four := withWait(withBegun(tens(g), cmdOf(impl.OpRead, 11, 0, 2), cmdOf(impl.OpRead, 12, 2, 2), cmdOf(impl.OpRead, 13, 4, 2), cmdOf(impl.OpRead, 14, 6, 2)), cmdOf(impl.OpRead, 15, 8, 1))
	wantKeptOut(t, "four Jobs", four, impl.Event{Kind: 2})
	three := four
	three.Jobs = four.Jobs[:3]
	wantComes(t, "three Jobs", three, impl.Event{Kind: 2})
	wantComes(t, "seven of Done and Jobs", withDone(three, 4), impl.Event{Kind: 2})
	wantKeptOut(t, "eight of Done and Jobs", withDone(three, 5), impl.Event{Kind: 2})
	wantComes(t, "399 of Log and Jobs", withLog(three, 396), impl.Event{Kind: 2})
	wantKeptOut(t, "400 of Log and Jobs", withLog(three, 397), impl.Event{Kind: 2})
}

func TestWorkComes(t *testing.T) {
	e := fourToWork()
	if x := wantComes(t, "a part", e, impl.Event{Kind: 3, K: 1}); x.Jobs[1].At != 1 || len(x.Log) != 0 || impl.Contents(x.A)[0] != 0 {
		t.Error(x)
	}
	if x := wantComes(t, "it misses", e, impl.Event{Kind: 3, K: 3}); len(x.Jobs) != 3 || !alike(x.Done, []impl.Ans{{Id: 4, Code: impl.CoMiss}}) {
		t.Error(x)
	}
	through := withJobAt(e, 1, func(j *impl.Job) { j.At = 1 })
	if x := wantComes(t, "answered", through, impl.Event{Kind: 3, K: 1}); len(x.Jobs) != 3 || !alike(x.Done, []impl.Ans{{Id: 2}}) || len(x.Log) != 1 {
		t.Error(x)
	}
	for _, k := range jobsOf(e) {
		if !within(k, 0, 3) {
			wantKeptOut(t, "no such Job", e, impl.Event{Kind: 3, K: k})
		}
	}
	wantComes(t, "399 in Log", withLog(e, 399), impl.Event{Kind: 3})
	wantKeptOut(t, "400 in Log", withLog(e, 400), impl.Event{Kind: 3})
	// What goes wrong in a part is no reason to refuse the event.
	off := impl.Eng{A: impl.PowerOff(e.A), Jobs: e.Jobs}
	if x := wantComes(t, "Down", off, impl.Event{Kind: 3}); !alike(x.Done, []impl.Ans{{Id: 1, Code: impl.CoDown}}) {
		t.Error(x)
	}
}

func TestFetchComes(t *testing.T) {
	e := withDone(fourToWork(), 3)
	for k := range 3 {
		x := wantComes(t, "fetched", e, impl.Event{Kind: 4, K: k})
		if len(x.Done) != 2 || !alike(x.Done, slices.Delete(slices.Clone(e.Done), k, k+1)) || !alike(x.Jobs, e.Jobs) {
			t.Error(k, x)
		}
	}
	for _, k := range append([]int{-1, -3, 3, 4, 8, 65536}, far()...) {
		wantKeptOut(t, "no such answer", e, impl.Event{Kind: 4, K: k})
	}
	wantKeptOut(t, "none", fourToWork(), impl.Event{Kind: 4})
	wantComes(t, "of a full Done", withDone(e, 8), impl.Event{Kind: 4, K: 7})
}

func TestFailComes(t *testing.T) {
	for _, g := range []impl.Geo{{N: 3, S: 1}, {N: 4, S: 3}, {N: 5, S: 2}} {
		e := withBegun(withWait(tens(g), anyWaiting()...), cmdOf(impl.OpRead, 1, 0, 1))
		for m := range g.N {
			x := wantComes(t, "one", e, impl.Event{Kind: 5, K: m})
			if !x.A.Mems[m].Failed || x.A.Lost != m || x.A.Broken || x.A.Gen != 1 || !impl.Online(x) {
				t.Error(g, m, x.A)
			}
			wantTurnsNothing(t, "once more", x, impl.Event{Kind: 5, K: m})
			y := wantComes(t, "a second one", x, impl.Event{Kind: 5, K: (m + 1) % g.N})
			if !y.A.Broken || y.A.Lost != m || impl.Online(y) || !alike(y.Jobs, e.Jobs) || !alike(y.Wait, e.Wait) {
				t.Error(g, m, y.A)
			}
			wantTurnsNothing(t, "the first, where it is Broken", y, impl.Event{Kind: 5, K: m})
			wantComes(t, "a third one", y, impl.Event{Kind: 5, K: (m + 2) % g.N})
		}
		for _, m := range append([]int{-1, -2, -g.N, g.N, g.N + 1, 20, 65536}, far()...) {
			wantKeptOut(t, "no such disk", e, impl.Event{Kind: 5, K: m})
		}
		off := impl.Eng{A: impl.PowerOff(e.A)}
		if x := wantComes(t, "Down", off, impl.Event{Kind: 5, K: 1}); x.A.Lost != 1 || x.A.Gen != 0 || !x.A.Down {
			t.Error(x.A)
		}
		last := impl.Eng{A: changed(e.A, func(a *impl.Arr) { a.Gen = mostOfAnArr })}
		if x := wantComes(t, "the last Gen", last, impl.Event{Kind: 5}); x.A.Lost != 0 || x.A.Gen != mostOfAnArr {
			t.Error(x.A)
		}
	}
}

func TestSpoilComes(t *testing.T) {
	for _, g := range []impl.Geo{{N: 3, S: 1}, {N: 4, S: 3}, {N: 5, S: 8}} {
		e := withBegun(withWait(tens(g), anyWaiting()...), cmdOf(impl.OpRead, 1, 0, 1))
		failed := impl.Eng{A: impl.FailDisk(e.A, 1)}
		for m := range g.N {
			for s := range g.S {
				x := wantComes(t, "spoilt", e, impl.Event{Kind: 6, K: m, S: s})
				if !slices.Equal(x.A.Mems[m].Bad, []int{firstStripe + s}) {
					t.Error(g, m, s, x.A.Mems[m])
				}
				wantTurnsNothing(t, "once more", x, impl.Event{Kind: 6, K: m, S: s})
				wantComes(t, "another one too", x, impl.Event{Kind: 6, K: (m + 1) % g.N, S: s})
				wantComes(t, "where one failed", failed, impl.Event{Kind: 6, K: m, S: s})
			}
			// A stripe that is not there is no reason to refuse it.
			for _, s := range append([]int{-1, -2, g.S, g.S + 1, firstStripe + g.S, 20, 65536}, far()...) {
				wantTurnsNothing(t, "no such stripe", e, impl.Event{Kind: 6, K: m, S: s})
			}
		}
		for _, m := range append([]int{-1, -2, -g.N, g.N, g.N + 1, 20, 65536}, far()...) {
			for _, s := range []int{-1, 0, g.S - 1, g.S} {
				wantKeptOut(t, "no such disk", e, impl.Event{Kind: 6, K: m, S: s})
			}
		}
	}
}

// refusedBuildings answers, by the reason for which it is refused, what is one
// change away from what the call does.
func refusedBuildings(right impl.Arr, marks bool) map[string]impl.Arr {
	l := map[string]impl.Arr{
		"Down":           impl.PowerOff(right),
		"nothing Lost":   changed(right, func(a *impl.Arr) { a.Lost, a.Built = -1, 0; a.Mems = slices.Clone(a.Mems); a.Mems[1].Failed = false }),
		"Broken":         changed(right, func(a *impl.Arr) { a.Broken = true }),
		"of another way": withMem(right, 1, func(m *impl.Mem) { m.Failed, m.Cache = !m.Failed, nil }),
	}
	if marks {
		l["full"] = changed(right, func(a *impl.Arr) { a.Gen = fullFrom })
	}
	return l
}

// Spare, BuildStep and Adopt: whether they are CoGood, and the array is what
// they leave.
func TestBuildingComes(t *testing.T) {
	for _, g := range []impl.Geo{{N: 3, S: 1}, {N: 4, S: 3}} {
		base := tens(g)
		gone := impl.FailDisk(base.A, 1)
		placed, _ := impl.Spare(gone)
		built := placed
		for range g.S {
			built, _ = impl.BuildStep(built)
		}
		for _, c := range []struct {
			kind  int
			a     impl.Arr
			marks bool
			done  func(a impl.Arr) bool
		}{
			{7, gone, true, func(a impl.Arr) bool { return a.Lost == 1 && !a.Mems[1].Failed && a.Gen == 2 }},
			{8, placed, false, func(a impl.Arr) bool { return a.Built == 1 && a.Lost == 1 }},
			{9, built, true, func(a impl.Arr) bool { return a.Lost == -1 && a.Gen == 4 }},
		} {
			e := withWait(withBegun(impl.Eng{A: c.a}, cmdOf(impl.OpRead, 1, 0, 1)), anyWaiting()...)
			x := wantComes(t, fmt.Sprint("Kind ", c.kind), e, impl.Event{Kind: c.kind})
			if !c.done(x.A) || !alike(x.Jobs, e.Jobs) || !alike(x.Wait, e.Wait) {
				t.Error(c.kind, x)
			}
			for name, a := range refusedBuildings(c.a, c.marks) {
				y := e
				y.A = a
				wantKeptOut(t, name, y, impl.Event{Kind: c.kind})
			}
			for fuse := range 6 * g.N {
				y := e
				y.A.Fuse = fuse
				z, ok := wantEvent(t, "the power goes", y, impl.Event{Kind: c.kind})
				if ok == z.A.Down || !ok && alike(z.A, y.A) || !impl.EngOk(z) || !alike(z.Jobs, e.Jobs) {
					t.Error(c.kind, "Fuse", fuse, ok, z.A)
				}
			}
		}
		wantKeptOut(t, "two words are missing", impl.Eng{A: impl.SpoilAt(placed, 0, 0)}, impl.Event{Kind: 8})
		wantKeptOut(t, "all is built", impl.Eng{A: built}, impl.Event{Kind: 8})
		wantKeptOut(t, "not all is built", impl.Eng{A: changed(built, func(a *impl.Arr) { a.Built-- })}, impl.Event{Kind: 9})
		wantKeptOut(t, "it has not failed", impl.Eng{A: placed}, impl.Event{Kind: 7})
	}
}

// Where the power goes in the midst of one it is refused, but not undone.
func TestWhatTheBuildingsLeaveWithoutPower(t *testing.T) {
	g := impl.Geo{N: 3, S: 2}
	gone := impl.FailDisk(tens(g).A, 2)
	gone.Fuse = 0
	x, ok := impl.DoEvent(impl.Eng{A: gone}, impl.Event{Kind: impl.EvSpare})
	if ok || !x.A.Down || x.A.Mems[2].Failed || x.A.Gen != gone.Gen+1 || x.A.Lost != 2 {
		t.Error("Spare", ok, x.A)
	}
	placed, _ := impl.Spare(impl.FailDisk(tens(g).A, 2))
	one, _ := impl.BuildStep(placed)
	one.Fuse = 0
	x, ok = impl.DoEvent(impl.Eng{A: one}, impl.Event{Kind: impl.EvBuild})
	if ok || !x.A.Down || x.A.Built != 1 || len(x.A.Mems[2].Cache) != len(one.Mems[2].Cache) {
		t.Error("BuildStep", ok, x.A)
	}
	one.Fuse = -1
	two, _ := impl.BuildStep(one)
	two.Fuse = 3
	x, ok = impl.DoEvent(impl.Eng{A: two}, impl.Event{Kind: impl.EvAdopt})
	if ok || !x.A.Down || x.A.Lost != 2 || x.A.Built != 2 || len(x.A.Mems[2].Cache) != 0 || x.A.Gen != two.Gen+1 {
		t.Error("Adopt in its Check", ok, x.A)
	}
	two.Fuse = 9
	x, ok = impl.DoEvent(impl.Eng{A: two}, impl.Event{Kind: impl.EvAdopt})
	if ok || !x.A.Down || x.A.Lost != -1 || x.A.Built != 0 || x.A.Gen != two.Gen+2 {
		t.Error("Adopt in its Mark", ok, x.A)
	}
}

// Check is not refused, also where it does nothing.
func TestCheckComes(t *testing.T) {
	for _, g := range []impl.Geo{{N: 3, S: 1}, {N: 4, S: 3}} {
		e := withWait(withBegun(tens(g), cmdOf(impl.OpRead, 1, 0, 1)), anyWaiting()...)
		x := wantComes(t, "checked", e, impl.Event{Kind: 10})
		if x.A.Tail != x.A.Seq || x.A.Tail == e.A.Tail || x.A.Gen != 1 || !alike(x.Jobs, e.Jobs) || !alike(x.Wait, e.Wait) {
			t.Error(x.A)
		}
		with := func(change func(*impl.Arr)) impl.Eng {
			y := e
			y.A = changed(e.A, change)
			return y
		}
		wantTurnsNothing(t, "Down", with(func(a *impl.Arr) { a.Down = true }), impl.Event{Kind: 10})
		wantTurnsNothing(t, "the last Gen", with(func(a *impl.Arr) { a.Gen = mostOfAnArr }), impl.Event{Kind: 10})
		wantComes(t, "the last Gen but one", with(func(a *impl.Arr) { a.Gen = mostOfAnArr - 1 }), impl.Event{Kind: 10})
		wantComes(t, "Broken", with(func(a *impl.Arr) { a.Broken = true }), impl.Event{Kind: 10})
		for fuse := range 3*g.N + 2 {
			y := wantComes(t, "the power goes", with(func(a *impl.Arr) { a.Fuse = fuse }), impl.Event{Kind: 10})
			if y.A.Down != (fuse < 3*g.N) {
				t.Error(g, "Fuse", fuse, y.A)
			}
		}
	}
}

func TestNoOtherKindComes(t *testing.T) {
	for i, e := range slices.Concat(cornerEngs(), engsAtWork()[:6]) {
		for _, kind := range wrongKinds() {
			wantKeptOut(t, fmt.Sprint("to the ", i), e, impl.Event{Kind: kind, C: cmdOf(impl.OpRead, 1, 0, 1), Keeps: []int{1}})
		}
	}
}

// Whatever comes to what is not EngOk is refused.
func TestNothingComesToWhatIsNotEngOk(t *testing.T) {
	t.Parallel()
	for name, e := range wrongEngs() {
		for _, kind := range append(allKinds(), 0, comesOn+1) {
			v := impl.Event{Kind: kind, C: cmdOf(impl.OpRead, 1, 0, 1)}
			if x, ok := impl.DoEvent(e, v); ok || !alike(x, e) {
				t.Fatal(name, kind, ok, x)
			}
		}
	}
	// What is wrong, but could be brought back, is not.
	off := withWait(fourToWork(), anyWaiting()...)
	off.A = impl.PowerOff(off.A)
	wantComes(t, "right", off, impl.Event{Kind: 12})
	wantKeptOut(t, "wrong by a Job alone", withJobAt(off, 2, func(j *impl.Job) { j.At = -1 }), impl.Event{Kind: 12})
	wantKeptOut(t, "wrong by what waits alone", withWait(off, cmdOf(impl.OpRead, 1, 0, 1)), impl.Event{Kind: 12})
	wantKeptOut(t, "wrong by Done alone", withDone(off, 9), impl.Event{Kind: 12})
}

// eventsOf answers what may be handed in with an event of this Kind, at each
// edge of it.
func eventsOf(kind int, e impl.Eng) []impl.Event {
	l := []impl.Event{}
	places := func(most int) []int { return append(numbersTo(most+1), -1, 9, 65536) }
	switch kind {
	case comesSubmit:
		for _, c := range anyWaiting() {
			l = append(l, impl.Event{C: c})
		}
	case comesBegin:
		for _, k := range places(len(e.Wait)) {
			l = append(l, impl.Event{K: k})
		}
	case comesWork, comesFetch:
		for _, k := range places(len(e.Jobs) + len(e.Done)/4) {
			l = append(l, impl.Event{K: k})
		}
	case comesFail:
		for _, k := range places(e.A.G.N) {
			l = append(l, impl.Event{K: k})
		}
	case comesSpoil:
		for _, k := range []int{-1, 0, e.A.G.N - 1, e.A.G.N} {
			for _, s := range []int{-1, 0, e.A.G.S - 1, e.A.G.S} {
				l = append(l, impl.Event{K: k, S: s})
			}
		}
	case comesPower:
		for _, k := range []int{-2, -1, 0, 5, 999, 1000, 1001} {
			l = append(l, impl.Event{K: k})
		}
	case comesOn:
		next := drawn(uint32(1009 + len(e.A.Mems)))
		for i, keeps := range keepsFor(e.A.G.N, next) {
			l = append(l, impl.Event{Keeps: keeps, K: []int{-1, 0, 7, -2, 30, 1001}[i%6]})
		}
	default:
		l = append(l, impl.Event{})
	}
	for i := range l {
		l[i].Kind = kind
	}
	return l
}

// engsToMeet answers right engines on arrays of all kinds, with something of
// each: of the arrays that stand for the chapters ahead each fifth.
func engsToMeet() []impl.Eng {
	l := append(cornerEngs(), engsAtWork()...)
	for i, a := range slices.Concat(arrsToFail(), arrsToBuild(), arrsToFall()) {
		if i%5 > 0 || !wantArrOk(a) {
			continue
		}
		e := withLog(withDone(withWait(impl.Eng{A: a}, anyWaiting()[i%8:]...), i%4), i%7)
		l = append(l, withBegun(e, cmdOf(impl.OpFua, 31, 0, 1), impl.Cmd{Op: impl.OpZero, Id: 32, Lba: 1, N: 1}))
	}
	return l
}

// Each Kind is as the document has it, whatever the engine is.
func TestEachEventComesAsItIsTold(t *testing.T) {
	for _, kind := range allKinds() {
		t.Run(fmt.Sprint("Kind ", kind), func(t *testing.T) {
			t.Parallel()
			done, not := 0, 0
			for i, e := range engsToMeet() {
				for _, v := range eventsOf(kind, e) {
					if _, ok := wantEvent(t, fmt.Sprint(i), e, v); ok {
						done++
					} else {
						not++
					}
				}
			}
			if done < 10 || not < 10 && kind < comesCheck {
				t.Error("seldom:", done, not)
			}
		})
	}
}

// Each Kind is what its own function answers.
func TestEachEventIsItsCall(t *testing.T) {
	t.Parallel()
	for i, e := range engsToMeet() {
		on := func(a impl.Arr) impl.Eng {
			x := e
			x.A = a
			return x
		}
		is := func(kind int, v impl.Event, want impl.Eng, done bool) {
			v.Kind = kind
			if x, ok := impl.DoEvent(e, v); ok != done || !alike(x, want) {
				t.Fatal(i, v, "to", e, "\nanswered", ok, x, "\nnot", done, want)
			}
		}
		c, k := anyWaiting()[i%8], i%5-1
		submitted, ok := impl.Submit(e, c)
		is(impl.EvSubmit, impl.Event{C: c}, submitted, ok)
		begun, ok := impl.Begin(e, k)
		is(impl.EvBegin, impl.Event{K: k}, begun, ok)
		worked, ok := impl.Work(e, k)
		is(impl.EvWork, impl.Event{K: k}, worked, ok)
		fetched, _, ok := impl.Fetch(e, k)
		is(impl.EvFetch, impl.Event{K: k}, fetched, ok)
		there := within(k, 0, e.A.G.N-1)
		is(impl.EvFail, impl.Event{K: k}, on(impl.FailDisk(e.A, k)), there)
		is(impl.EvSpoil, impl.Event{K: k, S: i % 4}, on(impl.SpoilAt(e.A, k, i%4)), there)
		spared, code := impl.Spare(e.A)
		is(impl.EvSpare, impl.Event{}, on(spared), code == impl.CoGood)
		stepped, code := impl.BuildStep(e.A)
		is(impl.EvBuild, impl.Event{}, on(stepped), code == impl.CoGood)
		adopted, code := impl.Adopt(e.A)
		is(impl.EvAdopt, impl.Event{}, on(adopted), code == impl.CoGood)
		is(impl.EvCheck, impl.Event{}, on(impl.Check(e.A)), true)
		if a, ok := impl.Recover(e.A.Mems, []int{i, 1, 2}, e.A.Id, k); ok && e.A.Down {
			is(impl.EvOn, impl.Event{K: k, Keeps: []int{i, 1, 2}}, impl.Eng{A: a}, true)
		}
	}
}

// What a Kind does not name is not looked at.
func TestWhatAKindDoesNotNameIsNotLookedAt(t *testing.T) {
	t.Parallel()
	off := fourToWork()
	off.A = impl.PowerOff(off.A)
	for _, e := range append(engsAtWork()[:12], fourToWork(), off, impl.Eng{A: impl.FailDisk(fourToWork().A, 1)}) {
		for _, kind := range allKinds() {
			for _, v := range eventsOf(kind, e) {
				want, ok := wantEvent(t, "plainly", e, v)
				for _, other := range otherwise(v) {
					if x, is := impl.DoEvent(e, other); is != ok || !alike(x, want) {
						t.Fatal(other, "to", e, "\nanswered", is, x, "\nnot", ok, want)
					}
				}
			}
		}
	}
}

// otherwise answers the event with what its Kind does not name otherwise.
func otherwise(v impl.Event) []impl.Event {
	l := []impl.Event{}
	for _, n := range []int{-1, 1, 2, 65536} {
		x := v
		if v.Kind != comesSubmit {
			x.C = impl.Cmd{Op: n, Id: n, Lba: n, N: n, Vals: []int{n, n}}
		}
		if kind := v.Kind; kind == comesSubmit || within(kind, comesSpare, comesCheck) {
			x.K = n
		}
		if v.Kind != comesSpoil {
			x.S = n
		}
		if v.Kind != comesOn {
			x.Keeps = []int{n, n}
		}
		l = append(l, x)
	}
	return l
}
