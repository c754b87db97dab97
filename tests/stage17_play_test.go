package tests

import (
	"fmt"
	"slices"
	"testing"

	"loop.example/g00398/impl"
)

const mostPlay = 100

// wantPlayed is what the document says of events one behind the other.
func wantPlayed(e impl.Eng, l []impl.Event) impl.Eng {
	for i, v := range l {
		if i == mostPlay {
			break
		}
		e, _ = wantCome(e, v)
	}
	return e
}

// wantPlay asks what Play does, with junk behind the lists or not.
func wantPlay(t *testing.T, name string, e impl.Eng, l []impl.Event) impl.Eng {
	t.Helper()
	want := wantPlayed(e, l)
	if x := impl.Play(e, l); !alike(x, want) {
		t.Fatal(name, l, "to", e, "\nanswered", x, "\nnot", want)
	}
	if x := impl.Play(roomy(e), roomy(l)); !alike(x, want) {
		t.Fatal(name, l, "to", e, "with junk behind\nanswered", x, "\nnot", want)
	}
	return want
}

func TestPlayOfNone(t *testing.T) {
	for i, e := range engsToMeet() {
		for _, l := range [][]impl.Event{nil, {}} {
			if x := wantPlay(t, fmt.Sprint(i), e, l); !alike(x, e) {
				t.Error(i, x)
			}
		}
	}
}

// Of one event it is DoEvent, whatever that answers.
func TestPlayOfOne(t *testing.T) {
	t.Parallel()
	done, not := 0, 0
	for i, e := range engsToMeet() {
		for _, kind := range append(allKinds(), 0, -1, comesOn+1) {
			v := eventsOf(kind, e)[0]
			one, ok := impl.DoEvent(e, v)
			if x := wantPlay(t, fmt.Sprint(i), e, []impl.Event{v}); !alike(x, one) {
				t.Fatal(i, v, x, one)
			}
			if ok {
				done++
			} else {
				not++
			}
		}
	}
	if done < 300 || not < 300 {
		t.Error("seldom:", done, not)
	}
}

// Each of the first 100 comes, and none behind: the marks tell how many came.
func TestPlayHowMany(t *testing.T) {
	e := tens(impl.Geo{N: 3, S: 2})
	check := impl.Event{Kind: impl.EvCheck}
	for _, n := range []int{0, 1, 2, 50, 98, 99, 100, 101, 102, 103, 150, 199, 200, 201, 300, 1000} {
		x := wantPlay(t, "checked", e, slices.Repeat([]impl.Event{check}, n))
		if x.A.Gen != e.A.Gen+min(n, mostPlay) {
			t.Error(n, "events:", x.A.Gen-e.A.Gen, "came")
		}
	}
	for n := range mostPlay + 3 {
		l := append(slices.Repeat([]impl.Event{check}, n), impl.Event{Kind: impl.EvPower, K: 77}, impl.Event{Kind: impl.EvPower, K: 78})
		want := -1
		if n < 100 {
			want = 77
		}
		if n < 99 {
			want = 78
		}
		if x := impl.Play(e, l); x.A.Fuse != want {
			t.Error("behind", n, "others it is", x.A.Fuse)
		}
	}
}

// What is refused counts among the 100, and what comes behind it comes.
func TestPlayGoesOnBehindWhatIsRefused(t *testing.T) {
	e := tens(impl.Geo{N: 4, S: 3})
	refused := []impl.Event{
		{Kind: 0}, {Kind: 13}, {Kind: -1}, {Kind: 2}, {Kind: 3}, {Kind: 4}, {Kind: 5, K: 4}, {Kind: 5, K: -1}, {Kind: 6, K: 4},
		{Kind: 7}, {Kind: 8}, {Kind: 9}, {Kind: 12, K: -1},
	}
	for _, v := range refused {
		wantKeptOut(t, "the tests are wrong", e, v)
		l := []impl.Event{v, {Kind: 1, C: cmdOf(impl.OpZero, 1, 0, 1)}, v, {Kind: 10}, v, v, {Kind: 11, K: 500}, v}
		if v.Kind == impl.EvBegin {
			l = slices.DeleteFunc(l, func(v impl.Event) bool { return v.Kind == impl.EvSubmit })
		}
		x := wantPlay(t, "between refused ones", e, l)
		if x.A.Gen != e.A.Gen+1 || x.A.Fuse != 500 || len(x.Wait) != len(l)-7 || len(x.Jobs) != 0 {
			t.Error(v, x)
		}
		for n := range 5 {
			l := append(slices.Repeat([]impl.Event{v}, mostPlay-2), slices.Repeat([]impl.Event{{Kind: 10}}, n)...)
			if x := wantPlay(t, "behind refused ones", e, l); x.A.Gen != e.A.Gen+min(n, 2) {
				t.Error(v, n, x.A.Gen)
			}
		}
	}
	// Without power each Job is answered so, and all that is refused is behind it.
	x := wantPlay(t, "the power goes", withBegun(e, cmdOf(impl.OpRead, 1, 0, 1)), []impl.Event{
		{Kind: 11}, {Kind: 10}, {Kind: 3}, {Kind: 3}, {Kind: 7}, {Kind: 5, K: 9}, {Kind: 4, K: 1}, {Kind: 4},
	})
	if !x.A.Down || len(x.Log) != 1 || len(x.Done) != 0 || x.Log[0].A.Code != impl.CoDown {
		t.Error(x)
	}
}

// To what is not EngOk nothing comes, however much.
func TestPlayOfWhatIsNotEngOk(t *testing.T) {
	t.Parallel()
	for name, e := range wrongEngs() {
		if x := impl.Play(e, fewEvents()); !alike(x, e) {
			t.Fatal(name, e, x)
		}
	}
}

// In two plays it is as in one, and as event by event.
func TestPlayIsOneBehindTheOther(t *testing.T) {
	t.Parallel()
	next := drawn(1019)
	for range 60 {
		e, l := anyAtWork(next), []impl.Event{}
		for range next(40) {
			l = append(l, anyEvent(e, next))
		}
		x, cut := wantPlay(t, "any", e, l), next(len(l)+1)
		if y := impl.Play(impl.Play(e, l[:cut]), l[cut:]); !alike(y, x) {
			t.Fatal("in two", l[:cut], l[cut:], y, x)
		}
		y := e
		for _, v := range l {
			y, _ = impl.DoEvent(y, v)
		}
		if !alike(y, x) {
			t.Fatal("event by event", l, y, x)
		}
	}
}

// The order counts.
func TestPlayInOrder(t *testing.T) {
	e := tens(impl.Geo{N: 3, S: 2})
	set := func(n int) []impl.Event {
		return []impl.Event{{Kind: 1, C: impl.Cmd{Op: impl.OpWrite, Id: 1, Vals: []int{n}}}, {Kind: 2}, {Kind: 3}, {Kind: 3}}
	}
	five, six := set(5), set(6)
	if x := wantPlay(t, "five, six", e, slices.Concat(five, six)); !slices.Equal(impl.Contents(x.A), now(0, 6)[:4]) || len(x.Log) != 2 {
		t.Error(impl.Contents(x.A))
	}
	if x := wantPlay(t, "six, five", e, slices.Concat(six, five)); !slices.Equal(impl.Contents(x.A), now(0, 5)[:4]) {
		t.Error(impl.Contents(x.A))
	}
	off := []impl.Event{{Kind: 11}, {Kind: 10}}
	if x := wantPlay(t, "the power goes ahead", e, slices.Concat(off, five, []impl.Event{{Kind: 12, K: -1}})); !slices.Equal(impl.Contents(x.A), now()[:4]) || len(x.Log) != 0 {
		t.Error(impl.Contents(x.A))
	}
	if x := wantPlay(t, "commands behind it", e, slices.Concat(off, []impl.Event{{Kind: 12, K: -1}}, five)); !slices.Equal(impl.Contents(x.A), now(0, 5)[:4]) || len(x.Log) != 1 {
		t.Error(impl.Contents(x.A))
	}
}

// Online looks at EngOk, Down and Broken, and at nothing else.
func TestOnline(t *testing.T) {
	want := func(name string, e impl.Eng, is bool) {
		t.Helper()
		if impl.Online(e) != is || impl.Online(roomy(e)) != is {
			t.Error(name, "is Online", !is, e)
		}
	}
	for _, g := range rightGeos() {
		want("new", impl.EngNew(arrayId, g), true)
	}
	e := withLog(withDone(withWait(fourToWork(), anyWaiting()...), 8), 400)
	want("full of all", e, true)
	off, broken := e, e
	off.A.Down, broken.A.Broken = true, true
	want("Down alone", off, false)
	want("Broken alone", broken, false)
	off.A.Broken = true
	want("both", off, false)
	want("Down by PowerOff", impl.Eng{A: impl.PowerOff(e.A)}, false)
	for _, fuse := range rightFuses() {
		x := e
		x.A.Fuse = fuse
		want(fmt.Sprint("Fuse ", fuse), x, true)
	}
	lost := impl.FailDisk(e.A, 2)
	want("one Lost", impl.Eng{A: lost}, true)
	placed, _ := impl.Spare(lost)
	want("a spare", impl.Eng{A: placed}, true)
	want("two Lost", impl.Eng{A: impl.FailDisk(lost, 0)}, false)
	want("spoilt", impl.Eng{A: impl.SpoilAt(impl.SpoilAt(e.A, 0, 0), 1, 0)}, true)
	full := e
	full.A.Gen = mostOfAnArr
	want("Gen at its end", full, true)
	full.A = e.A
	full.A.Seq, full.A.Tail = mostOfAnArr, mostOfAnArr
	want("Seq at its end", full, true)
	want("the zero one", impl.Eng{}, false)
	want("EngNew of what is no Geo", impl.EngNew(arrayId, impl.Geo{N: 2, S: 1}), false)
	for name, x := range wrongEngs() {
		want(name, x, false)
		x.A.Down, x.A.Broken = false, false
		want(name+" and neither Down nor Broken", x, false)
	}
	for i, x := range engsToMeet() {
		want(fmt.Sprint(i), x, !x.A.Down && !x.A.Broken)
	}
}

// What needs no command: Down and back, many times.
func TestOnlineComesAndGoes(t *testing.T) {
	e := tens(impl.Geo{N: 3, S: 2})
	for i := range 20 {
		e = wantPlay(t, "off", e, []impl.Event{{Kind: 11, K: i}, {Kind: 10}, {Kind: 10}, {Kind: 10}})
		if impl.Online(e) {
			t.Error(i, "is there", e.A)
		}
		e = wantPlay(t, "on", e, []impl.Event{{Kind: 12, K: -1, Keeps: []int{i, i, i}}})
		if !impl.Online(e) || !slices.Equal(impl.Contents(e.A), now()[:4]) {
			t.Error(i, "is not there", e.A)
		}
	}
}
