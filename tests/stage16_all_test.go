package tests

import (
	"fmt"
	"math"
	"slices"
	"testing"

	"loop.example/g00398/impl"
)

const mostWorks = 1000

// wantAllWorked is what the document says of the first Job, worked on again
// and again.
func wantAllWorked(e impl.Eng, n int) impl.Eng {
	if !within(n, 0, mostWorks) {
		return e
	}
	for range n {
		x, ok := wantWorked(e, 0)
		if !ok {
			break
		}
		e = x
	}
	return e
}

// wantWorkAll asks what WorkAll does, with junk behind the lists or not.
func wantWorkAll(t *testing.T, name string, e impl.Eng, n int) impl.Eng {
	t.Helper()
	want := wantAllWorked(e, n)
	for _, on := range []impl.Eng{e, roomy(e)} {
		if x := impl.WorkAll(on, n); !alike(x, want) {
			t.Fatal(name, n, "times\n", on, "\nanswered", x, "\nnot", want)
		}
	}
	return want
}

// wantFetched is what the document says of an answer that is fetched.
func wantFetched(e impl.Eng, k int) (impl.Eng, impl.Ans, bool) {
	if !wantEngOk(e) || k < 0 || k >= len(e.Done) {
		return e, impl.Ans{}, false
	}
	ans := e.Done[k]
	e.Done = slices.Concat(e.Done[:k], e.Done[k+1:])
	return e, ans, true
}

// wantFetch asks what Fetch does, with junk behind the lists or not.
func wantFetch(t *testing.T, name string, e impl.Eng, k int) (impl.Eng, impl.Ans, bool) {
	t.Helper()
	want, ans, ok := wantFetched(e, k)
	for _, on := range []impl.Eng{e, roomy(e)} {
		x, a, is := impl.Fetch(on, k)
		if is != ok || !alike(a, ans) || !alike(x, want) {
			t.Fatal(name, k, "of", on, "\nanswered", a, is, x, "\nnot", ans, ok, want)
		}
	}
	return want, ans, ok
}

// fourToWork has Jobs that need 3, 2, 5 and 2 times, of which the last misses.
func fourToWork() impl.Eng {
	return withBegun(tens(impl.Geo{N: 4, S: 3}),
		impl.Cmd{Op: impl.OpRead, Id: 1, Lba: 7, N: 2},
		impl.Cmd{Op: impl.OpZero, Id: 2, Lba: 0, N: 1},
		impl.Cmd{Op: impl.OpFua, Id: 3, Lba: 2, Vals: []int{5, 6}},
		impl.Cmd{Op: impl.OpCompare, Id: 4, Lba: 6, Vals: []int{1, 2}})
}

// The first one is worked on until it is answered, then the next.
func TestWorkAllInOrder(t *testing.T) {
	e := fourToWork()
	for n, c := range []struct {
		done, at int
	}{{0, 0}, {0, 1}, {0, 2}, {1, 0}, {1, 1}, {2, 0}, {2, 1}, {2, 2}, {2, 3}, {2, 4}, {3, 0}, {4, 0}, {4, 0}} {
		x := wantWorkAll(t, "four", e, n)
		if len(x.Done) != c.done || len(x.Log) != c.done || len(x.Jobs) != 4-c.done {
			t.Error(n, x)
		}
		for i, j := range x.Jobs {
			if at := []int{c.at, 0, 0, 0}[i]; j.At != at || !alike(j.C, e.Jobs[c.done+i].C) {
				t.Error(n, "the Job", i, j)
			}
		}
	}
	all := impl.WorkAll(e, 1000)
	if !alike(all.Done, []impl.Ans{{Id: 1, Vals: []int{17, 18}}, {Id: 2}, {Id: 3}, {Id: 4, Code: impl.CoMiss}}) {
		t.Error(all.Done)
	}
	if !slices.Equal(impl.Contents(all.A), now(0, 0, 2, 5, 3, 6)) || !slices.Equal(impl.Durable(all.A), now(0, 0, 2, 5, 3, 6)) {
		t.Error(impl.Contents(all.A), impl.Durable(all.A))
	}
}

func TestWorkAllHowOften(t *testing.T) {
	e, all := fourToWork(), wantAllWorked(fourToWork(), mostWorks)
	for _, n := range append([]int{-1, -2, -1000, 1001, 1002, 65536}, far()...) {
		if x := wantWorkAll(t, "wrong", e, n); !alike(x, e) {
			t.Error(n, x)
		}
	}
	if x := wantWorkAll(t, "none", e, 0); !alike(x, e) {
		t.Error(x)
	}
	if x := wantWorkAll(t, "one", e, 1); alike(x, e) || alike(x, all) {
		t.Error(x)
	}
	for _, n := range []int{11, 12, 255, 256, 999, 1000} {
		if x := wantWorkAll(t, "all", e, n); !alike(x, all) || len(x.Jobs) != 0 {
			t.Error(n, x)
		}
	}
}

// So often WorkAll as Work of the first, one behind the other.
func TestWorkAllIsWork(t *testing.T) {
	e := fourToWork()
	for n := range 14 {
		want := e
		for range n {
			want, _ = impl.Work(want, 0)
		}
		if x := impl.WorkAll(e, n); !alike(x, want) {
			t.Error(n, x)
		}
	}
	for n := range 12 {
		if x := impl.WorkAll(impl.WorkAll(e, n), 11-n); !alike(x, impl.WorkAll(e, 11)) {
			t.Error("in two", n, x)
		}
	}
}

func TestWorkAllOfNoJobs(t *testing.T) {
	for i, e := range cornerEngs() {
		e.Jobs = nil
		for _, n := range []int{-1, 0, 1, 2, 999, 1000, 1001} {
			if x := wantWorkAll(t, fmt.Sprint(i), e, n); !alike(x, e) {
				t.Error(i, n, x)
			}
		}
	}
	e := fourToWork()
	e.Jobs = e.Jobs[:0]
	if x := wantWorkAll(t, "behind the length", e, 1000); !alike(x, e) {
		t.Error(x)
	}
}

// It ends where Log is full, or e is not EngOk any more.
func TestWorkAllWhereItIsFull(t *testing.T) {
	e := fourToWork()
	for log := 394; log <= mostLog; log++ {
		x := wantWorkAll(t, "Log", withLog(e, log), 1000)
		answered := min(4, 400-log)
		if len(x.Log) != log+answered || len(x.Done) != answered || len(x.Jobs) != 4-answered {
			t.Error(log, len(x.Log), x.Jobs)
		}
		if answered < 4 && x.Jobs[0].At != 0 {
			t.Error(log, "the next Job was begun on", x.Jobs)
		}
	}
	for done := range mostDone + 1 {
		x := wantWorkAll(t, "Done", withDone(e, done), 1000)
		answered := min(4, 9-done)
		if len(x.Done) != done+answered || len(x.Log) != answered || len(x.Jobs) != 4-answered || impl.EngOk(x) != (len(x.Done) <= 8) {
			t.Error(done, len(x.Done), x.Jobs)
		}
	}
	if x := wantWorkAll(t, "wrong", withDone(e, mostDone+1), 1000); len(x.Jobs) != 4 {
		t.Error(x)
	}
}

func TestWorkAllOfWrongEngs(t *testing.T) {
	t.Parallel()
	for name, e := range wrongEngs() {
		for _, n := range []int{1, 1000} {
			if x := impl.WorkAll(e, n); !alike(x, e) {
				t.Fatal(name, n, e, x)
			}
		}
	}
}

func TestWorkAllAndFetchOfAnyEng(t *testing.T) {
	t.Parallel()
	next, left, fetched, not := drawn(937), map[int]int{}, 0, 0
	for range 1500 {
		e := anyAtWork(next)
		x := wantWorkAll(t, "any", e, []int{next(12), next(12), 1000, 1001, -1}[next(5)])
		left[len(e.Jobs)-len(x.Jobs)]++
		if _, _, ok := wantFetch(t, "any", e, next(len(e.Done)+2)-1); ok {
			fetched++
		} else {
			not++
		}
	}
	for n := range mostJobs {
		if left[n] < 10 {
			t.Error("seldom were so many answered:", n, left)
		}
	}
	if fetched < 300 || not < 300 {
		t.Error("seldom:", fetched, not)
	}
}

// Whichever is fetched, the others stay in their order, and all else is as it
// was: Log among it.
func TestFetch(t *testing.T) {
	for _, e := range []impl.Eng{engOf(impl.Geo{N: 4, S: 3}), withLog(withWait(fourToWork(), anyWaiting()...), 400)} {
		for n := range mostDone + 1 {
			x := withDone(e, n)
			for k := range n {
				y, ans, ok := wantFetch(t, "each", x, k)
				if !ok || !alike(ans, anyAns(k)) || !alike(y.Done, slices.Concat(x.Done[:k], x.Done[k+1:])) {
					t.Error(n, k, ans, ok, y.Done)
				}
				y.Done = x.Done
				if !alike(y, x) {
					t.Error(n, k, "turned", y)
				}
			}
			for _, k := range append([]int{-1, -2, -n, n, n + 1, mostDone, mostDone + 1, 256, 65536}, far()...) {
				if k == 0 && n > 0 || within(k, 0, n-1) {
					continue
				}
				if y, ans, ok := wantFetch(t, "none", x, k); ok || !alike(ans, impl.Ans{}) || !alike(y, x) {
					t.Error(n, k, ans, ok)
				}
			}
		}
	}
}

// What is behind the length of Done is not fetched.
func TestFetchBehindTheLength(t *testing.T) {
	e := withDone(engOf(impl.Geo{N: 3, S: 1}), 5)
	e.Done = e.Done[:2]
	for k := range 6 {
		if _, _, ok := wantFetch(t, "behind", e, k); ok != (k < 2) {
			t.Error(k, ok)
		}
	}
}

// However the array stands, what is Done is fetched.
func TestFetchHoweverTheArrStands(t *testing.T) {
	for i, a := range cornerArrs() {
		e := withDone(impl.Eng{A: a}, 3)
		for range 3 {
			x, _, ok := wantFetch(t, fmt.Sprint(i), e, len(e.Done)/2)
			if !ok {
				t.Error(i, "is not fetched")
			}
			e = x
		}
		if _, _, ok := wantFetch(t, fmt.Sprint(i), e, 0); ok {
			t.Error(i, "is fetched, though none is there")
		}
	}
}

func TestFetchOfWrongEngs(t *testing.T) {
	t.Parallel()
	for name, e := range wrongEngs() {
		if len(e.Done) == 0 {
			e = withDone(e, 2)
		}
		for _, k := range []int{0, 1, -1, math.MaxInt} {
			if x, ans, ok := impl.Fetch(e, k); ok || !alike(ans, impl.Ans{}) || !alike(x, e) {
				t.Fatal(name, k, ans, ok, x)
			}
		}
	}
}
