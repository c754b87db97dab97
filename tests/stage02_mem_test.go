package tests

import (
	"fmt"
	"maps"
	"math"
	"slices"
	"testing"

	"loop.example/g00398/impl"
)

const mostWrs = 60

// wrsOf answers so many Wrs, going round the sectors, no two of them alike.
func wrsOf(n, secs int) []impl.Wr {
	l := make([]impl.Wr, n)
	for i := range l {
		l[i] = impl.Wr{N: i % secs, S: []int{100 + i, i}}
	}
	return l
}

func memOf(secs int, wrs []impl.Wr, bad ...int) impl.Mem {
	m := impl.Mem{Cache: wrs, Bad: bad}
	for i := range secs {
		m.Secs = append(m.Secs, []int{i + 1})
	}
	return m
}

func failed(m impl.Mem) impl.Mem {
	m.Failed = true
	return m
}

func rightMems() []impl.Mem {
	l := []impl.Mem{
		{Secs: [][]int{nil}},
		{Secs: [][]int{{}, nil, {}}, Cache: []impl.Wr{{N: 1}, {N: 0, S: []int{}}}},
		{Secs: [][]int{upTo(impl.MaxSec)}, Cache: []impl.Wr{{N: 0, S: slices.Repeat([]int{65535}, impl.MaxSec)}}},
		memOf(1, nil),
		memOf(1, nil, 0),
		memOf(1, wrsOf(mostWrs, 1)),
		memOf(3, nil, 0, 1, 2),
		memOf(4, wrsOf(3, 2), 1, 3),
		memOf(4, []impl.Wr{{N: 1, S: []int{5}}, {N: 2, S: []int{6}}, {N: 1, S: []int{7}}}),
		memOf(5, []impl.Wr{{N: 4, S: []int{9}}, {N: 4}, {N: 0}}, 0),
		memOf(impl.MaxSecs, nil, 0, impl.MaxSecs-1),
		memOf(impl.MaxSecs, wrsOf(20, 7)),
		memOf(impl.MaxSecs, wrsOf(21, 7)),
		memOf(impl.MaxSecs, wrsOf(mostWrs, impl.MaxSecs), 3, 4, 19),
		memOf(impl.MaxSecs, wrsOf(mostWrs-1, impl.MaxSecs)),
		memOf(impl.MaxSecs, nil, 0, 1, 2, 3, 4, 5, 6, 7, 8, 9, 10, 11, 12, 13, 14, 15, 16, 17, 18, 19),
	}
	for _, m := range slices.Clone(l) {
		l = append(l, failed(m))
	}
	return l
}

// wrongMems answers Mems that are not MemOk, each for one reason alone.
func wrongMems() map[string]impl.Mem {
	l := map[string]impl.Mem{
		"the zero one":          {},
		"no sector":             {Secs: [][]int{}},
		"no sector, but Failed": {Failed: true},
		"too many sectors":      memOf(impl.MaxSecs+1, nil),
		"far too many sectors":  memOf(60, nil),
		"too many Wrs":          memOf(3, wrsOf(mostWrs+1, 3)),
		"a Wr below 0":          memOf(3, []impl.Wr{{N: -1}}),
		"a Wr at the end":       memOf(3, []impl.Wr{{N: 3}}),
		"a Wr past the end":     memOf(3, []impl.Wr{{N: 0}, {N: math.MaxInt}}),
		"a Wr far below 0":      memOf(3, []impl.Wr{{N: 2}, {N: math.MinInt}}),
		"Bad twice":             memOf(3, nil, 1, 1),
		"Bad twice at last":     memOf(3, nil, 0, 1, 1),
		"Bad falls":             memOf(3, nil, 1, 0),
		"Bad below 0":           memOf(3, nil, -1),
		"Bad below 0, then 0":   memOf(3, nil, -1, 0),
		"Bad at the end":        memOf(3, nil, 3),
		"Bad past the end":      memOf(3, nil, 0, 1, 2, 3),
		"Bad far past the end":  memOf(3, nil, math.MaxInt),
		"Bad where Wrs are":     memOf(3, wrsOf(5, 3), 2, 3),
	}
	for i, s := range wrongSectors() {
		first, last, wr := memOf(2, nil), memOf(impl.MaxSecs, nil), memOf(3, wrsOf(2, 3))
		first.Secs[0], last.Secs[impl.MaxSecs-1] = s, s
		wr.Cache = append(wr.Cache, impl.Wr{N: 1, S: s})
		l[fmt.Sprint("wrong in the first sector: ", i)] = first
		l[fmt.Sprint("wrong in the last sector: ", i)] = last
		l[fmt.Sprint("wrong in the last Wr: ", i)] = wr
		l[fmt.Sprint("wrong in the first Wr: ", i)] = memOf(3, []impl.Wr{{N: 1, S: s}, {N: 1}})
	}
	for name, m := range maps.Clone(l) {
		l[name+", Failed"] = failed(m)
	}
	return l
}

// noSector answers numbers of which m has no sector.
func noSector(m impl.Mem) []int {
	n := len(m.Secs)
	return []int{-1, -2, -n, n, n + 1, n + 1000, math.MinInt, math.MaxInt, 1 << 32, -1 << 32}
}

// wantSettled answers m with these of its Wrs in their sectors, by the
// document's words: one behind the other.
func wantSettled(m impl.Mem, keeps func(place int) bool) impl.Mem {
	out := plain(m)
	out.Cache = nil
	for i, w := range m.Cache {
		if keeps(i) {
			out.Secs[w.N] = w.S
		}
	}
	return out
}

func wantRead(m impl.Mem, n int) []int {
	for _, w := range slices.Backward(m.Cache) {
		if w.N == n {
			return w.S
		}
	}
	return m.Secs[n]
}

func notRead(s []int, ok bool) bool { return len(s) == 0 && !ok }

func TestMemNew(t *testing.T) {
	for n := 1; n <= impl.MaxSecs; n++ {
		m := impl.MemNew(n)
		if !impl.MemOk(m) || !alike(m, impl.Mem{Secs: make([][]int, n)}) {
			t.Error(n, m)
		}
		for i := range n {
			if s, ok := impl.ReadSec(m, i); !ok || len(s) != 0 {
				t.Error(n, i, s, ok)
			}
		}
	}
	for _, n := range []int{0, -1, impl.MaxSecs + 1, 1000, 1 << 32, math.MinInt, math.MaxInt} {
		if m := impl.MemNew(n); !alike(m, impl.Mem{}) {
			t.Error(n, m)
		}
	}
}

func TestMemOk(t *testing.T) {
	for _, m := range rightMems() {
		if !impl.MemOk(m) || !impl.MemOk(roomy(m)) {
			t.Error("refused", m)
		}
	}
	for name, m := range wrongMems() {
		if impl.MemOk(m) || impl.MemOk(roomy(m)) {
			t.Error("accepted:", name)
		}
	}
}

func TestWrittenIsReadAndFlushed(t *testing.T) {
	for secs := 1; secs <= impl.MaxSecs; secs++ {
		m := memOf(secs, nil)
		want := plain(m)
		for i, w := range wrsOf(mostWrs, secs) {
			// Not all go round: some are written again before others are at all.
			w.N = w.N * w.N % secs
			var ok bool
			if m, ok = impl.WriteSec(m, w.N, w.S); !ok || len(m.Cache) != i+1 || !alike(m.Cache[i], w) {
				t.Fatal(secs, i, ok, m.Cache)
			}
			want.Secs[w.N] = w.S
			for n := range secs {
				if s, ok := impl.ReadSec(m, n); !ok || !slices.Equal(s, want.Secs[n]) {
					t.Fatal(secs, i, n, s, ok)
				}
			}
			if f := impl.FlushMem(m); !alike(f, want) {
				t.Fatal(secs, i, f)
			}
		}
		for n := range secs {
			if !slices.Equal(m.Secs[n], []int{n + 1}) {
				t.Error("in its sector ahead of the flush:", secs, n)
			}
		}
	}
}

func TestSixtyWrsAndOneMore(t *testing.T) {
	m, ok := impl.WriteSec(memOf(3, wrsOf(mostWrs-1, 3)), 2, []int{8})
	if !ok || len(m.Cache) != mostWrs || !impl.MemOk(m) {
		t.Fatal("the last is not taken", ok, len(m.Cache))
	}
	if x, ok := impl.WriteSec(m, 0, nil); ok || !alike(x, m) {
		t.Error("one more is taken", ok, len(x.Cache))
	}
	if x, ok := impl.WriteSec(impl.FlushMem(m), 0, nil); !ok || len(x.Cache) != 1 {
		t.Error("flushed there is no room")
	}
}

func TestSectorOfNoWordsIsWritten(t *testing.T) {
	m, ok := impl.WriteSec(memOf(3, nil), 1, nil)
	if s, there := impl.ReadSec(m, 1); !ok || !there || len(s) != 0 {
		t.Error("not read", s, there)
	}
	want := memOf(3, nil)
	if want.Secs[1] = nil; !alike(impl.FlushMem(m), want) || !alike(impl.FallMem(m, 1), want) {
		t.Error("not in its sector")
	}
	if !alike(impl.FallMem(m, 0), memOf(3, nil)) {
		t.Error("what was there is gone")
	}
}

func TestReadSec(t *testing.T) {
	for _, m := range rightMems() {
		for n := range m.Secs {
			s, ok := impl.ReadSec(m, n)
			if m.Failed || slices.Contains(m.Bad, n) {
				if !notRead(s, ok) {
					t.Error("read", m, n, s, ok)
				}
			} else if !ok || !slices.Equal(s, wantRead(m, n)) {
				t.Error(m, n, s, ok)
			}
		}
		for _, n := range noSector(m) {
			if s, ok := impl.ReadSec(m, n); !notRead(s, ok) {
				t.Error(m, n, s, ok)
			}
		}
	}
	for name, m := range wrongMems() {
		for _, n := range append(noSector(m), 0, 1, 2) {
			if s, ok := impl.ReadSec(m, n); !notRead(s, ok) {
				t.Error(name, n, s, ok)
			}
		}
	}
}

func TestWriteSec(t *testing.T) {
	for _, m := range rightMems() {
		for n := range m.Secs {
			for _, s := range rightSectors() {
				x, ok := impl.WriteSec(m, n, s)
				want := plain(m)
				if !m.Failed && len(m.Cache) < mostWrs {
					want.Cache = append(want.Cache, impl.Wr{N: n, S: s})
					want.Bad = slices.DeleteFunc(want.Bad, func(b int) bool { return b == n })
				}
				if ok != (len(want.Cache) > len(m.Cache)) || !alike(x, want) {
					t.Fatal(m, n, s, x, ok)
				}
			}
			for _, s := range wrongSectors() {
				if x, ok := impl.WriteSec(m, n, s); ok || !alike(x, m) {
					t.Fatal(m, n, s, x, ok)
				}
			}
		}
		for _, n := range noSector(m) {
			if x, ok := impl.WriteSec(m, n, []int{5}); ok || !alike(x, m) {
				t.Fatal(m, n, x, ok)
			}
		}
	}
	for name, m := range wrongMems() {
		for _, n := range append(noSector(m), 0, 1, 2) {
			if x, ok := impl.WriteSec(m, n, []int{5}); ok || !alike(x, m) {
				t.Error(name, n, x, ok)
			}
		}
	}
}

func TestFlushMem(t *testing.T) {
	for _, m := range rightMems() {
		want := m
		if !m.Failed {
			want = wantSettled(m, func(int) bool { return true })
		}
		x := impl.FlushMem(m)
		if !alike(x, want) || !alike(impl.FlushMem(x), want) {
			t.Error(m, x)
		}
	}
	for name, m := range wrongMems() {
		if x := impl.FlushMem(m); !alike(x, m) {
			t.Error(name, x)
		}
	}
}

// keepsOf answers each single bit, all but each, and numbers at the limits.
func keepsOf() []int {
	l := []int{0, 1048575, 0b1010_1010_1010_1010_1010, 0b0101_0101_0101_0101_0101, 3, 12345, 999999}
	for i := range 20 {
		l = append(l, 1<<i, 1048575^1<<i)
	}
	return l
}

func wrongKeeps() []int {
	return []int{1048576, 1048577, -1, -2, -1048575, 2097151, 1 << 21, 1<<20 + 1<<19, 1 << 32, math.MinInt, math.MaxInt}
}

func TestFallMem(t *testing.T) {
	for _, m := range rightMems() {
		for _, keep := range keepsOf() {
			want := wantSettled(m, func(place int) bool { return place < 20 && keep>>place&1 == 1 })
			if x := impl.FallMem(m, keep); !alike(x, want) {
				t.Fatal(m, keep, x)
			}
		}
		for _, keep := range wrongKeeps() {
			if x := impl.FallMem(m, keep); !alike(x, wantSettled(m, func(int) bool { return false })) {
				t.Fatal(m, keep, x)
			}
		}
	}
	for name, m := range wrongMems() {
		for _, keep := range append(keepsOf(), wrongKeeps()...) {
			if x := impl.FallMem(m, keep); !alike(x, m) {
				t.Error(name, keep, x)
			}
		}
	}
}

// Of several Wrs of one sector only some are kept, in each way.
func TestFallKeepsSomeOfOneSector(t *testing.T) {
	m := memOf(3, []impl.Wr{{N: 1, S: []int{10}}, {N: 0, S: []int{20}}, {N: 1, S: []int{30}}, {N: 1}, {N: 2, S: []int{40, 41}}, {N: 1, S: []int{50}}, {N: 0, S: []int{60}}, {N: 2, S: []int{70}}})
	for keep := range 1 << len(m.Cache) {
		x := impl.FallMem(m, keep)
		if !alike(x, wantSettled(m, func(place int) bool { return keep>>place&1 == 1 })) || !impl.MemOk(x) {
			t.Fatal(keep, x)
		}
	}
}

func TestFallOfALongCache(t *testing.T) {
	// The 20th may be kept, the one behind it is gone, whatever keep is.
	wrs := append(slices.Repeat([]impl.Wr{{N: 0, S: []int{7}}}, 19), impl.Wr{N: 1, S: []int{8}}, impl.Wr{N: 2, S: []int{9}}, impl.Wr{N: 1, S: []int{10}})
	m := memOf(3, wrs)
	for keep, want := range map[int][][]int{
		1048575:           {{7}, {8}, {3}},
		1 << 19:           {{1}, {8}, {3}},
		1<<19 - 1:         {{7}, {2}, {3}},
		1 << 20:           {{1}, {2}, {3}},
		1<<20 + 1<<19:     {{1}, {2}, {3}},
		1<<21 + 1<<20 + 1: {{1}, {2}, {3}},
		-1:                {{1}, {2}, {3}},
	} {
		if x := impl.FallMem(m, keep); !alike(x, impl.Mem{Secs: want}) {
			t.Error(keep, x)
		}
	}
}

// The promise itself: whatever was done, behind a fall each sector is what it
// was, or what was written to it since; and a flush leaves it nothing to lose.
func TestSectorsBehindAFall(t *testing.T) {
	next := drawn(7)
	for range 3000 {
		secs := 1 + next(4)
		m := memOf(secs, nil)
		may := make([][][]int, secs)
		for n := range secs {
			may[n] = [][]int{m.Secs[n]}
		}
		for i := range next(30) {
			if next(9) == 0 {
				m = impl.FlushMem(m)
				for n := range secs {
					may[n] = may[n][len(may[n])-1:]
				}
				continue
			}
			n, s := next(secs), upTo(next(3))
			s = append(s, i)
			m, _ = impl.WriteSec(m, n, s)
			may[n] = append(may[n], s)
		}
		fell := impl.FallMem(m, next(1<<20))
		for n := range secs {
			s, ok := impl.ReadSec(fell, n)
			if !ok || len(fell.Cache) != 0 || !slices.ContainsFunc(may[n], func(l []int) bool { return slices.Equal(l, s) }) {
				t.Fatal(m, n, s, ok)
			}
		}
	}
}

func TestFailMem(t *testing.T) {
	for _, m := range rightMems() {
		want := plain(m)
		want.Failed, want.Cache = true, nil
		x := impl.FailMem(m)
		if !alike(x, want) || !impl.MemOk(x) {
			t.Error(m, x)
		}
		for n := range m.Secs {
			if s, ok := impl.ReadSec(x, n); !notRead(s, ok) {
				t.Error("read", m, n)
			}
			if y, ok := impl.WriteSec(x, n, nil); ok || !alike(y, want) {
				t.Error("written", m, n)
			}
		}
		if !alike(impl.FlushMem(x), want) || !alike(impl.FallMem(x, 1), want) {
			t.Error("it turned", m)
		}
	}
}

// Whatever is wrong with a disk, it can fail: its sectors and what is Bad are
// as they were, also where they are not as they should be.
func TestFailMemOfWrongMems(t *testing.T) {
	for name, m := range wrongMems() {
		want := plain(m)
		want.Failed, want.Cache = true, nil
		x := impl.FailMem(m)
		if !alike(x, want) || !alike(impl.FailMem(x), want) {
			t.Error(name, x)
		}
	}
	for _, m := range []impl.Mem{
		{},
		{Secs: [][]int{{1}, {}}, Cache: []impl.Wr{{N: 2, S: []int{3}}}, Bad: []int{1}},
		{Secs: [][]int{{65536}, {}}, Cache: []impl.Wr{{N: 1, S: []int{3}}}, Bad: []int{1, 0}},
	} {
		if x := impl.FailMem(m); !alike(x, impl.Mem{Secs: m.Secs, Failed: true, Bad: m.Bad}) {
			t.Error(m, x)
		}
	}
	// The Cache alone was wrong: without it, it is a right disk that failed.
	if x := impl.FailMem(memOf(3, wrsOf(mostWrs+1, 3), 1)); !impl.MemOk(x) {
		t.Error("the Cache is still counted", x)
	}
}

func TestSpoilSec(t *testing.T) {
	for _, m := range rightMems() {
		for n := range m.Secs {
			want := plain(m)
			if !slices.Contains(want.Bad, n) {
				want.Bad = append(want.Bad, n)
				slices.Sort(want.Bad)
			}
			x := impl.SpoilSec(m, n)
			if !alike(x, want) || !impl.MemOk(x) || !alike(impl.SpoilSec(x, n), want) {
				t.Error(m, n, x)
			}
			if s, ok := impl.ReadSec(x, n); !notRead(s, ok) {
				t.Error("read", m, n, s, ok)
			}
			// Neither a flush nor a fall makes it good.
			for _, y := range []impl.Mem{impl.FlushMem(x), impl.FallMem(x, 1048575), impl.FallMem(x, 0)} {
				if s, ok := impl.ReadSec(y, n); !notRead(s, ok) || !slices.Equal(y.Bad, want.Bad) {
					t.Error("good again", m, n, s, ok)
				}
			}
		}
		for _, n := range noSector(m) {
			if x := impl.SpoilSec(m, n); !alike(x, m) {
				t.Error(m, n, x)
			}
		}
	}
	for name, m := range wrongMems() {
		for _, n := range append(noSector(m), 0, 1, 2) {
			if x := impl.SpoilSec(m, n); !alike(x, m) {
				t.Error(name, n, x)
			}
		}
	}
}

func TestBadSectorIsWritten(t *testing.T) {
	for n := range 3 {
		m, ok := impl.WriteSec(memOf(3, nil, 0, 1, 2), n, []int{5})
		bad := slices.DeleteFunc([]int{0, 1, 2}, func(b int) bool { return b == n })
		if s, there := impl.ReadSec(m, n); !ok || !there || !slices.Equal(s, []int{5}) || !slices.Equal(m.Bad, bad) {
			t.Error(n, m, s, there)
		}
		// What was there counts again where the fall keeps nothing.
		if s, there := impl.ReadSec(impl.FallMem(m, 0), n); !there || !slices.Equal(s, []int{n + 1}) {
			t.Error(n, s, there)
		}
		if s, there := impl.ReadSec(impl.FlushMem(m), n); !there || !slices.Equal(s, []int{5}) {
			t.Error(n, s, there)
		}
	}
}

func TestDisksHoldApart(t *testing.T) {
	all := rightMems()
	for _, m := range wrongMems() {
		all = append(all, m)
	}
	for _, plainly := range all {
		m := roomy(plainly)
		for _, n := range []int{-1, 0, len(m.Secs) - 1, len(m.Secs)} {
			holdsApart(t, "ReadSec", []any{m}, func() []any { s, _ := impl.ReadSec(m, n); return []any{s} })
			holdsApart(t, "SpoilSec", []any{m}, func() []any { return []any{impl.SpoilSec(m, n)} })
			for _, words := range [][]int{nil, {1, 2}, {-1}, upTo(impl.MaxSec + 1)} {
				s := roomy(words)
				holdsApart(t, "WriteSec", []any{m, s}, func() []any { x, _ := impl.WriteSec(m, n, s); return []any{x} })
			}
		}
		for _, keep := range []int{0, 1, 5, 1048575, 1048576, -1} {
			holdsApart(t, "FallMem", []any{m}, func() []any { return []any{impl.FallMem(m, keep)} })
		}
		holdsApart(t, "FlushMem", []any{m}, func() []any { return []any{impl.FlushMem(m)} })
		holdsApart(t, "FailMem", []any{m}, func() []any { return []any{impl.FailMem(m)} })
		holdsApart(t, "MemOk", []any{m}, func() []any { return []any{impl.MemOk(m)} })
	}
	for _, n := range []int{0, 1, 2, impl.MaxSecs, impl.MaxSecs + 1} {
		holdsApart(t, "MemNew", nil, func() []any { return []any{impl.MemNew(n)} })
	}
}

// Lists of an argument may be one and the same; those of an answer may not.
func TestDisksOfOneListHoldApart(t *testing.T) {
	one := roomy([]int{1, 2})
	m := impl.Mem{Secs: [][]int{one, one, one}, Cache: []impl.Wr{{N: 0, S: one}, {N: 1, S: one}, {N: 0, S: one}}, Bad: one}
	for name, call := range map[string]func() impl.Mem{
		"WriteSec": func() impl.Mem { x, _ := impl.WriteSec(m, 2, one); return x },
		"refused":  func() impl.Mem { x, _ := impl.WriteSec(m, 3, one); return x },
		"FlushMem": func() impl.Mem { return impl.FlushMem(m) },
		"FallMem":  func() impl.Mem { return impl.FallMem(m, 7) },
		"FailMem":  func() impl.Mem { return impl.FailMem(m) },
		"SpoilSec": func() impl.Mem { return impl.SpoilSec(m, 0) },
	} {
		holdsApart(t, name, []any{m, one}, func() []any { return []any{call()} })
	}
}
