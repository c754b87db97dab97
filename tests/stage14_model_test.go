package tests

import (
	"fmt"
	"math"
	"slices"
	"testing"

	"loop.example/g00398/impl"
)

// blocksIn counts block by block, so that no number wraps round.
func blocksIn(g impl.Geo) int {
	blocks := 0
	if geoRight(g) {
		for range g.S {
			blocks += g.N - 1
		}
	}
	return blocks
}

// wantDone is what the document says of one command, block by block.
func wantDone(g impl.Geo, l []int, c impl.Cmd) ([]int, impl.Ans) {
	out, ans := slices.Clone(l), impl.Ans{Id: c.Id, Code: wantCmdCode(g, c)}
	if len(l) != blocksIn(g) {
		ans.Code = impl.CoForm
	}
	if ans.Code != impl.CoGood {
		return out, ans
	}
	its := blocksOfCmd(g, c)
	for b, w := range l {
		switch {
		case its>>b&1 == 0:
		case c.Op == impl.OpRead:
			ans.Vals = append(ans.Vals, w)
		case c.Op == impl.OpWrite || c.Op == impl.OpFua:
			out[b] = c.Vals[b-c.Lba]
		case c.Op == impl.OpZero:
			out[b] = 0
		case c.Op == impl.OpCompare && w == c.Vals[0]:
			out[b] = c.Vals[1]
		case c.Op == impl.OpCompare:
			ans.Code = impl.CoMiss
		}
	}
	return out, ans
}

// wantDo asks what a command does on these blocks, with junk behind the lists
// or not, and answers the code.
func wantDo(t *testing.T, name string, g impl.Geo, l []int, c impl.Cmd) int {
	t.Helper()
	blocks, ans := wantDone(g, l, c)
	wantDoAs(t, name, g, l, c, blocks, ans)
	return ans.Code
}

func wantDoAs(t *testing.T, name string, g impl.Geo, l []int, c impl.Cmd, blocks []int, ans impl.Ans) {
	t.Helper()
	for _, room := range []bool{false, true} {
		on, asked := l, c
		if room {
			on, asked = roomy(l), roomy(c)
		}
		x, a := impl.DoCmd(g, on, asked)
		if !slices.Equal(x, blocks) || !alike(a, ans) {
			t.Error(name, g, l, c, "answered", x, a, "not", blocks, ans)
		}
		if turns := c.Op != impl.OpRead && c.Op != impl.OpFlush && a.Code == impl.CoGood; !turns && !slices.Equal(x, l) {
			t.Error(name, g, l, c, "turned", x, "though it is", a)
		}
		if reads := c.Op == impl.OpRead && a.Code == impl.CoGood; !reads && len(a.Vals) != 0 {
			t.Error(name, g, l, c, "has words", a)
		}
	}
}

// numbered answers blocks no two of which are alike, nor like a word of upTo,
// nor 0.
func numbered(g impl.Geo) []int {
	l := make([]int, blocksIn(g))
	for b := range l {
		l[b] = 600 + 3*b
	}
	return l
}

// comparesOn answers for each place what is held against these blocks: the
// word that is there, another one, one that is elsewhere, and what is to be is
// another one, the same, 0 and the greatest.
func comparesOn(l []int) []impl.Cmd {
	cmds := []impl.Cmd{}
	for b, w := range l {
		next := l[(b+1)%len(l)]
		for _, there := range []int{w, next, l[0], l[len(l)-1], 1, 0, 65535, w & 255} {
			for _, toBe := range []int{w, next, 1, 0, 65535} {
				cmds = append(cmds, impl.Cmd{Op: impl.OpCompare, Id: 1 + b, Lba: b, Vals: []int{there, toBe}})
			}
		}
	}
	return cmds
}

func TestZeros(t *testing.T) {
	for _, g := range rightGeos() {
		l, again := impl.Zeros(g), impl.Zeros(g)
		if len(l) != blocksIn(g) || len(l) != impl.Blocks(g) || slices.ContainsFunc(l, func(n int) bool { return n != 0 }) {
			t.Error(g, l)
		}
		l[0] = 5
		if again[0] != 0 || impl.Zeros(g)[0] != 0 {
			t.Error("they turn together", g)
		}
	}
	for g, n := range map[impl.Geo]int{{N: 3, S: 1}: 2, {N: 3, S: 8}: 16, {N: 4, S: 5}: 15, {N: 5, S: 1}: 4, {N: 5, S: 8}: 32} {
		if l := impl.Zeros(g); !slices.Equal(l, make([]int, n)) {
			t.Error(g, l)
		}
	}
	for _, wrong := range append(wrongGeos(), impl.Geo{}) {
		if l := impl.Zeros(wrong); len(l) != 0 {
			t.Error(wrong, l)
		}
	}
}

// Each Op on blocks that are written out here.
func TestDoCmd(t *testing.T) {
	g, was, six := impl.Geo{N: 3, S: 4}, []int{10, 11, 12, 13, 14, 15, 16, 17}, []int{1, 2, 3, 4, 5, 6}
	for i, c := range []struct {
		c      impl.Cmd
		blocks []int
		ans    impl.Ans
	}{
		{impl.Cmd{Op: impl.OpRead, Id: 5, N: 1}, was, impl.Ans{Id: 5, Vals: []int{10}}},
		{impl.Cmd{Op: impl.OpRead, Id: 5, Lba: 7, N: 1}, was, impl.Ans{Id: 5, Vals: []int{17}}},
		{impl.Cmd{Op: impl.OpRead, Id: 5, N: 6}, was, impl.Ans{Id: 5, Vals: []int{10, 11, 12, 13, 14, 15}}},
		{impl.Cmd{Op: impl.OpRead, Id: 5, Lba: 2, N: 6}, was, impl.Ans{Id: 5, Vals: []int{12, 13, 14, 15, 16, 17}}},
		{impl.Cmd{Op: impl.OpRead, Id: 5, Lba: 3, N: 2, Vals: six}, was, impl.Ans{Id: 5, Vals: []int{13, 14}}},
		{impl.Cmd{Op: impl.OpWrite, Id: 6, Vals: six[:1]}, []int{1, 11, 12, 13, 14, 15, 16, 17}, impl.Ans{Id: 6}},
		{impl.Cmd{Op: impl.OpWrite, Id: 6, Lba: 7, Vals: six[:1]}, []int{10, 11, 12, 13, 14, 15, 16, 1}, impl.Ans{Id: 6}},
		{impl.Cmd{Op: impl.OpWrite, Id: 6, Lba: 1, Vals: six}, []int{10, 1, 2, 3, 4, 5, 6, 17}, impl.Ans{Id: 6}},
		{impl.Cmd{Op: impl.OpWrite, Id: 6, Lba: 3, N: 5, Vals: six[:2]}, []int{10, 11, 12, 1, 2, 15, 16, 17}, impl.Ans{Id: 6}},
		{impl.Cmd{Op: impl.OpFua, Id: 7, Vals: six}, []int{1, 2, 3, 4, 5, 6, 16, 17}, impl.Ans{Id: 7}},
		{impl.Cmd{Op: impl.OpFua, Id: 7, Lba: 2, Vals: six}, []int{10, 11, 1, 2, 3, 4, 5, 6}, impl.Ans{Id: 7}},
		{impl.Cmd{Op: impl.OpFua, Id: 7, Lba: 4, N: 9, Vals: []int{65535, 0}}, []int{10, 11, 12, 13, 65535, 0, 16, 17}, impl.Ans{Id: 7}},
		{impl.Cmd{Op: impl.OpFlush, Id: 8}, was, impl.Ans{Id: 8}},
		{impl.Cmd{Op: impl.OpFlush, Id: 8, Lba: 3, N: 2, Vals: six[:2]}, was, impl.Ans{Id: 8}},
		{impl.Cmd{Op: impl.OpFlush, Id: 8, Lba: -1, N: -1, Vals: []int{-1}}, was, impl.Ans{Id: 8}},
		{impl.Cmd{Op: impl.OpZero, Id: 9, N: 1}, []int{0, 11, 12, 13, 14, 15, 16, 17}, impl.Ans{Id: 9}},
		{impl.Cmd{Op: impl.OpZero, Id: 9, Lba: 7, N: 1}, []int{10, 11, 12, 13, 14, 15, 16, 0}, impl.Ans{Id: 9}},
		{impl.Cmd{Op: impl.OpZero, Id: 9, Lba: 1, N: 6, Vals: six}, []int{10, 0, 0, 0, 0, 0, 0, 17}, impl.Ans{Id: 9}},
		{impl.Cmd{Op: impl.OpCompare, Id: 4, Vals: []int{10, 3}}, []int{3, 11, 12, 13, 14, 15, 16, 17}, impl.Ans{Id: 4}},
		{impl.Cmd{Op: impl.OpCompare, Id: 4, Lba: 7, Vals: []int{17, 0}}, []int{10, 11, 12, 13, 14, 15, 16, 0}, impl.Ans{Id: 4}},
		{impl.Cmd{Op: impl.OpCompare, Id: 4, Lba: 3, N: 6, Vals: []int{13, 65535}}, []int{10, 11, 12, 65535, 14, 15, 16, 17}, impl.Ans{Id: 4}},
		{impl.Cmd{Op: impl.OpCompare, Id: 4, Lba: 3, Vals: []int{13, 13}}, was, impl.Ans{Id: 4}},
		{impl.Cmd{Op: impl.OpCompare, Id: 4, Lba: 3, Vals: []int{14, 3}}, was, impl.Ans{Id: 4, Code: impl.CoMiss}},
		{impl.Cmd{Op: impl.OpCompare, Id: 4, Lba: 3, Vals: []int{12, 3}}, was, impl.Ans{Id: 4, Code: impl.CoMiss}},
		// It is what it is to be already, but was to be another one.
		{impl.Cmd{Op: impl.OpCompare, Id: 4, Lba: 3, Vals: []int{12, 13}}, was, impl.Ans{Id: 4, Code: impl.CoMiss}},
		{impl.Cmd{Op: impl.OpCompare, Id: 4, Lba: 7, Vals: []int{10, 17}}, was, impl.Ans{Id: 4, Code: impl.CoMiss}},
		{impl.Cmd{Op: impl.OpCompare, Id: 4, Lba: 8, Vals: []int{10, 17}}, was, impl.Ans{Id: 4, Code: impl.CoRange}},
		{impl.Cmd{Op: impl.OpCompare, Id: 4, Lba: 3, Vals: []int{13}}, was, impl.Ans{Id: 4, Code: impl.CoSize}},
		{impl.Cmd{Op: impl.OpCompare, Id: 4, Lba: 3, Vals: []int{13, -1}}, was, impl.Ans{Id: 4, Code: impl.CoSize}},
		{impl.Cmd{Op: impl.OpWrite, Id: 6, Lba: 3, Vals: []int{1, 65536}}, was, impl.Ans{Id: 6, Code: impl.CoSize}},
		{impl.Cmd{Op: impl.OpWrite, Id: 6, Lba: 7, Vals: six[:2]}, was, impl.Ans{Id: 6, Code: impl.CoRange}},
		{impl.Cmd{Op: impl.OpFua, Id: 6, Lba: -1, Vals: six[:2]}, was, impl.Ans{Id: 6, Code: impl.CoRange}},
		{impl.Cmd{Op: impl.OpZero, Id: 6, Lba: 6, N: 3}, was, impl.Ans{Id: 6, Code: impl.CoRange}},
		{impl.Cmd{Op: impl.OpRead, Id: 6, Lba: 6, N: 3}, was, impl.Ans{Id: 6, Code: impl.CoRange}},
		{impl.Cmd{Op: impl.OpRead, Id: 6, Lba: 6, N: 7}, was, impl.Ans{Id: 6, Code: impl.CoSize}},
		{impl.Cmd{Op: impl.OpRead, Id: 1000, Lba: 6, N: 7}, was, impl.Ans{Id: 1000, Code: impl.CoForm}},
		{impl.Cmd{Op: impl.OpFlush, Id: -3}, was, impl.Ans{Id: -3, Code: impl.CoForm}},
		{impl.Cmd{Op: 7, Id: 3, Lba: 1, N: 1, Vals: six[:1]}, was, impl.Ans{Id: 3, Code: impl.CoForm}},
		{impl.Cmd{}, was, impl.Ans{Code: impl.CoForm}},
	} {
		wantDoAs(t, fmt.Sprint(i), g, was, c.c, c.blocks, c.ans)
	}
}

// Of each Geo each right command, on blocks that are all different, all 0, and
// all the greatest.
func TestDoCmdOfRightCmds(t *testing.T) {
	t.Parallel()
	for _, g := range rightGeos() {
		for _, l := range [][]int{numbered(g), impl.Zeros(g), slices.Repeat([]int{65535}, blocksIn(g))} {
			for _, c := range append(rightCmds(g), comparesOn(l)...) {
				if code := wantDo(t, "right", g, l, c); code != impl.CoGood && code != impl.CoMiss {
					t.Fatal("the tests are wrong:", g, c, code)
				}
			}
		}
	}
}

// Words of another block stay: neither the one ahead nor the one behind turns.
func TestOnlyItsBlocksTurn(t *testing.T) {
	for _, g := range rightGeos() {
		l := numbered(g)
		for _, op := range []int{impl.OpWrite, impl.OpFua, impl.OpZero} {
			for n := 1; n <= min(impl.MaxRun, len(l)); n++ {
				for from := 0; from+n <= len(l); from++ {
					toBe := upTo(n)
					if op == impl.OpZero {
						toBe = make([]int, n)
					}
					blocks := slices.Concat(l[:from], toBe, l[from+n:])
					wantDoAs(t, "turned", g, l, cmdOf(op, 9, from, n), blocks, impl.Ans{Id: 9})
				}
			}
		}
	}
}

func TestReadHasItsBlocksAlone(t *testing.T) {
	for _, g := range rightGeos() {
		l := numbered(g)
		for n := 1; n <= min(impl.MaxRun, len(l)); n++ {
			for from := 0; from+n <= len(l); from++ {
				wantDoAs(t, "read", g, l, cmdOf(impl.OpRead, 9, from, n), l, impl.Ans{Id: 9, Vals: l[from : from+n]})
			}
		}
	}
}

func TestCompareAtEachPlace(t *testing.T) {
	for _, g := range rightGeos() {
		l := numbered(g)
		for b, w := range l {
			compare := func(there, toBe int) impl.Cmd {
				return impl.Cmd{Op: impl.OpCompare, Id: 9, Lba: b, Vals: []int{there, toBe}}
			}
			blocks := slices.Clone(l)
			blocks[b] = 7
			wantDoAs(t, "the first word", g, l, compare(w, 7), blocks, impl.Ans{Id: 9})
			wantDoAs(t, "both words", g, l, compare(w, w), l, impl.Ans{Id: 9})
			for name, there := range map[string]int{"one more": w + 1, "one less": w - 1, "0": 0, "the greatest": 65535, "of its low byte": w & 255, "what is to be": 7, "that of another": l[(b+1)%len(l)]} {
				wantDoAs(t, name, g, l, compare(there, 7), l, impl.Ans{Id: 9, Code: impl.CoMiss})
				wantDoAs(t, name+", the second already", g, l, compare(there, w), l, impl.Ans{Id: 9, Code: impl.CoMiss})
			}
		}
	}
}

// Each flaw of each Op, on blocks that each deed would turn.
func TestWhatIsRefusedTurnsNothing(t *testing.T) {
	t.Parallel()
	for _, g := range geosOfCmds() {
		codes := seen{}
		for _, c := range slices.Concat(cmdsAlmostRight(g), rightCmds(g), comparesOn(numbered(g))) {
			for _, l := range [][]int{numbered(g), slices.Repeat([]int{65535}, blocksIn(g))} {
				codes[[2]int{c.Op, wantDo(t, "refused", g, l, c)}]++
			}
		}
		codes.wantOfEach(t, 2)
	}
}

// A compare that is refused is not looked at: neither where its first word is
// there, nor where its block is not.
func TestRefusedCompares(t *testing.T) {
	g := impl.Geo{N: 4, S: 3}
	for _, l := range [][]int{numbered(g), slices.Repeat([]int{5}, blocksIn(g))} {
		for b, w := range l {
			for _, vals := range [][]int{{}, {w}, {w, 1, 1}, {w, -1}, {w, 65536}, {w + 65536, 1}, {w - 65536, 1}} {
				c := impl.Cmd{Op: impl.OpCompare, Id: 3, Lba: b, Vals: vals}
				wantDoAs(t, "size", g, l, c, l, impl.Ans{Id: 3, Code: impl.CoSize})
			}
			for _, lba := range []int{b - len(l), b + len(l), b + 1<<32, b + math.MinInt, math.MaxInt - b} {
				c := impl.Cmd{Op: impl.OpCompare, Id: 3, Lba: lba, Vals: []int{w, 1}}
				wantDoAs(t, "range", g, l, c, l, impl.Ans{Id: 3, Code: impl.CoRange})
			}
			c := impl.Cmd{Op: impl.OpCompare, Id: 0, Lba: b, Vals: []int{w, 1}}
			wantDoAs(t, "form", g, l, c, l, impl.Ans{Code: impl.CoForm})
		}
	}
}

// What an Op does not name turns neither what it does nor what is answered.
func TestDoCmdPassesOverWhatIsNotNamed(t *testing.T) {
	t.Parallel()
	for _, g := range []impl.Geo{{N: 3, S: 1}, {N: 4, S: 3}} {
		l := numbered(g)
		for _, c := range slices.Concat(rightCmds(g), comparesOn(l), cmdsAlmostRight(g)) {
			blocks, ans := wantDone(g, l, c)
			for _, x := range otherwiseUnnamed(c) {
				if y, a := impl.DoCmd(g, l, x); !slices.Equal(y, blocks) || !alike(a, ans) {
					t.Fatal(g, c, x, y, a, "not", blocks, ans)
				}
			}
		}
	}
}

// cmdsForLengths answers commands of each Op with each code that it has.
func cmdsForLengths(g impl.Geo) []impl.Cmd {
	l := []impl.Cmd{{}, {Op: 7, Id: 4, N: 1}, {Op: -1, Id: -1, Lba: -1, N: -1, Vals: []int{-1}}}
	for _, op := range allOps() {
		l = append(l, cmdOf(op, 7, 0, 1), cmdOf(op, 7, blocksIn(g)-1, 1), cmdOf(op, 7, 0, 2))
		l = append(l, cmdOf(op, 0, 0, 1), cmdOf(op, 1000, 0, 1), cmdOf(op, 7, 0, impl.MaxRun+1), cmdOf(op, 7, 0, 0))
		l = append(l, cmdOf(op, 7, -1, 1), cmdOf(op, 7, blocksIn(g), 1), cmdOf(op, 7, blocksIn(g)+1, 1), cmdOf(op, 7, math.MaxInt, 1))
	}
	return l
}

// Where there are not as many blocks that is told ahead of all else, and they
// are answered as they are.
func TestDoCmdOfOtherLengths(t *testing.T) {
	for _, g := range rightGeos() {
		right := numbered(g)
		for _, c := range append(cmdsForLengths(g), impl.Cmd{Op: impl.OpCompare, Id: 7, Vals: []int{right[0], 5}}) {
			for _, l := range append(otherLengths(right), make([]int, 1000), numbered(impl.Geo{N: 5, S: 8})[:min(31, len(right)+1)]) {
				if len(l) != len(right) {
					wantDoAs(t, "other length", g, l, c, l, impl.Ans{Id: c.Id, Code: impl.CoForm})
				}
			}
			// One that is behind the length is not counted.
			l := slices.Concat(right, []int{99})
			wantDoAs(t, "one less", g, l[:len(right)-1], c, l[:len(right)-1], impl.Ans{Id: c.Id, Code: impl.CoForm})
			wantDo(t, "as many", g, l[:len(right)], c)
		}
	}
}

// Without a Geo there is no block: also what has none is not as it is wanted.
func TestDoCmdOfWrongGeos(t *testing.T) {
	for _, wrong := range append(wrongGeos(), impl.Geo{}) {
		lists := [][]int{nil, {}, {5}, {5, 6}, upTo(8), upTo(32)}
		if within(wrong.N, 0, 9) && within(wrong.S, 0, 20) {
			lists = append(lists, make([]int, max(0, wrong.S*(wrong.N-1))))
		}
		for _, l := range lists {
			for _, op := range append(allOps(), 0, 7) {
				c := cmdOf(op, 7, 0, 1)
				wantDoAs(t, "no Geo", wrong, l, c, l, impl.Ans{Id: 7, Code: impl.CoForm})
			}
		}
	}
}

// Blocks may be no words: they are read and held against as they are, and stay
// unless a command turns them.
func TestBlocksThatAreNoWords(t *testing.T) {
	t.Parallel()
	for _, g := range geosOfCmds() {
		for _, n := range wrongWords() {
			l := slices.Repeat([]int{n}, blocksIn(g))
			for _, c := range rightCmds(g) {
				wantDo(t, "all of them", g, l, c)
			}
			for b := range l {
				low := n & 65535
				c := impl.Cmd{Op: impl.OpCompare, Id: 8, Lba: b, Vals: []int{low, 1}}
				wantDoAs(t, "as a word", g, l, c, l, impl.Ans{Id: 8, Code: impl.CoMiss})
				mixed := numbered(g)
				mixed[b] = n
				for _, c := range slices.Concat(rightCmds(g), comparesOn(numbered(g))) {
					if within(c.Lba, b-impl.MaxRun, b+1) {
						wantDo(t, "one of them", g, mixed, c)
					}
				}
			}
		}
	}
}

// anyBlocks answers a Geo and blocks, mostly as many as it has. Few words are
// drawn, so that what is held against them is often there.
func anyBlocks(next func(int) int) (impl.Geo, []int) {
	g := impl.Geo{N: fewestDisks + next(3), S: 1 + next(impl.MaxStripes)}
	blocks := blocksIn(g)
	switch next(20) {
	case 0:
		g = wrongGeos()[next(len(wrongGeos()))]
	case 1:
		blocks += 1 - 2*next(2)
	case 2:
		blocks = next(40)
	}
	l := make([]int, blocks)
	for b := range l {
		l[b] = next(3)
	}
	if blocks > 0 && next(8) == 0 {
		l[next(blocks)] = wrongWords()[next(len(wrongWords()))]
	}
	return g, l
}

// anyCmd answers one that is mostly right where there are so many blocks.
func anyCmd(blocks int, next func(int) int) impl.Cmd {
	ops := allOps()
	c := cmdOf(ops[next(len(ops))], 1+next(mostCmdId), next(blocks+1), 1+next(impl.MaxRun))
	if c.Op == impl.OpCompare || next(2) == 0 {
		for i := range c.Vals {
			c.Vals[i] = next(3)
		}
	}
	if next(6) > 0 {
		return c
	}
	numbers := append([]int{-1, 0, 1, 6, 7, 8, 999, 1000, 65535, 65536}, far()...)
	n := numbers[next(len(numbers))]
	switch next(6) {
	case 0:
		c.Op = n
	case 1:
		c.Id = n
	case 2:
		c.Lba = n
	case 3:
		c.N = n
	case 4:
		c.Vals = append(c.Vals, n)
	case 5:
		c.Vals = c.Vals[:len(c.Vals)/2]
	}
	return c
}

// A seen counts how often each code was told of each Op.
type seen map[[2]int]int

// wantOfEach asks that of each Op there are so many of each code that it has.
func (s seen) wantOfEach(t *testing.T, least int) {
	t.Helper()
	for _, op := range allOps() {
		codes := []int{impl.CoGood, impl.CoForm}
		if op != impl.OpFlush {
			codes = append(codes, impl.CoSize, impl.CoRange)
		}
		if op == impl.OpCompare {
			codes = append(codes, impl.CoMiss)
		}
		for _, code := range codes {
			if n := s[[2]int{op, code}]; n < least {
				t.Error("Op", op, "code", code, "only", n)
			}
		}
	}
}

// Whatever numbers there are, what is answered is what the document says.
func TestDoAnyCmd(t *testing.T) {
	t.Parallel()
	next, codes := drawn(701), seen{}
	for range 60000 {
		g, l := anyBlocks(next)
		c := anyCmd(len(l), next)
		codes[[2]int{c.Op, wantDo(t, "any", g, l, c)}]++
	}
	codes.wantOfEach(t, 100)
}
