package tests

import (
	"fmt"
	"math"
	"slices"
	"testing"

	"loop.example/g00398/impl"
)

const mostCmds = 400

// wantAllDone is what the document says of commands, one behind the other.
func wantAllDone(g impl.Geo, l []int, cmds []impl.Cmd) ([]int, []impl.Ans) {
	blocks, answers := slices.Clone(l), []impl.Ans{}
	for i, c := range cmds {
		if i < mostCmds {
			var ans impl.Ans
			blocks, ans = wantDone(g, blocks, c)
			answers = append(answers, ans)
		}
	}
	return blocks, answers
}

// wantDoAll asks what commands do on these blocks, with junk behind the lists
// or not, and that it is what DoCmd does of one behind the other.
func wantDoAll(t *testing.T, name string, g impl.Geo, l []int, cmds []impl.Cmd) ([]int, []impl.Ans) {
	t.Helper()
	blocks, answers := wantAllDone(g, l, cmds)
	wantDoAllAs(t, name, g, l, cmds, blocks, answers)
	return blocks, answers
}

func wantDoAllAs(t *testing.T, name string, g impl.Geo, l []int, cmds []impl.Cmd, blocks []int, answers []impl.Ans) {
	t.Helper()
	for _, room := range []bool{false, true} {
		on, asked := l, cmds
		if room {
			on, asked = roomy(l), roomy(cmds)
		}
		if x, a := impl.DoCmds(g, on, asked); !slices.Equal(x, blocks) || !alike(a, answers) {
			t.Error(name, g, l, cmds, "answered", x, a, "not", blocks, answers)
		}
	}
	one := slices.Clone(l)
	for i, c := range cmds[:min(len(cmds), mostCmds)] {
		var ans impl.Ans
		one, ans = impl.DoCmd(g, one, c)
		if i >= len(answers) || !alike(ans, answers[i]) {
			t.Fatal(name, g, l, cmds, "one by one, the", i, "is", ans)
		}
	}
	if !slices.Equal(one, blocks) {
		t.Error(name, g, l, cmds, "one by one", one, "not", blocks)
	}
}

// Without a command nothing is answered, and the blocks are as they are.
func TestNoCmdsAtAll(t *testing.T) {
	for _, g := range append(rightGeos(), wrongGeos()...) {
		for _, l := range [][]int{nil, {}, {5}, numbered(g), append(numbered(g), 1), {-1, 65536, math.MinInt}, make([]int, 500)} {
			wantDoAllAs(t, "nil", g, l, nil, l, nil)
			wantDoAllAs(t, "none", g, l, []impl.Cmd{}, l, nil)
			// What stands behind the length is none of them.
			wantDoAllAs(t, "cut", g, l, []impl.Cmd{cmdOf(impl.OpZero, 1, 0, 2)}[:0], l, nil)
		}
	}
}

func TestOneOfDoCmds(t *testing.T) {
	t.Parallel()
	for _, g := range geosOfCmds() {
		l := numbered(g)
		for _, c := range slices.Concat(rightCmds(g), comparesOn(l), cmdsAlmostRight(g)) {
			blocks, ans := wantDone(g, l, c)
			wantDoAllAs(t, "one", g, l, []impl.Cmd{c}, blocks, []impl.Ans{ans})
		}
	}
}

// Each works on what the ones ahead left, written out here.
func TestSeveralCmds(t *testing.T) {
	g := impl.Geo{N: 3, S: 2}
	blocks, answers := []int{8, 0, 0, 65535}, []impl.Ans{
		{Id: 1, Vals: []int{10, 11, 12, 13}},
		{Id: 2},
		{Id: 3, Vals: []int{10, 5, 6, 13}},
		{Id: 4, Code: impl.CoMiss},
		{Id: 5},
		{Id: 6, Code: impl.CoMiss},
		{Id: 7},
		{Id: 8, Vals: []int{10, 8, 6, 13}},
		{Id: 9, Code: impl.CoSize},
		{Id: 10, Code: impl.CoRange},
		{Id: 1000, Code: impl.CoForm},
		{Id: 11, Code: impl.CoForm},
		{Id: 12},
		{Id: 13, Vals: []int{0, 0}},
		{Id: 14},
		{Id: 15},
		{Id: 15},
		{Id: 15, Code: impl.CoMiss},
		{Id: 16, Vals: []int{8, 0}},
		{Id: 16, Vals: []int{65535}},
	}
	wantDoAllAs(t, "several", g, []int{10, 11, 12, 13}, []impl.Cmd{
		{Op: impl.OpRead, Id: 1, N: 4},
		{Op: impl.OpWrite, Id: 2, Lba: 1, Vals: []int{5, 6}},
		{Op: impl.OpRead, Id: 3, N: 4},
		{Op: impl.OpCompare, Id: 4, Lba: 1, Vals: []int{11, 7}},
		{Op: impl.OpCompare, Id: 5, Lba: 1, Vals: []int{5, 8}},
		{Op: impl.OpCompare, Id: 6, Lba: 1, Vals: []int{5, 8}},
		{Op: impl.OpFlush, Id: 7},
		{Op: impl.OpRead, Id: 8, N: 4},
		{Op: impl.OpFua, Id: 9, Lba: 0},
		{Op: impl.OpFua, Id: 10, Lba: 3, Vals: []int{1, 2}},
		{Op: impl.OpZero, Id: 1000, N: 4},
		{Op: 7, Id: 11, N: 4, Vals: []int{1}},
		{Op: impl.OpZero, Id: 12, Lba: 1, N: 2},
		{Op: impl.OpRead, Id: 13, Lba: 1, N: 2},
		{Op: impl.OpFua, Id: 14, Lba: 3, Vals: []int{65535}},
		{Op: impl.OpCompare, Id: 15, Vals: []int{10, 9}},
		{Op: impl.OpCompare, Id: 15, Vals: []int{9, 8}},
		{Op: impl.OpCompare, Id: 15, Vals: []int{9, 10}},
		{Op: impl.OpRead, Id: 16, N: 2},
		{Op: impl.OpRead, Id: 16, Lba: 3, N: 1},
	}, blocks, answers)
}

// Whatever is refused in the midst, what is read behind it is what was written
// ahead of it, and what is behind it is done all the same.
func TestRefusedAmongOthers(t *testing.T) {
	t.Parallel()
	for _, g := range geosOfCmds() {
		l := numbered(g)
		toBe := slices.Concat(upTo(2), l[2:])
		for _, c := range append(cmdsAlmostRight(g), impl.Cmd{Op: impl.OpCompare, Id: 6, Vals: []int{l[0], 1}}, impl.Cmd{Op: impl.OpCompare, Id: 6, Vals: []int{1, upTo(1)[0]}}) {
			_, refused := wantDone(g, toBe, c)
			if refused.Code == impl.CoGood {
				t.Fatal("the tests are wrong:", g, c)
			}
			blocks := slices.Concat([]int{0}, toBe[1:])
			wantDoAllAs(t, "refused", g, l, []impl.Cmd{cmdOf(impl.OpWrite, 5, 0, 2), c, cmdOf(impl.OpRead, 7, 0, 2), c, cmdOf(impl.OpZero, 8, 0, 1), c},
				blocks, []impl.Ans{{Id: 5}, refused, {Id: 7, Vals: toBe[:2]}, refused, {Id: 8}, refused})
		}
	}
}

// writesOver answers n commands, each of which turns one block, going round
// over these.
func writesOver(blocks, n int) []impl.Cmd {
	cmds := []impl.Cmd{}
	for i := range n {
		cmds = append(cmds, impl.Cmd{Op: []int{impl.OpWrite, impl.OpFua}[i%2], Id: 1 + i%mostCmdId, Lba: i % blocks, Vals: []int{1000 + i}})
	}
	return cmds
}

// The first 400 are done, and the ones behind turn nothing.
func TestManyCmds(t *testing.T) {
	for _, g := range []impl.Geo{{N: 3, S: 1}, {N: 4, S: 3}, {N: 5, S: 8}} {
		for _, n := range []int{1, 2, 3, 398, 399, 400, 401, 402, 500, 800, 801, 1000, 65536 + 3} {
			done, blocks, answers := min(n, 400), numbered(g), []impl.Ans{}
			for i := range done {
				blocks[i%len(blocks)] = 1000 + i
				answers = append(answers, impl.Ans{Id: 1 + i%mostCmdId})
			}
			cmds := writesOver(len(blocks), n)
			wantDoAllAs(t, fmt.Sprint(n), g, numbered(g), cmds, blocks, answers)
			// There are more, but behind the length.
			wantDoAllAs(t, fmt.Sprint(n, " cut"), g, numbered(g), writesOver(len(blocks), n+5)[:n], blocks, answers)
		}
	}
}

// The last that is done and the first that is not, of each Op.
func TestTheLastOfManyCmds(t *testing.T) {
	t.Parallel()
	g := impl.Geo{N: 4, S: 3}
	l := numbered(g)
	lasts := []impl.Cmd{{Op: impl.OpCompare, Id: 2, Lba: 8, Vals: []int{l[8], 5}}, {Op: impl.OpCompare, Id: 2, Lba: 8, Vals: []int{5, l[8]}}}
	for _, op := range allOps() {
		lasts = append(lasts, cmdOf(op, 2, 0, 1), cmdOf(op, 2, 3, 6), cmdOf(op, 2, 8, 1), cmdOf(op, 2, 8, 2))
	}
	for _, ahead := range []impl.Cmd{cmdOf(impl.OpRead, 1, 2, 3), cmdOf(impl.OpFlush, 1, 0, 0), {Op: impl.OpCompare, Id: 1, Vals: []int{5, 6}}, {Op: impl.OpWrite, Id: 1}, {Op: impl.OpZero, Id: 1, Lba: 9, N: 1}, {}} {
		for _, c := range lasts {
			for _, n := range []int{398, 399, 400, 401} {
				x, a := impl.DoCmds(g, l, append(slices.Repeat([]impl.Cmd{ahead}, n), c))
				_, first := wantDone(g, l, ahead)
				blocks, last := wantDone(g, l, c)
				answers := append(slices.Repeat([]impl.Ans{first}, n), last)[:min(n+1, 400)]
				if n >= 400 {
					blocks = l
				}
				if !slices.Equal(x, blocks) || !alike(a, answers) {
					t.Fatal(g, n, "times", ahead, "and", c, "answered", x, len(a), a[len(a)-1], "not", blocks, answers[len(answers)-1])
				}
			}
		}
	}
}

// Blocks that are not as many refuse each of the first 400.
func TestManyCmdsOfOtherLengths(t *testing.T) {
	for _, g := range append(geosOfCmds(), impl.Geo{}, impl.Geo{N: 6, S: 2}) {
		right := numbered(g)
		for _, l := range [][]int{nil, right[:max(0, len(right)-1)], append(right, 5), make([]int, 500)} {
			if len(l) == len(right) && len(right) > 0 {
				t.Fatal("the tests are wrong:", g)
			}
			for _, n := range []int{1, 2, 399, 400, 401, 1000} {
				answers := []impl.Ans{}
				for i := range min(n, 400) {
					answers = append(answers, impl.Ans{Id: 1 + i%mostCmdId, Code: impl.CoForm})
				}
				wantDoAllAs(t, fmt.Sprint(n), g, l, writesOver(2, n), l, answers)
			}
		}
	}
}

// Of each two commands the second works on what the first left.
func TestEachTwoCmds(t *testing.T) {
	t.Parallel()
	for _, g := range []impl.Geo{{N: 3, S: 1}, {N: 3, S: 2}} {
		l := numbered(g)
		all := slices.Concat(rightCmds(g), comparesOn(l), cmdsForLengths(g))
		for _, a := range all {
			for _, b := range all {
				cmds := []impl.Cmd{a, b}
				blocks, answers := wantAllDone(g, l, cmds)
				if x, ans := impl.DoCmds(g, l, cmds); !slices.Equal(x, blocks) || !alike(ans, answers) {
					t.Fatal(g, l, cmds, x, ans, "not", blocks, answers)
				}
			}
		}
	}
}

func TestAnyCmdsOneBehindTheOther(t *testing.T) {
	t.Parallel()
	next, codes := drawn(709), seen{}
	for i := range 3000 {
		g, l := anyBlocks(next)
		n := next(30)
		if i%60 == 0 {
			n = 390 + next(30)
		}
		cmds := []impl.Cmd{}
		for range n {
			cmds = append(cmds, anyCmd(len(l), next))
		}
		_, answers := wantDoAll(t, "any", g, l, cmds)
		for i, a := range answers {
			codes[[2]int{cmds[i].Op, a.Code}]++
		}
	}
	codes.wantOfEach(t, 100)
}

// What is read is what was last written there, or what was there at first.
func TestWhatIsReadWasWritten(t *testing.T) {
	t.Parallel()
	next := drawn(719)
	for _, g := range rightGeos() {
		l, cmds := numbered(g), []impl.Cmd{}
		for len(cmds) < mostCmds {
			c := anyCmd(len(l), next)
			if c.Op == impl.OpWrite || c.Op == impl.OpFua || c.Op == impl.OpRead {
				cmds = append(cmds, c)
			}
		}
		_, answers := impl.DoCmds(g, l, cmds)
		for i, a := range answers {
			for k, w := range a.Vals {
				if last := lastWritten(cmds[:i], answers, l, cmds[i].Lba+k); w != last {
					t.Fatal(g, cmds[:i+1], "the block", cmds[i].Lba+k, "is", w, "not", last)
				}
			}
		}
	}
}

// lastWritten goes back from the end over writes that were good.
func lastWritten(cmds []impl.Cmd, answers []impl.Ans, first []int, b int) int {
	for i := len(cmds) - 1; i >= 0; i-- {
		c := cmds[i]
		if answers[i].Code == impl.CoGood && hasVals(c.Op) && within(b-c.Lba, 0, len(c.Vals)-1) {
			return c.Vals[b-c.Lba]
		}
	}
	return first[b]
}

func TestModelHoldsApart(t *testing.T) {
	for _, g := range []impl.Geo{{N: 4, S: 3}, {N: 3, S: 1}, {N: 2, S: 3}} {
		for _, words := range [][]int{numbered(impl.Geo{N: 4, S: 3}), numbered(impl.Geo{N: 3, S: 1}), nil, {-1}} {
			for _, plainly := range append(cmdsToHoldApart(), comparesOn(numbered(impl.Geo{N: 4, S: 3}))...) {
				l, c := roomy(words), roomy(plainly)
				holdsApart(t, "DoCmd", []any{l, c}, func() []any {
					x, a := impl.DoCmd(g, l, c)
					y, b := impl.DoCmd(g, l, c)
					return []any{x, a, y, b}
				})
			}
		}
	}
	holdsApart(t, "Zeros", nil, func() []any {
		g := impl.Geo{N: 4, S: 3}
		return []any{impl.Zeros(g), impl.Zeros(g), impl.Zeros(impl.Geo{})}
	})
}

func TestManyCmdsHoldApart(t *testing.T) {
	g, all := impl.Geo{N: 4, S: 3}, cmdsToHoldApart()
	reads := slices.Repeat([]impl.Cmd{cmdOf(impl.OpRead, 1, 0, 6), cmdOf(impl.OpWrite, 1, 0, 2), cmdOf(impl.OpRead, 1, 0, 1)}, 3)
	for _, words := range [][]int{numbered(g), nil, {5}, make([]int, 40)} {
		for _, plainly := range [][]impl.Cmd{nil, {}, all, reads, comparesOn(numbered(g)), all[:1], writesOver(9, 401), slices.Repeat(reads, 50)} {
			l, cmds := roomy(words), roomy(plainly)
			holdsApart(t, "DoCmds", []any{l, cmds}, func() []any {
				x, a := impl.DoCmds(g, l, cmds)
				y, b := impl.DoCmds(g, l, cmds)
				return []any{x, a, y, b}
			})
		}
	}
}

// A command's words may be the blocks' own memory: it is read as it was handed
// in, whatever was turned meanwhile.
func TestWordsThatAreTheBlocks(t *testing.T) {
	g, l := impl.Geo{N: 4, S: 2}, []int{10, 11, 12, 13, 14, 15}
	cmds := []impl.Cmd{
		{Op: impl.OpWrite, Id: 1, Lba: 1, Vals: l[:5]},
		{Op: impl.OpFua, Id: 2, Lba: 0, Vals: l[1:3]},
		{Op: impl.OpCompare, Id: 3, Lba: 0, Vals: l[1:3]},
		{Op: impl.OpRead, Id: 4, N: 6},
	}
	x, a := impl.DoCmds(g, l, cmds)
	if want := []int{12, 12, 11, 12, 13, 14}; !slices.Equal(x, want) || !slices.Equal(a[3].Vals, want) {
		t.Error(x, a)
	}
	if y, _ := impl.DoCmd(g, l, cmds[0]); !slices.Equal(y, []int{10, 10, 11, 12, 13, 14}) {
		t.Error(y)
	}
	if !slices.Equal(l, []int{10, 11, 12, 13, 14, 15}) {
		t.Error("they turned", l)
	}
}

// What was answered turns nothing of what was handed in, and the other way
// round; a read keeps its words where the blocks turn behind it.
func TestAnswersTurnApart(t *testing.T) {
	g, l := impl.Geo{N: 3, S: 2}, []int{10, 11, 12, 13, 99}
	cmds := []impl.Cmd{cmdOf(impl.OpRead, 1, 0, 4), cmdOf(impl.OpRead, 2, 0, 4), cmdOf(impl.OpWrite, 3, 0, 4), cmdOf(impl.OpRead, 4, 0, 4)}
	x, a := impl.DoCmds(g, l[:4], cmds)
	_ = append(a[0].Vals, 7)
	_ = append(x, 7)
	a[0].Vals[0], x[1] = 7, 7
	if !slices.Equal(l, []int{10, 11, 12, 13, 99}) || !slices.Equal(a[1].Vals, l[:4]) || !slices.Equal(a[3].Vals, upTo(4)) || !slices.Equal(cmds[2].Vals, upTo(4)) {
		t.Error("it turned", l, a, cmds)
	}
	l[2], cmds[2].Vals[3] = 7, 7
	if x[2] != upTo(4)[2] || x[3] != upTo(4)[3] || a[1].Vals[2] != 12 {
		t.Error("it turned", x, a)
	}
	y, b := impl.DoCmd(g, l[:4], cmds[0])
	_ = append(y, 7)
	_ = append(b.Vals, 7)
	y[0], b.Vals[1] = 7, 7
	if !slices.Equal(l, []int{10, 11, 7, 13, 99}) || y[1] != 11 || b.Vals[0] != 10 {
		t.Error("it turned", l, y, b)
	}
}
