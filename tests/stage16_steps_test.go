package tests

import (
	"fmt"
	"slices"
	"testing"

	"loop.example/g00398/impl"
)

// stripesOfCmd answers the stripes that its blocks are in, in order.
func stripesOfCmd(g impl.Geo, c impl.Cmd) []int {
	l, blocks := []int{}, blocksOfCmd(g, c)
	for s, disks := range laidOut(g) {
		for _, b := range disks {
			if b >= 0 && blocks>>b&1 == 1 && !slices.Contains(l, s) {
				l = append(l, s)
			}
		}
	}
	return l
}

// wantSteps is what the document says of how often a command is worked on.
func wantSteps(g impl.Geo, c impl.Cmd) int {
	if wantCmdCode(g, c) != impl.CoGood {
		return 0
	}
	switch c.Op {
	case impl.OpRead, impl.OpZero:
		return c.N + 1
	case impl.OpWrite:
		return len(c.Vals) + 1
	case impl.OpFua:
		return len(c.Vals) + len(stripesOfCmd(g, c)) + 1
	case impl.OpCompare:
		return 2
	}
	return g.S + 1
}

func wantStepsOf(t *testing.T, name string, g impl.Geo, c impl.Cmd, steps int) {
	t.Helper()
	for _, x := range []impl.Cmd{c, roomy(c)} {
		if n := impl.StepsOf(g, x); n != steps {
			t.Error(name, g, x, "has", n, "not", steps)
		}
	}
	if n := wantSteps(g, c); n != steps {
		t.Error("the tests differ:", name, g, c, n, steps)
	}
}

func TestStepsOfEachOp(t *testing.T) {
	g := impl.Geo{N: 4, S: 3}
	for i, c := range []struct {
		op, lba, blocks, steps int
	}{
		{impl.OpRead, 0, 1, 2}, {impl.OpRead, 8, 1, 2}, {impl.OpRead, 0, 6, 7}, {impl.OpRead, 3, 6, 7}, {impl.OpRead, 2, 2, 3},
		{impl.OpWrite, 0, 1, 2}, {impl.OpWrite, 8, 1, 2}, {impl.OpWrite, 0, 6, 7}, {impl.OpWrite, 3, 6, 7}, {impl.OpWrite, 2, 2, 3},
		{impl.OpZero, 0, 1, 2}, {impl.OpZero, 8, 1, 2}, {impl.OpZero, 0, 6, 7}, {impl.OpZero, 3, 6, 7}, {impl.OpZero, 2, 2, 3},
		{impl.OpCompare, 0, 1, 2}, {impl.OpCompare, 8, 1, 2},
		// Of an OpFua the stripes count as well: three blocks are in one.
		{impl.OpFua, 0, 1, 3}, {impl.OpFua, 0, 2, 4}, {impl.OpFua, 0, 3, 5}, {impl.OpFua, 0, 4, 7}, {impl.OpFua, 0, 5, 8}, {impl.OpFua, 0, 6, 9},
		{impl.OpFua, 1, 1, 3}, {impl.OpFua, 1, 2, 4}, {impl.OpFua, 1, 3, 6}, {impl.OpFua, 1, 5, 8}, {impl.OpFua, 1, 6, 10},
		{impl.OpFua, 2, 1, 3}, {impl.OpFua, 2, 2, 5}, {impl.OpFua, 2, 4, 7}, {impl.OpFua, 2, 5, 9}, {impl.OpFua, 2, 6, 10},
		{impl.OpFua, 3, 3, 5}, {impl.OpFua, 3, 6, 9}, {impl.OpFua, 8, 1, 3}, {impl.OpFua, 5, 4, 7},
		{impl.OpFlush, 0, 0, 4},
	} {
		wantStepsOf(t, fmt.Sprint(i), g, cmdOf(c.op, 1, c.lba, c.blocks), c.steps)
	}
}

// An OpFua in one, two, three and four stripes, beginning at a stripe's first
// block, and behind it.
func TestStepsOfFua(t *testing.T) {
	came := map[int]int{}
	for _, c := range []struct {
		n, lba, blocks, stripes int
	}{
		{3, 0, 1, 1}, {3, 0, 2, 1}, {3, 0, 3, 2}, {3, 0, 4, 2}, {3, 0, 5, 3}, {3, 0, 6, 3},
		{3, 1, 1, 1}, {3, 1, 2, 2}, {3, 1, 3, 2}, {3, 1, 4, 3}, {3, 1, 5, 3}, {3, 1, 6, 4},
		{3, 10, 6, 3}, {3, 11, 5, 3}, {3, 12, 4, 2}, {3, 13, 3, 2}, {3, 14, 2, 1}, {3, 15, 1, 1},
		{4, 0, 3, 1}, {4, 0, 6, 2}, {4, 1, 2, 1}, {4, 1, 5, 2}, {4, 1, 6, 3}, {4, 2, 4, 2}, {4, 2, 5, 3}, {4, 2, 6, 3}, {4, 18, 6, 2},
		{5, 0, 4, 1}, {5, 0, 5, 2}, {5, 0, 6, 2}, {5, 1, 3, 1}, {5, 1, 4, 2}, {5, 1, 6, 2}, {5, 3, 1, 1}, {5, 3, 2, 2}, {5, 3, 5, 2}, {5, 3, 6, 3}, {5, 26, 6, 2}, {5, 28, 4, 1},
	} {
		g := impl.Geo{N: c.n, S: impl.MaxStripes}
		wantStepsOf(t, "an OpFua", g, cmdOf(impl.OpFua, 999, c.lba, c.blocks), c.blocks+c.stripes+1)
		came[c.stripes]++
	}
	if came[1] == 0 || came[2] == 0 || came[3] == 0 || came[4] == 0 {
		t.Error("the tests are wrong:", came)
	}
}

func TestStepsOfFlush(t *testing.T) {
	for _, g := range rightGeos() {
		wantStepsOf(t, "a flush", g, cmdOf(impl.OpFlush, 1, 0, 0), g.S+1)
		// What an OpFlush does not name is not looked at.
		wantStepsOf(t, "a flush", g, impl.Cmd{Op: impl.OpFlush, Id: 1, Lba: -1, N: 5, Vals: upTo(3)}, g.S+1)
	}
}

func TestStepsOfEachCmd(t *testing.T) {
	for _, g := range rightGeos() {
		for _, c := range rightCmds(g) {
			wantStepsOf(t, "right", g, c, wantSteps(g, c))
		}
	}
}

// What an Op does not name is not counted.
func TestStepsOfWhatIsNotNamed(t *testing.T) {
	g := impl.Geo{N: 4, S: 3}
	for i, c := range []struct {
		c     impl.Cmd
		steps int
	}{
		{impl.Cmd{Op: impl.OpRead, Id: 1, N: 2, Vals: upTo(5)}, 3},
		{impl.Cmd{Op: impl.OpZero, Id: 1, N: 2, Vals: make([]int, 40)}, 3},
		{impl.Cmd{Op: impl.OpWrite, Id: 1, N: 5, Vals: upTo(2)}, 3},
		{impl.Cmd{Op: impl.OpFua, Id: 1, N: 5, Vals: upTo(2)}, 4},
		{impl.Cmd{Op: impl.OpFua, Id: 1, N: -1, Lba: 2, Vals: upTo(2)}, 5},
		{impl.Cmd{Op: impl.OpCompare, Id: 1, N: 5, Vals: upTo(2)}, 2},
	} {
		wantStepsOf(t, fmt.Sprint(i), g, c.c, c.steps)
	}
}

// Of each code that CmdCode refuses with, however it is come by: 0.
func TestStepsOfWhatIsRefused(t *testing.T) {
	for _, g := range geosOfCmds() {
		for _, c := range slices.Concat(cmdsAlmostRight(g), wrongCmds()) {
			if wantCmdCode(g, c) != impl.CoGood {
				wantStepsOf(t, "refused", g, c, 0)
			}
		}
	}
	g, codes := impl.Geo{N: 4, S: 3}, map[int]int{}
	for _, op := range allOps() {
		for _, f := range slices.Concat(formFlaws(), opFlaws(), sizeFlaws(op), rangeFlaws(g, op, 2)) {
			on, c := g, cmdOf(op, 7, 2, 2)
			f.do(&on, &c)
			if code := wantCmdCode(on, c); code != impl.CoGood {
				wantStepsOf(t, f.name, on, c, 0)
				codes[code]++
			}
		}
	}
	for _, code := range []int{impl.CoForm, impl.CoSize, impl.CoRange} {
		if codes[code] < 50 {
			t.Error("the code", code, "seldom came:", codes)
		}
	}
}

func TestStepsOfNoGeo(t *testing.T) {
	for _, g := range append(wrongGeos(), impl.Geo{}) {
		for _, c := range slices.Concat(rightCmds(impl.Geo{N: 3, S: 2}), cornerCmds()) {
			wantStepsOf(t, "no Geo", g, c, 0)
		}
	}
}

// No command has more than EngOk bears of a Job's At.
func TestStepsAreFew(t *testing.T) {
	most := 0
	for _, g := range rightGeos() {
		for _, c := range rightCmds(g) {
			most = max(most, impl.StepsOf(g, c))
		}
	}
	if most != 11 {
		t.Error("most steps:", most)
	}
}

func TestStepsHoldApart(t *testing.T) {
	for _, plainly := range cmdsToHoldApart() {
		c := roomy(plainly)
		holdsApart(t, "StepsOf", []any{c}, func() []any { return []any{impl.StepsOf(impl.Geo{N: 4, S: 3}, c)} })
	}
}
