package tests

import (
	"fmt"
	"math"
	"slices"
	"testing"

	"loop.example/g00398/impl"
)

const mostCmdId = 999

func allOps() []int {
	return []int{impl.OpRead, impl.OpWrite, impl.OpFua, impl.OpFlush, impl.OpCompare, impl.OpZero}
}

func hasN(op int) bool { return op == impl.OpRead || op == impl.OpZero }

func hasVals(op int) bool {
	return op == impl.OpWrite || op == impl.OpFua || op == impl.OpCompare
}

// wantCmdCode is what the document says of a command, code by code. The blocks
// are counted one by one: no number can wrap round.
func wantCmdCode(g impl.Geo, c impl.Cmd) int {
	if !geoRight(g) || !slices.Contains(allOps(), c.Op) || !within(c.Id, 1, mostCmdId) {
		return impl.CoForm
	}
	blocks := 0
	switch c.Op {
	case impl.OpFlush:
		return impl.CoGood
	case impl.OpRead, impl.OpZero:
		if !within(c.N, 1, impl.MaxRun) {
			return impl.CoSize
		}
		blocks = c.N
	case impl.OpWrite, impl.OpFua:
		if len(c.Vals) == 0 || len(c.Vals) > impl.MaxRun {
			return impl.CoSize
		}
		blocks = len(c.Vals)
	case impl.OpCompare:
		if len(c.Vals) != 2 {
			return impl.CoSize
		}
		blocks = 1
	}
	if hasVals(c.Op) && slices.ContainsFunc(c.Vals, func(n int) bool { return !within(n, 0, 65535) }) {
		return impl.CoSize
	}
	there := 0
	for b := range g.S * (g.N - 1) {
		if b >= c.Lba && c.Lba >= 0 && there < blocks {
			there++
		}
	}
	if there < blocks {
		return impl.CoRange
	}
	return impl.CoGood
}

// blocksOfCmd answers which blocks a command has, a bit for each.
func blocksOfCmd(g impl.Geo, c impl.Cmd) uint64 {
	if wantCmdCode(g, c) != impl.CoGood {
		return 0
	}
	first, count := c.Lba, 1
	switch c.Op {
	case impl.OpFlush:
		first, count = 0, g.S*(g.N-1)
	case impl.OpRead, impl.OpZero:
		count = c.N
	case impl.OpWrite, impl.OpFua:
		count = len(c.Vals)
	}
	bits := uint64(0)
	for b := first; b < first+count; b++ {
		bits |= 1 << b
	}
	return bits
}

func wantSpan(g impl.Geo, c impl.Cmd) (int, int) {
	first, behind, blocks := 0, 0, blocksOfCmd(g, c)
	for b := 63; b >= 0; b-- {
		if blocks>>b&1 == 0 {
			continue
		}
		first = b
		if behind == 0 {
			behind = b + 1
		}
	}
	return first, behind
}

// cmdOf answers a command of this Op that has so many blocks (an OpCompare has
// one, an OpFlush all), which names nothing that is not of its Op.
func cmdOf(op, id, lba, blocks int) impl.Cmd {
	c := impl.Cmd{Op: op, Id: id, Lba: lba}
	switch op {
	case impl.OpRead, impl.OpZero:
		c.N = blocks
	case impl.OpWrite, impl.OpFua:
		c.Vals = upTo(blocks)
	case impl.OpCompare:
		c.Vals = upTo(2)
	case impl.OpFlush:
		c.Lba = 0
	}
	return c
}

// rightCmds answers for this Geo each Op at each place with each number of
// blocks that has room there.
func rightCmds(g impl.Geo) []impl.Cmd {
	l, ids := []impl.Cmd{}, []int{1, mostCmdId, 2, mostCmdId - 1, 256}
	for _, op := range allOps() {
		for lba := range g.S * (g.N - 1) {
			for n := 1; n <= impl.MaxRun && lba+n <= g.S*(g.N-1); n++ {
				if (op == impl.OpCompare && n > 1) || (op == impl.OpFlush && lba+n > 1) {
					continue
				}
				l = append(l, cmdOf(op, ids[len(l)%len(ids)], lba, n))
			}
		}
	}
	return l
}

// geosOfCmds are the least, the greatest, one of each number of disks, and one
// with less blocks than MaxRun.
func geosOfCmds() []impl.Geo {
	return []impl.Geo{{N: 3, S: 1}, {N: 3, S: 2}, {N: 4, S: 2}, {N: 4, S: 3}, {N: 5, S: 8}}
}

func wantCodeOf(t *testing.T, name string, g impl.Geo, c impl.Cmd, code int) {
	t.Helper()
	for _, x := range []impl.Cmd{c, roomy(c)} {
		if got := impl.CmdCode(g, x); got != code {
			t.Error(name, g, x, got, "not", code)
		}
	}
}

func TestKindsOfCommands(t *testing.T) {
	if !slices.Equal(allOps(), []int{1, 2, 3, 4, 5, 6}) || impl.MaxRun != 6 {
		t.Error(allOps(), impl.MaxRun)
	}
}

func TestCmdCodeOfRightCmds(t *testing.T) {
	for _, g := range rightGeos() {
		for _, c := range rightCmds(g) {
			wantCodeOf(t, "right", g, c, impl.CoGood)
		}
	}
}

func TestCmdCodeAtEachEdge(t *testing.T) {
	g, six := impl.Geo{N: 4, S: 3}, []int{1, 2, 3, 4, 5, 6}
	for i, c := range []struct {
		c    impl.Cmd
		code int
	}{
		{impl.Cmd{Op: 0, Id: 1, N: 1}, impl.CoForm},
		{impl.Cmd{Op: -1, Id: 1, N: 1}, impl.CoForm},
		{impl.Cmd{Op: 7, Id: 1, N: 1}, impl.CoForm},
		{impl.Cmd{Op: impl.OpFlush, Id: 0}, impl.CoForm},
		{impl.Cmd{Op: impl.OpFlush, Id: 1}, impl.CoGood},
		{impl.Cmd{Op: impl.OpFlush, Id: 999}, impl.CoGood},
		{impl.Cmd{Op: impl.OpFlush, Id: 1000}, impl.CoForm},
		{impl.Cmd{Op: impl.OpRead, Id: 1, N: 0}, impl.CoSize},
		{impl.Cmd{Op: impl.OpRead, Id: 1, N: 1}, impl.CoGood},
		{impl.Cmd{Op: impl.OpRead, Id: 1, N: 6}, impl.CoGood},
		{impl.Cmd{Op: impl.OpRead, Id: 1, N: 7}, impl.CoSize},
		{impl.Cmd{Op: impl.OpZero, Id: 1, N: 0}, impl.CoSize},
		{impl.Cmd{Op: impl.OpZero, Id: 1, N: 1}, impl.CoGood},
		{impl.Cmd{Op: impl.OpZero, Id: 1, N: 6}, impl.CoGood},
		{impl.Cmd{Op: impl.OpZero, Id: 1, N: 7}, impl.CoSize},
		{impl.Cmd{Op: impl.OpWrite, Id: 1, N: 1}, impl.CoSize},
		{impl.Cmd{Op: impl.OpWrite, Id: 1, Vals: six[:1]}, impl.CoGood},
		{impl.Cmd{Op: impl.OpWrite, Id: 1, Vals: six}, impl.CoGood},
		{impl.Cmd{Op: impl.OpWrite, Id: 1, Vals: make([]int, 7)}, impl.CoSize},
		{impl.Cmd{Op: impl.OpFua, Id: 1, N: 1}, impl.CoSize},
		{impl.Cmd{Op: impl.OpFua, Id: 1, Vals: six[:1]}, impl.CoGood},
		{impl.Cmd{Op: impl.OpFua, Id: 1, Vals: six}, impl.CoGood},
		{impl.Cmd{Op: impl.OpFua, Id: 1, Vals: make([]int, 7)}, impl.CoSize},
		{impl.Cmd{Op: impl.OpWrite, Id: 1, Vals: []int{0, 65535}}, impl.CoGood},
		{impl.Cmd{Op: impl.OpWrite, Id: 1, Vals: []int{65536, 1}}, impl.CoSize},
		{impl.Cmd{Op: impl.OpWrite, Id: 1, Vals: []int{1, -1}}, impl.CoSize},
		{impl.Cmd{Op: impl.OpCompare, Id: 1}, impl.CoSize},
		{impl.Cmd{Op: impl.OpCompare, Id: 1, Vals: six[:1]}, impl.CoSize},
		{impl.Cmd{Op: impl.OpCompare, Id: 1, Vals: six[:2]}, impl.CoGood},
		{impl.Cmd{Op: impl.OpCompare, Id: 1, Vals: six[:3]}, impl.CoSize},
		{impl.Cmd{Op: impl.OpCompare, Id: 1, Vals: []int{65535, 0}}, impl.CoGood},
		{impl.Cmd{Op: impl.OpCompare, Id: 1, Vals: []int{-1, 0}}, impl.CoSize},
		{impl.Cmd{Op: impl.OpCompare, Id: 1, Vals: []int{0, 65536}}, impl.CoSize},
		{impl.Cmd{Op: impl.OpRead, Id: 1, Lba: -1, N: 1}, impl.CoRange},
		{impl.Cmd{Op: impl.OpRead, Id: 1, Lba: 8, N: 1}, impl.CoGood},
		{impl.Cmd{Op: impl.OpRead, Id: 1, Lba: 9, N: 1}, impl.CoRange},
		{impl.Cmd{Op: impl.OpRead, Id: 1, Lba: 3, N: 6}, impl.CoGood},
		{impl.Cmd{Op: impl.OpRead, Id: 1, Lba: 4, N: 6}, impl.CoRange},
		{impl.Cmd{Op: impl.OpRead, Id: 1, Lba: math.MaxInt, N: 6}, impl.CoRange},
		{impl.Cmd{Op: impl.OpFua, Id: 1, Lba: 6, Vals: six[:3]}, impl.CoGood},
		{impl.Cmd{Op: impl.OpFua, Id: 1, Lba: 7, Vals: six[:3]}, impl.CoRange},
		// It has two words, but is of one block.
		{impl.Cmd{Op: impl.OpCompare, Id: 1, Lba: 8, Vals: six[:2]}, impl.CoGood},
		{impl.Cmd{Op: impl.OpCompare, Id: 1, Lba: 9, Vals: six[:2]}, impl.CoRange},
	} {
		wantCodeOf(t, fmt.Sprint(i), g, c.c, c.code)
	}
	// The word that is behind the length is none of the command's.
	for _, op := range []int{impl.OpWrite, impl.OpFua, impl.OpCompare} {
		wantCodeOf(t, "cut", g, impl.Cmd{Op: op, Id: 1, Vals: []int{1, 2, -1}[:2]}, impl.CoGood)
		wantCodeOf(t, "cut to none", g, impl.Cmd{Op: op, Id: 1, Vals: six[:0]}, impl.CoSize)
	}
}

// A flaw makes a right command wrong, with the code that tells of it, if no
// other one is told ahead of it.
type flaw struct {
	name string
	code int
	do   func(g *impl.Geo, c *impl.Cmd)
}

func noFlaw() flaw { return flaw{"none", impl.CoGood, func(*impl.Geo, *impl.Cmd) {}} }

func flawOfGeo(wrong impl.Geo) flaw {
	return flaw{fmt.Sprint("Geo ", wrong), impl.CoForm, func(g *impl.Geo, _ *impl.Cmd) { *g = wrong }}
}

func formFlaws() []flaw {
	l := []flaw{noFlaw()}
	for _, wrong := range []impl.Geo{{}, {N: 2, S: 2}, {N: 6, S: 2}, {N: 4, S: 0}, {N: 4, S: impl.MaxStripes + 1}, {N: 4, S: math.MaxInt}} {
		l = append(l, flawOfGeo(wrong))
	}
	for _, id := range append([]int{0, -1, -999, 1000, 1001, 65535, 65536, 65537}, far()...) {
		l = append(l, flaw{fmt.Sprint("Id ", id), impl.CoForm, func(_ *impl.Geo, c *impl.Cmd) { c.Id = id }})
	}
	return l
}

// opFlaws keep what the command has of N and Vals: an Op that is none has no
// size to be told.
func opFlaws() []flaw {
	l := []flaw{}
	for _, op := range append([]int{0, 7, -1, -2, 8, 256 + impl.OpRead, 65536 + impl.OpWrite}, far()...) {
		l = append(l, flaw{fmt.Sprint("Op ", op), impl.CoForm, func(_ *impl.Geo, c *impl.Cmd) { c.Op = op }})
	}
	return l
}

func flawOfN(n int) flaw {
	return flaw{fmt.Sprint("N ", n), impl.CoSize, func(_ *impl.Geo, c *impl.Cmd) { c.N = n }}
}

func flawOfVals(vals []int) flaw {
	return flaw{fmt.Sprint("Vals ", vals), impl.CoSize, func(_ *impl.Geo, c *impl.Cmd) { c.Vals = vals }}
}

func sizeFlaws(op int) []flaw {
	l := []flaw{noFlaw()}
	if hasN(op) {
		for _, n := range append([]int{0, -1, -impl.MaxRun, impl.MaxRun + 1, impl.MaxRun + 2, 256 + 1, 65536}, far()...) {
			l = append(l, flawOfN(n))
		}
	}
	if !hasVals(op) {
		return l
	}
	for _, n := range []int{0, 1, 3, impl.MaxRun, impl.MaxRun + 1, impl.MaxRun + 2, impl.MaxSec, impl.MaxSec + 1, 256 + 2} {
		if op == impl.OpCompare || !within(n, 1, impl.MaxRun) {
			l = append(l, flawOfVals(make([]int, n)))
		}
	}
	for _, n := range []int{1, 2, impl.MaxRun} {
		if op == impl.OpCompare && n != 2 {
			continue
		}
		for at := range n {
			for _, w := range wrongWords() {
				vals := upTo(n)
				vals[at] = w
				l = append(l, flawOfVals(vals))
			}
		}
	}
	return l
}

// rangeFlaws are of a command that has not more blocks than these.
func rangeFlaws(g impl.Geo, op, blocks int) []flaw {
	l := []flaw{noFlaw()}
	if op == impl.OpFlush {
		return l
	}
	all := g.S * (g.N - 1)
	for _, lba := range append([]int{-1, -2, -blocks, -all, all - blocks + 1, all, all + 1, 65535, 65536, math.MaxInt - blocks, math.MaxInt - blocks + 1}, far()...) {
		l = append(l, flaw{fmt.Sprint("Lba ", lba), impl.CoRange, func(_ *impl.Geo, c *impl.Cmd) { c.Lba = lba }})
	}
	return l
}

// wantFirstFlaw asks that of these flaws the code of the first that has one is
// told. A size that is wrong has no range to be told behind it.
func wantFirstFlaw(t *testing.T, g impl.Geo, c impl.Cmd, flaws ...flaw) {
	t.Helper()
	code := impl.CoGood
	for _, f := range flaws {
		f.do(&g, &c)
		if code == impl.CoGood {
			code = f.code
		}
	}
	if got := impl.CmdCode(g, c); got != code {
		t.Error(namesOf(flaws), g, c, got, "not", code)
	}
	if want := wantCmdCode(g, c); want != code {
		t.Error("the tests differ:", namesOf(flaws), g, c, want, code)
	}
}

func namesOf(flaws []flaw) []string {
	l := []string{}
	for _, f := range flaws {
		l = append(l, f.name)
	}
	return l
}

// Each flaw alone, and each two and three of them, at each Op.
func TestWhichCodeComesFirst(t *testing.T) {
	t.Parallel()
	g, forms := impl.Geo{N: 4, S: 2}, slices.Concat(formFlaws(), opFlaws())
	for _, op := range allOps() {
		for _, blocks := range []int{1, 2, impl.MaxRun} {
			c, named := cmdOf(op, 7, 0, blocks), blocks
			if op == impl.OpCompare {
				named = 1
			}
			places := rangeFlaws(g, op, named)
			for _, size := range sizeFlaws(op) {
				for _, place := range places {
					for _, form := range forms {
						wantFirstFlaw(t, g, c, form, size, place)
					}
				}
			}
		}
	}
}

func TestCmdCodeOfWrongGeos(t *testing.T) {
	for _, wrong := range append(wrongGeos(), impl.Geo{}) {
		for _, op := range allOps() {
			for _, c := range []impl.Cmd{cmdOf(op, 1, 0, 1), cmdOf(op, mostCmdId, 1, impl.MaxRun), cmdOf(op, 7, -1, 0)} {
				wantCodeOf(t, "no Geo", wrong, c, impl.CoForm)
			}
		}
	}
}

// A Geo that has less blocks than a command names, though no more than MaxRun.
func TestCmdCodeOfFewBlocks(t *testing.T) {
	for _, g := range geosOfCmds() {
		all := g.S * (g.N - 1)
		for _, op := range []int{impl.OpRead, impl.OpWrite, impl.OpFua, impl.OpZero} {
			for n := 1; n <= impl.MaxRun; n++ {
				for lba := -1; lba <= all+1; lba++ {
					code := impl.CoGood
					if lba < 0 || lba+n > all {
						code = impl.CoRange
					}
					wantCodeOf(t, "few", g, cmdOf(op, 1, lba, n), code)
				}
			}
		}
	}
}

// otherwiseUnnamed answers the command with other things in the fields that its
// Op does not name.
func otherwiseUnnamed(c impl.Cmd) []impl.Cmd {
	l := []impl.Cmd{}
	for _, n := range append([]int{-1, 0, 1, impl.MaxRun, impl.MaxRun + 1, 65535, 65536}, far()...) {
		x := c
		if !hasN(c.Op) {
			x.N = n
		}
		if c.Op == impl.OpFlush {
			x.Lba = n
		}
		l = append(l, x)
	}
	for _, vals := range [][]int{nil, {}, {1}, {-1}, {65536, 2}, make([]int, impl.MaxRun), make([]int, impl.MaxRun+1), make([]int, impl.MaxSec+1), make([]int, 300)} {
		x := c
		if !hasVals(c.Op) {
			x.Vals = vals
		}
		l = append(l, x)
	}
	return l
}

// What an Op does not name is not looked at: whatever stands there, the code,
// the span and what it clashes with are the same.
func TestWhatAnOpDoesNotName(t *testing.T) {
	for _, g := range geosOfCmds() {
		for _, c := range append(rightCmds(g), cmdsAlmostRight(g)...) {
			for _, x := range otherwiseUnnamed(c) {
				wantAsPlain(t, g, c, x)
			}
		}
	}
}

func wantAsPlain(t *testing.T, g impl.Geo, c, x impl.Cmd) {
	t.Helper()
	if a, b := impl.CmdCode(g, c), impl.CmdCode(g, x); a != b {
		t.Error(g, c, a, "but", x, b)
	}
	from, behind := impl.SpanOf(g, c)
	if a, b := impl.SpanOf(g, x); a != from || b != behind {
		t.Error(g, c, from, behind, "but", x, a, b)
	}
	if right := impl.CmdCode(g, c) == impl.CoGood; impl.Clash(g, c, x) != right || impl.Clash(g, x, c) != right {
		t.Error(g, c, "and", x, "are of the same blocks")
	}
}

func wantSpanOf(t *testing.T, name string, g impl.Geo, c impl.Cmd, first, behind int) {
	t.Helper()
	for _, x := range []impl.Cmd{c, roomy(c)} {
		if a, b := impl.SpanOf(g, x); a != first || b != behind {
			t.Error(name, g, x, a, b, "not", first, behind)
		}
	}
}

func TestSpanOf(t *testing.T) {
	for _, g := range rightGeos() {
		for _, c := range rightCmds(g) {
			first, behind := wantSpan(g, c)
			wantSpanOf(t, "right", g, c, first, behind)
		}
		wantSpanOf(t, "all", g, impl.Cmd{Op: impl.OpFlush, Id: 1}, 0, g.S*(g.N-1))
	}
	g := impl.Geo{N: 4, S: 3}
	for i, c := range []struct {
		c             impl.Cmd
		first, behind int
	}{
		{impl.Cmd{Op: impl.OpRead, Id: 1, Lba: 2, N: 5, Vals: []int{1}}, 2, 7},
		{impl.Cmd{Op: impl.OpWrite, Id: 1, Lba: 7, N: 1, Vals: []int{5, 6}}, 7, 9},
		{impl.Cmd{Op: impl.OpFua, Id: 1, Lba: 0, N: 6, Vals: []int{5, 6, 7}}, 0, 3},
		{impl.Cmd{Op: impl.OpFlush, Id: 1, Lba: 4, N: 2, Vals: []int{5}}, 0, 9},
		{impl.Cmd{Op: impl.OpFlush, Id: 1, Lba: -1, N: -1, Vals: []int{-1}}, 0, 9},
		{impl.Cmd{Op: impl.OpCompare, Id: 1, Lba: 8, N: 6, Vals: []int{5, 6}}, 8, 9},
		{impl.Cmd{Op: impl.OpZero, Id: 1, Lba: 3, N: 6, Vals: []int{1}}, 3, 9},
	} {
		wantSpanOf(t, fmt.Sprint(i), g, c.c, c.first, c.behind)
	}
}

// cmdsAlmostRight answers commands that are not CoGood, each for one reason.
func cmdsAlmostRight(g impl.Geo) []impl.Cmd {
	l, all := []impl.Cmd{{}}, g.S*(g.N-1)
	for _, op := range allOps() {
		right := cmdOf(op, 7, 0, 2)
		flaws := slices.Concat(formFlaws(), sizeFlaws(op), rangeFlaws(g, op, 1))
		for _, f := range append(flaws, opFlaws()...) {
			c, same := right, g
			f.do(&same, &c)
			if wantCmdCode(g, c) != impl.CoGood {
				l = append(l, c)
			}
		}
		// Part of it is there.
		for _, lba := range []int{-1, all - 1} {
			if c := cmdOf(op, 7, lba, 2); op != impl.OpFlush && wantCmdCode(g, c) != impl.CoGood {
				l = append(l, c)
			}
		}
	}
	return l
}

func TestSpanOfWhatIsNotGood(t *testing.T) {
	for _, g := range geosOfCmds() {
		for _, c := range cmdsAlmostRight(g) {
			wantSpanOf(t, "not good", g, c, 0, 0)
		}
	}
	for _, g := range append(wrongGeos(), impl.Geo{}) {
		for _, op := range allOps() {
			wantSpanOf(t, "no Geo", g, cmdOf(op, 7, 0, 1), 0, 0)
		}
	}
}

// wantClash asks of both ways round.
func wantClash(t *testing.T, name string, g impl.Geo, a, b impl.Cmd, clash bool) {
	t.Helper()
	if x, y := impl.Clash(g, a, b), impl.Clash(g, b, a); x != clash || y != clash {
		t.Error(name, g, a, b, x, y, "not", clash)
	}
}

func TestClash(t *testing.T) {
	g := impl.Geo{N: 4, S: 4}
	middle := cmdOf(impl.OpRead, 1, 4, 3)
	for _, op := range []int{impl.OpRead, impl.OpWrite, impl.OpFua, impl.OpZero} {
		for i, c := range []struct {
			lba, n int
			clash  bool
		}{
			{2, 2, false}, {3, 1, false}, {0, 4, false},
			{2, 3, true}, {0, 5, true}, {4, 1, true},
			{5, 1, true}, {4, 3, true}, {3, 5, true}, {2, 6, true},
			{6, 1, true}, {6, 2, true}, {6, 6, true},
			{7, 1, false}, {7, 5, false}, {11, 1, false},
		} {
			wantClash(t, fmt.Sprint(i), g, middle, cmdOf(op, 2, c.lba, c.n), c.clash)
		}
	}
	for lba := range 12 {
		compare := cmdOf(impl.OpCompare, 3, lba, 1)
		wantClash(t, "compare", g, middle, compare, within(lba, 4, 6))
		wantClash(t, "flush", g, cmdOf(impl.OpFlush, 1, 0, 0), compare, true)
		wantClash(t, "itself", g, compare, compare, true)
		wantClash(t, "the next", g, compare, cmdOf(impl.OpCompare, 3, lba+1, 1), false)
	}
	flush := cmdOf(impl.OpFlush, 1, 0, 0)
	wantClash(t, "flush and flush", g, flush, flush, true)
	wantClash(t, "flush elsewhere", g, impl.Cmd{Op: impl.OpFlush, Id: 1, Lba: 99}, cmdOf(impl.OpZero, 1, 0, 1), true)
}

// Of each Geo each two spans, each time with other Ops.
func TestClashOfEachTwoSpans(t *testing.T) {
	t.Parallel()
	for _, g := range rightGeos() {
		all := rightCmds(g)
		next, ends := drawn(601), spansApart(g, all)
		for _, a := range ends {
			for _, b := range ends {
				x, y := a[next(len(a))], b[next(len(b))]
				if clash := blocksOfCmd(g, x)&blocksOfCmd(g, y) != 0; impl.Clash(g, x, y) != clash {
					t.Fatal(g, x, y, "not", clash)
				}
			}
		}
		for _, c := range all {
			wantClash(t, "itself", g, c, c, true)
			wantClash(t, "with roomy", g, c, roomy(c), true)
			wantClash(t, "all", g, c, cmdOf(impl.OpFlush, 9, 0, 0), true)
		}
	}
}

// spansApart answers commands that have the same blocks in one list each.
func spansApart(g impl.Geo, all []impl.Cmd) [][]impl.Cmd {
	at, l := map[uint64]int{}, [][]impl.Cmd{}
	for _, c := range all {
		bits := blocksOfCmd(g, c)
		if _, there := at[bits]; !there {
			at[bits] = len(l)
			l = append(l, nil)
		}
		l[at[bits]] = append(l[at[bits]], c)
	}
	return l
}

// What is not good has no block in common with any, itself neither.
func TestClashOfWhatIsNotGood(t *testing.T) {
	for _, g := range geosOfCmds() {
		wrong := cmdsAlmostRight(g)
		for i, c := range wrong {
			wantClash(t, "itself", g, c, c, false)
			wantClash(t, "another", g, c, wrong[(i+1)%len(wrong)], false)
			for _, op := range allOps() {
				wantClash(t, "a right one", g, c, cmdOf(op, 7, 0, 1), false)
				wantClash(t, "the last", g, c, cmdOf(op, 7, g.S*(g.N-1)-1, 1), false)
			}
		}
	}
	for _, g := range append(wrongGeos(), impl.Geo{}) {
		for _, op := range allOps() {
			wantClash(t, "no Geo", g, cmdOf(op, 7, 0, 1), cmdOf(op, 7, 0, 1), false)
			wantClash(t, "no Geo", g, cmdOf(op, 7, 0, 1), cmdOf(impl.OpFlush, 7, 0, 1), false)
		}
	}
}

// Whatever numbers there are, each call answers as the document says.
func TestAnyCommands(t *testing.T) {
	t.Parallel()
	next := drawn(607)
	numbers := append([]int{-1, 0, 1, 2, 3, 4, 5, 6, 7, 8, 9, 31, 32, 998, 999, 1000, 65535, 65536}, far()...)
	anyNumber := func() int { return numbers[next(len(numbers))] }
	anyCmd := func() impl.Cmd {
		c := impl.Cmd{Op: next(8), Id: next(1002), Lba: next(34) - 1, N: next(9) - 1, Vals: upTo(next(9))}
		for _, field := range []*int{&c.Op, &c.Id, &c.Lba, &c.N} {
			if next(12) == 0 {
				*field = anyNumber()
			}
		}
		if len(c.Vals) > 0 && next(6) == 0 {
			c.Vals[next(len(c.Vals))] = anyNumber()
		}
		return c
	}
	seen := map[int]int{}
	for range 60000 {
		g, a, b := impl.Geo{N: 2 + next(5), S: next(10)}, anyCmd(), anyCmd()
		code := wantCmdCode(g, a)
		seen[code]++
		if got := impl.CmdCode(g, a); got != code {
			t.Fatal(g, a, got, "not", code)
		}
		first, behind := wantSpan(g, a)
		if x, y := impl.SpanOf(g, a); x != first || y != behind {
			t.Fatal(g, a, x, y, "not", first, behind)
		}
		if clash := blocksOfCmd(g, a)&blocksOfCmd(g, b) != 0; impl.Clash(g, a, b) != clash {
			t.Fatal(g, a, b, "not", clash)
		}
		wantBack(t, "any", a)
	}
	for _, code := range []int{impl.CoGood, impl.CoForm, impl.CoSize, impl.CoRange} {
		if seen[code] < 1000 {
			t.Error("few of the code", code, seen)
		}
	}
}

// cmdsToHoldApart answers right and wrong ones of each Op.
func cmdsToHoldApart() []impl.Cmd {
	g := impl.Geo{N: 4, S: 3}
	return slices.Concat(rightCmds(g), cmdsAlmostRight(g), cornerCmds(), wrongCmds())
}

func TestCommandsHoldApart(t *testing.T) {
	g := impl.Geo{N: 4, S: 3}
	for i, plainly := range cmdsToHoldApart() {
		c, other := roomy(plainly), roomy(cornerCmds()[i%len(cornerCmds())])
		holdsApart(t, "CmdCode", []any{c}, func() []any { return []any{impl.CmdCode(g, c)} })
		holdsApart(t, "SpanOf", []any{c}, func() []any { impl.SpanOf(g, c); return nil })
		holdsApart(t, "Clash", []any{c, other}, func() []any { return []any{impl.Clash(g, c, other), impl.Clash(g, other, c)} })
		holdsApart(t, "PutCmd", []any{c}, func() []any { return []any{impl.PutCmd(c), impl.PutCmd(c)} })
	}
	for _, c := range cornerCmds() {
		for _, words := range append(brokenCmdWords(c), wantCmdWords(c)) {
			l := roomy(words)
			holdsApart(t, "GetCmd", []any{l}, func() []any {
				a, _ := impl.GetCmd(l)
				b, _ := impl.GetCmd(l)
				return []any{a, b}
			})
		}
	}
}
