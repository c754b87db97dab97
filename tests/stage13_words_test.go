package tests

import (
	"slices"
	"testing"

	"loop.example/g00398/impl"
)

const headOfACmd = 5

// wantPut is whether a command has words, by what the document says.
func wantPut(c impl.Cmd) bool {
	if !slices.Contains(allOps(), c.Op) || len(c.Vals) > impl.MaxRun {
		return false
	}
	for _, n := range append([]int{c.Id, c.Lba, c.N}, c.Vals...) {
		if !within(n, 0, 65535) {
			return false
		}
	}
	return true
}

func wantCmdWords(c impl.Cmd) []int {
	return slices.Concat([]int{c.Op, c.Id, c.Lba, c.N, len(c.Vals)}, c.Vals)
}

func noCmd(c impl.Cmd, ok bool) bool { return alike(c, impl.Cmd{}) && !ok }

// wantBack asks that a command comes back of its words, if it has some, and
// has none else.
func wantBack(t *testing.T, name string, c impl.Cmd) {
	t.Helper()
	for _, x := range []impl.Cmd{c, roomy(c)} {
		l := impl.PutCmd(x)
		if !wantPut(c) {
			if len(l) != 0 {
				t.Fatal(name, "put:", c, l)
			}
			continue
		}
		if !slices.Equal(l, wantCmdWords(c)) {
			t.Fatal(name, c, l)
		}
		for _, words := range [][]int{l, roomy(l)} {
			if back, ok := impl.GetCmd(words); !ok || !alike(back, c) {
				t.Fatal(name, c, back, ok)
			}
		}
	}
}

// cornerCmds have words: all fields small or all great, and each count where
// it could be taken for another.
func cornerCmds() []impl.Cmd {
	return []impl.Cmd{
		{Op: impl.OpWrite, Id: 2, Lba: 3, N: 4, Vals: []int{7, 8}},
		{Op: impl.OpRead},
		{Op: impl.OpZero},
		{Op: impl.OpRead, Vals: make([]int, impl.MaxRun)},
		{Op: impl.OpZero, Id: 65535, Lba: 65535, N: 65535},
		{Op: impl.OpZero, Id: 65535, Lba: 65535, N: 65535, Vals: slices.Repeat([]int{65535}, impl.MaxRun)},
		{Op: impl.OpFlush, Id: 1, Lba: 1, N: 1, Vals: []int{1}},
		{Op: impl.OpFua, Id: 3, Lba: 3, N: 3, Vals: []int{3, 3, 3}},
		{Op: impl.OpCompare, Id: 5, Lba: 5, N: 5, Vals: []int{5, 5, 5, 5, 5}},
	}
}

// wrongCmds have no words, each for one reason.
func wrongCmds() []impl.Cmd {
	l := []impl.Cmd{{}}
	for _, right := range cornerCmds() {
		for _, op := range append([]int{0, 7, -1, 8, 256 + right.Op, 65536 + right.Op, -right.Op}, far()...) {
			c := right
			c.Op = op
			l = append(l, c)
		}
		for _, n := range wrongWords() {
			for _, field := range cmdFields() {
				c := right
				*field.of(&c) = n
				l = append(l, c)
			}
			for at := range right.Vals {
				c := right
				c.Vals = slices.Clone(right.Vals)
				c.Vals[at] = n
				l = append(l, c)
			}
		}
		for _, n := range []int{impl.MaxRun + 1, impl.MaxRun + 2, impl.MaxSec, impl.MaxSec + 1, 256, 65536, 65537} {
			c := right
			c.Vals = make([]int, n)
			l = append(l, c)
		}
	}
	return l
}

type cmdField struct {
	name string
	of   func(*impl.Cmd) *int
}

// cmdFields stand in the order of their words, behind Op.
func cmdFields() []cmdField {
	return []cmdField{
		{"Id", func(c *impl.Cmd) *int { return &c.Id }},
		{"Lba", func(c *impl.Cmd) *int { return &c.Lba }},
		{"N", func(c *impl.Cmd) *int { return &c.N }},
	}
}

func TestPutCmd(t *testing.T) {
	for _, c := range []struct {
		c impl.Cmd
		l []int
	}{
		{impl.Cmd{Op: 2, Id: 2, Lba: 2, Vals: []int{7, 8}}, []int{2, 2, 2, 0, 2, 7, 8}},
		{impl.Cmd{Op: 1, Id: 11, Lba: 12, N: 13}, []int{1, 11, 12, 13, 0}},
		{impl.Cmd{Op: 6, Id: 11, Lba: 12, N: 13, Vals: []int{14}}, []int{6, 11, 12, 13, 1, 14}},
		{impl.Cmd{Op: 4}, []int{4, 0, 0, 0, 0}},
		{impl.Cmd{Op: 5, Id: 999, Vals: []int{65535, 0}}, []int{5, 999, 0, 0, 2, 65535, 0}},
		{impl.Cmd{Op: 3, Id: 1, Vals: []int{1, 2, 3, 4, 5, 6}}, []int{3, 1, 0, 0, 6, 1, 2, 3, 4, 5, 6}},
		{impl.Cmd{Op: 3, Id: 1, Vals: []int{1, 2, 3, 4, 5, 6, 7}}, nil},
		{impl.Cmd{Op: 3, Id: 1, Vals: []int{1, 2, 3, 4, 5, 6, 7}[:6]}, []int{3, 1, 0, 0, 6, 1, 2, 3, 4, 5, 6}},
		{impl.Cmd{Op: 0, Id: 1}, nil},
		{impl.Cmd{Op: 7, Id: 1}, nil},
		{impl.Cmd{Op: -1, Id: 1}, nil},
		{impl.Cmd{Op: 1, Vals: []int{-1}}, nil},
		{impl.Cmd{Op: 4, Lba: -1}, nil},
		{impl.Cmd{Op: 2, N: 65536, Vals: []int{1}}, nil},
	} {
		if l := impl.PutCmd(c.c); !slices.Equal(l, c.l) {
			t.Error(c.c, l)
		}
	}
}

func TestPutCmdAtEachEdge(t *testing.T) {
	for _, op := range allOps() {
		for _, field := range cmdFields() {
			for n, right := range map[int]bool{-1: false, 0: true, 1: true, 65535: true, 65536: false} {
				c := impl.Cmd{Op: op, Id: 7, Lba: 8, N: 9, Vals: upTo(2)}
				*field.of(&c) = n
				if l := impl.PutCmd(c); (len(l) != 0) != right {
					t.Error(op, field.name, n, l)
				}
				wantBack(t, field.name, c)
			}
		}
	}
}

func TestCmdComesBackOfItsWords(t *testing.T) {
	for _, g := range rightGeos() {
		for _, c := range rightCmds(g) {
			wantBack(t, "right", c)
		}
	}
	for _, c := range slices.Concat(cornerCmds(), wrongCmds()) {
		wantBack(t, "corner", c)
	}
	for _, g := range geosOfCmds() {
		for _, c := range cmdsAlmostRight(g) {
			wantBack(t, "almost right", c)
		}
	}
	// Field by field: no two of them alike, so that none is taken for another.
	c, ok := impl.GetCmd([]int{5, 11, 12, 13, 3, 14, 15, 16})
	if !ok || c.Op != 5 || c.Id != 11 || c.Lba != 12 || c.N != 13 || !slices.Equal(c.Vals, []int{14, 15, 16}) {
		t.Error(c, ok)
	}
}

// PutCmd does not ask for CmdCode: any number of Vals up to MaxRun, whatever
// the Op.
func TestWordsOfWhatIsRefused(t *testing.T) {
	for _, op := range allOps() {
		for n := 0; n <= impl.MaxRun+1; n++ {
			for _, numbers := range [][3]int{{}, {0, 1, 2}, {1000, 40, 7}, {65535, 65535, 65535}} {
				c := impl.Cmd{Op: op, Id: numbers[0], Lba: numbers[1], N: numbers[2], Vals: upTo(n)}
				if l := impl.PutCmd(c); (len(l) != 0) != (n <= impl.MaxRun) {
					t.Error(c, l)
				}
				wantBack(t, "refused", c)
			}
		}
	}
}

// Each number that is a word, in each place that has one.
func TestEveryWordOfACmdComesBack(t *testing.T) {
	t.Parallel()
	for n := -2; n <= 65538; n++ {
		for at := 1; at < headOfACmd+3; at++ {
			l := []int{impl.OpFua, 11, 12, 13, 3, 14, 15, 16}
			l[at] = n
			c, ok := impl.GetCmd(l)
			right := within(n, 0, 65535)
			if at == headOfACmd-1 {
				right = n == 3
			}
			if want := (impl.Cmd{Op: l[0], Id: l[1], Lba: l[2], N: l[3], Vals: l[headOfACmd:]}); ok != right || right && !slices.Equal(wantCmdWords(c), wantCmdWords(want)) {
				t.Fatal(l, c, ok)
			}
			if !ok && !noCmd(c, ok) {
				t.Fatal(l, c)
			}
		}
	}
}

// The longest that is right has room in a sector.
func TestCmdComesBackOfASector(t *testing.T) {
	m := impl.MemNew(1)
	for _, c := range cornerCmds() {
		w, ok := impl.WriteSec(m, 0, impl.PutCmd(c))
		if !ok {
			t.Fatal("refused", c)
		}
		l, _ := impl.ReadSec(impl.FlushMem(w), 0)
		if back, ok := impl.GetCmd(l); !ok || !alike(back, c) {
			t.Error(c, back, ok)
		}
		l, _, _ = impl.GetSec(impl.PutSec(nil, l), 0)
		if back, ok := impl.GetCmd(l); !ok || !alike(back, c) {
			t.Error("of its bytes", c, back, ok)
		}
	}
}

// brokenCmdWords answers lists that are no words of a command, made of those
// of c: too few, too many, another Op, a count that is not that of the words
// behind it, each other one no word.
func brokenCmdWords(c impl.Cmd) [][]int {
	right := wantCmdWords(c)
	l := append(otherLengths(right), make([]int, len(right)))
	l = append(l, changedAt(right, 0, 0, 7, -1, 8, -right[0], 256+right[0], 65536+right[0], 65535)...)
	for at := 1; at < len(right); at++ {
		if at != headOfACmd-1 {
			l = append(l, changedAt(right, at, wrongWords()...)...)
		}
	}
	for n := -2; n <= impl.MaxSec; n++ {
		if n != len(c.Vals) {
			l = append(l, changedAt(right, headOfACmd-1, n)...)
		}
	}
	l = append(l, changedAt(right, headOfACmd-1, 65536+len(c.Vals), 256+len(c.Vals), len(right), -len(c.Vals)-1)...)
	for n := impl.MaxRun + 1; n <= impl.MaxRun+8; n++ {
		l = append(l, slices.Concat(right[:headOfACmd-1], []int{n}, make([]int, n)))
	}
	return l
}

func TestGetCmdOfWrongWords(t *testing.T) {
	none := func(l []int) bool { return noCmd(impl.GetCmd(l)) }
	for _, c := range cornerCmds() {
		broken := slices.DeleteFunc(brokenCmdWords(c), readable)
		wantNone(t, broken, wantCmdWords(c), none)
		// What follows it is not passed over.
		if !none(slices.Concat(impl.PutCmd(c), impl.PutCmd(c))) {
			t.Error("two are read as one:", c)
		}
	}
	for _, c := range wrongCmds() {
		if !none(wantCmdWords(c)) || !none(roomy(wantCmdWords(c))) {
			t.Error("read:", c)
		}
	}
	for _, l := range [][]int{nil, {}, {1}, {1, 1}, {1, 1, 0}, {1, 1, 0, 1}, {1, 1, 0, 1, 1}, {1, 1, 0, 1, -1}, {1, 1, 0, 1, 0, 0}, {2, 2, 2, 0, 3, 7, 8}, {7, 1, 1, 1, 0}, {0, 1, 1, 1, 0}, {1, 65536, 0, 1, 0}, {1, -1, 0, 1, 0}, {2, 1, 0, 0, 7, 1, 2, 3, 4, 5, 6, 7}} {
		if !none(l) {
			t.Error("read:", l)
		}
	}
	// What a disk knows, and a record, are no commands.
	for _, s := range cornerSupers() {
		if !none(impl.PutSuper(s)) {
			t.Error("a Super is read:", s)
		}
	}
	for _, r := range cornerRecs() {
		if !none(impl.PutRec(r)) {
			t.Error("a record is read:", r)
		}
	}
}

// readable is whether a list is the words of a command, by what the document
// says. Words of one that are put ahead of it may be another one's.
func readable(l []int) bool {
	if len(l) < headOfACmd || l[headOfACmd-1] != len(l)-headOfACmd {
		return false
	}
	return wantPut(impl.Cmd{Op: l[0], Id: l[1], Lba: l[2], N: l[3], Vals: l[headOfACmd:]})
}

// Each count with each number of words that are there, of each Op.
func TestGetCmdOfEachCount(t *testing.T) {
	for op := -1; op <= 8; op++ {
		for there := range 14 {
			for count := -2; count <= 14; count++ {
				l := append([]int{op, 9, 3, 4, count}, upTo(there)...)
				c, ok := impl.GetCmd(l)
				right := within(op, 1, 6) && count == there && there <= impl.MaxRun
				if ok != right || right && !alike(c, impl.Cmd{Op: op, Id: 9, Lba: 3, N: 4, Vals: upTo(there)}) || !right && !noCmd(c, ok) {
					t.Error(op, there, "there,", count, "said:", c, ok)
				}
			}
		}
	}
}

// Whatever words are right, they are those of what they are read as.
func TestWordsComeBackOfTheirCmd(t *testing.T) {
	t.Parallel()
	next, read := drawn(613), 0
	for range 200000 {
		l := []int{next(8), next(66000), next(66000), next(66000), next(8)}
		for range max(0, l[4]+next(6)/5-next(6)/5) {
			l = append(l, next(66000))
		}
		c, ok := impl.GetCmd(l)
		if right := readable(l); ok != right || !right && !noCmd(c, ok) {
			t.Fatal(l, c, ok)
		}
		if ok {
			read++
			if !slices.Equal(wantCmdWords(c), l) || !slices.Equal(impl.PutCmd(c), l) {
				t.Fatal(l, c, impl.PutCmd(c))
			}
		}
	}
	if read < 10000 {
		t.Error("few were right:", read)
	}
}

// What was read turns nothing of its words, and the other way round.
func TestCmdsTurnApart(t *testing.T) {
	l := []int{impl.OpWrite, 9, 3, 0, 2, 5, 6, 7}
	c, _ := impl.GetCmd(l[:7])
	words := impl.PutCmd(c)
	_ = append(c.Vals, 99)
	c.Vals[0] = 99
	_ = append(words, 98)
	words[5] = 98
	if !slices.Equal(l, []int{impl.OpWrite, 9, 3, 0, 2, 5, 6, 7}) || !slices.Equal(c.Vals, []int{99, 6}) {
		t.Error("it turned", l, c)
	}
	l[6] = 97
	if c.Vals[1] != 6 || words[6] != 6 {
		t.Error("it turned", c, words)
	}
}
