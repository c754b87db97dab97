package tests

import (
	"fmt"
	"math"
	"slices"
	"testing"

	"loop.example/g00398/impl"
)

const (
	mostOfARec  = 60000
	firstOfARec = 21322
	headOfARec  = 4
	fewestData  = 2
	mostData    = 4
)

// wantRecOk is what the document says of a Rec, reason by reason.
func wantRecOk(r impl.Rec) bool {
	if !within(r.Seq, 0, mostOfARec) || !within(r.Stripe, 0, impl.MaxStripes-1) || !within(len(r.Data), fewestData, mostData) {
		return false
	}
	for _, n := range r.Data {
		if !within(n, 0, 65535) {
			return false
		}
	}
	return true
}

func wantRecWords(r impl.Rec) []int {
	return slices.Concat([]int{firstOfARec, r.Seq, r.Stripe, len(r.Data)}, r.Data)
}

// rightDatas answers Data of each length, with each edge at each place.
func rightDatas() [][]int {
	l := [][]int{}
	for n := fewestData; n <= mostData; n++ {
		l = append(l, upTo(n), make([]int, n), slices.Repeat([]int{65535}, n), slices.Repeat([]int{firstOfARec}, n))
		for i := range n {
			for _, w := range []int{0, 1, 2, n, 255, 256, 60001, 65534, 65535} {
				data := upTo(n)
				data[i] = w
				l = append(l, data)
			}
		}
	}
	return l
}

func rightSeqs() []int {
	return []int{0, 1, 2, 3, 4, 5, 7, 8, 255, 256, 21322, 32767, 32768, mostOfARec - 4, mostOfARec - 1, mostOfARec}
}

// rightRecs answers each Data of each Stripe, with the edges of Seq.
func rightRecs() []impl.Rec {
	l, seqs := []impl.Rec{}, rightSeqs()
	for stripe := range impl.MaxStripes {
		for _, data := range rightDatas() {
			l = append(l, impl.Rec{Seq: seqs[len(l)%len(seqs)], Stripe: stripe, Data: data})
		}
		for _, seq := range seqs {
			l = append(l, impl.Rec{Seq: seq, Stripe: stripe, Data: upTo(3)})
		}
	}
	return l
}

// cornerRecs are right, with all fields small or all great.
func cornerRecs() []impl.Rec {
	return []impl.Rec{
		{Seq: 9, Stripe: 3, Data: []int{1, 2, 65535}},
		{Data: []int{0, 0}},
		{Data: make([]int, mostData)},
		{Seq: mostOfARec, Stripe: impl.MaxStripes - 1, Data: slices.Repeat([]int{65535}, fewestData)},
		{Seq: mostOfARec, Stripe: impl.MaxStripes - 1, Data: slices.Repeat([]int{65535}, mostData)},
		// Each count that is right stands where it could be taken for the count.
		{Seq: 2, Stripe: 2, Data: []int{2, 2}},
		{Seq: 3, Stripe: 3, Data: []int{3, 3, 3}},
		{Seq: 4, Stripe: 4, Data: []int{4, 4, 4, 4}},
	}
}

func wrongSeqs() []int { return []int{-1, -2, 60001, 60002, 65535, 65536} }

func wrongStripes() []int { return []int{-1, -2, impl.MaxStripes, impl.MaxStripes + 1, 60000, 65536} }

func wrongWords() []int { return append([]int{-1, -2, -65535, 65536, 65537}, far()...) }

// wrongRecs answers Recs that are not RecOk, each for one reason alone.
func wrongRecs() map[string]impl.Rec {
	l := map[string]impl.Rec{"the zero one": {}}
	for i, right := range cornerRecs() {
		for _, n := range append(wrongSeqs(), far()...) {
			l[fmt.Sprint(i, " Seq ", n)] = impl.Rec{Seq: n, Stripe: right.Stripe, Data: right.Data}
		}
		for _, n := range append(wrongStripes(), far()...) {
			l[fmt.Sprint(i, " Stripe ", n)] = impl.Rec{Seq: right.Seq, Stripe: n, Data: right.Data}
		}
		for _, n := range []int{0, 1, mostData + 1, mostData + 2, impl.MaxSec - headOfARec + 1, impl.MaxSec, impl.MaxSec + 1, 256 + fewestData, 1000} {
			l[fmt.Sprint(i, " words ", n)] = impl.Rec{Seq: right.Seq, Stripe: right.Stripe, Data: make([]int, n)}
		}
		for k := range right.Data {
			for _, n := range wrongWords() {
				data := slices.Clone(right.Data)
				data[k] = n
				l[fmt.Sprint(i, " word ", k, " ", n)] = impl.Rec{Seq: right.Seq, Stripe: right.Stripe, Data: data}
			}
		}
	}
	return l
}

func noRec(r impl.Rec, ok bool) bool { return r.Seq == 0 && r.Stripe == 0 && len(r.Data) == 0 && !ok }

func sameRec(a, b impl.Rec) bool {
	return a.Seq == b.Seq && a.Stripe == b.Stripe && slices.Equal(a.Data, b.Data)
}

func TestLimitOfSlots(t *testing.T) {
	if impl.Slots != 4 {
		t.Error(impl.Slots)
	}
}

func TestRecOk(t *testing.T) {
	for _, r := range append(rightRecs(), cornerRecs()...) {
		if !impl.RecOk(r) {
			t.Error("refused", r)
		}
		if !impl.RecOk(roomy(r)) {
			t.Error("what lies behind was read", r)
		}
	}
	for name, r := range wrongRecs() {
		if impl.RecOk(r) {
			t.Error("accepted:", name, r)
		}
		if impl.RecOk(roomy(r)) {
			t.Error("what lies behind was read:", name, r)
		}
	}
}

func TestRecOkAtEachEdge(t *testing.T) {
	two := []int{5, 6}
	for _, c := range []struct {
		r  impl.Rec
		ok bool
	}{
		{impl.Rec{Seq: 0, Data: two}, true},
		{impl.Rec{Seq: 60000, Data: two}, true},
		{impl.Rec{Seq: -1, Data: two}, false},
		{impl.Rec{Seq: 60001, Data: two}, false},
		{impl.Rec{Stripe: 0, Data: two}, true},
		{impl.Rec{Stripe: 7, Data: two}, true},
		{impl.Rec{Stripe: -1, Data: two}, false},
		{impl.Rec{Stripe: 8, Data: two}, false},
		{impl.Rec{Data: nil}, false},
		{impl.Rec{Data: []int{}}, false},
		{impl.Rec{Data: []int{1}}, false},
		{impl.Rec{Data: []int{1, 2}}, true},
		{impl.Rec{Data: []int{1, 2, 3}}, true},
		{impl.Rec{Data: []int{1, 2, 3, 4}}, true},
		{impl.Rec{Data: []int{1, 2, 3, 4, 5}}, false},
		{impl.Rec{Data: []int{0, 65535}}, true},
		{impl.Rec{Data: []int{65535, 0}}, true},
		{impl.Rec{Data: []int{-1, 65535}}, false},
		{impl.Rec{Data: []int{0, 65536}}, false},
		{impl.Rec{Data: []int{65536, 0}}, false},
		{impl.Rec{Data: []int{65535, -1}}, false},
		// What is right is cut off a list that is wrong, and the other way round.
		{impl.Rec{Data: []int{1, 2, 3, 4, 5}[:4]}, true},
		{impl.Rec{Data: []int{1, 2, -1}[:2]}, true},
		{impl.Rec{Data: []int{1, 2, 3}[:1]}, false},
		{impl.Rec{Data: []int{1, 2, 3}[:0]}, false},
	} {
		if impl.RecOk(c.r) != c.ok {
			t.Error(c.r, impl.RecOk(c.r))
		}
	}
}

func TestPutRec(t *testing.T) {
	for _, c := range []struct {
		r impl.Rec
		l []int
	}{
		{impl.Rec{Seq: 9, Stripe: 3, Data: []int{1, 2, 65535}}, []int{21322, 9, 3, 3, 1, 2, 65535}},
		{impl.Rec{Data: []int{0, 0}}, []int{21322, 0, 0, 2, 0, 0}},
		{impl.Rec{Seq: 60000, Stripe: 7, Data: []int{65535, 0, 65535, 1}}, []int{21322, 60000, 7, 4, 65535, 0, 65535, 1}},
	} {
		if l := impl.PutRec(c.r); !slices.Equal(l, c.l) {
			t.Error(c.r, l)
		}
	}
	for _, r := range append(rightRecs(), cornerRecs()...) {
		for _, x := range []impl.Rec{r, roomy(r)} {
			// It must fit into the sector that is its slot.
			if l := impl.PutRec(x); !slices.Equal(l, wantRecWords(r)) || !impl.SecOk(l) {
				t.Error(r, l)
			}
		}
	}
	for name, r := range wrongRecs() {
		for _, x := range []impl.Rec{r, roomy(r)} {
			if l := impl.PutRec(x); len(l) != 0 {
				t.Error(name, l)
			}
		}
	}
}

func TestRecComesBackOfItsWords(t *testing.T) {
	for _, r := range append(rightRecs(), cornerRecs()...) {
		if x, ok := impl.GetRec(impl.PutRec(r)); !ok || !sameRec(x, r) {
			t.Error(r, x, ok)
		}
		if x, ok := impl.GetRec(roomy(wantRecWords(r))); !ok || !sameRec(x, r) {
			t.Error("what lies behind was read", r, x, ok)
		}
	}
	// Field by field: no two of them alike, so that none is taken for another.
	x, ok := impl.GetRec([]int{21322, 11, 5, 4, 12, 13, 14, 15})
	if !ok || x.Seq != 11 || x.Stripe != 5 || !slices.Equal(x.Data, []int{12, 13, 14, 15}) {
		t.Error(x, ok)
	}
}

// Each number that is a Seq, and each that is a word.
func TestEverySeqAndWordComesBack(t *testing.T) {
	for n := -2; n <= 65538; n++ {
		r := impl.Rec{Seq: n, Stripe: 5, Data: []int{1, 2}}
		x, ok := impl.GetRec(wantRecWords(r))
		if right := within(n, 0, mostOfARec); ok != right || impl.RecOk(r) != right || right && !sameRec(x, r) || !right && !noRec(x, ok) {
			t.Fatal("Seq", n, x, ok)
		}
		r = impl.Rec{Seq: 4, Stripe: 5, Data: []int{1, 2, n}}
		x, ok = impl.GetRec(wantRecWords(r))
		if right := within(n, 0, 65535); ok != right || impl.RecOk(r) != right || right && !sameRec(x, r) || !right && !noRec(x, ok) {
			t.Fatal("word", n, x, ok)
		}
	}
}

// Through a disk, and through the bytes of its sector.
func TestRecComesBackOfItsSlot(t *testing.T) {
	m := impl.MemNew(2 + impl.Slots)
	for _, r := range rightRecs()[:60] {
		w, ok := impl.WriteSec(m, impl.SlotOf(r.Seq), impl.PutRec(r))
		if !ok {
			t.Fatal("refused", r)
		}
		m = impl.FlushMem(w)
		l, _ := impl.ReadSec(m, impl.SlotOf(r.Seq))
		if x, ok := impl.GetRec(l); !ok || !sameRec(x, r) {
			t.Error(r, x, ok)
		}
		l, _, _ = impl.GetSec(impl.PutSec(nil, l), 0)
		if x, ok := impl.GetRec(l); !ok || !sameRec(x, r) {
			t.Error("of its bytes", r, x, ok)
		}
	}
}

// brokenRecWords answers lists that are no words of a Rec, made of those of r:
// too few, too many, another first word, a count that is not that of the words
// behind it, each other one out of its range.
func brokenRecWords(r impl.Rec) [][]int {
	right := wantRecWords(r)
	l := append(otherLengths(right), make([]int, len(right)), upTo(len(right)))
	l = append(l, slices.Concat(right, []int{len(r.Data)}), []int{firstOfARec, 1, 1})
	l = append(l, changedAt(right, 0, 0, 1, 21321, 21323, firstOfASuper, 19027, -21322, 65535, firstOfARec+65536)...)
	l = append(l, changedAt(right, 1, wrongSeqs()...)...)
	l = append(l, changedAt(right, 2, wrongStripes()...)...)
	for n := -3; n <= impl.MaxSec; n++ {
		if n != len(r.Data) {
			l = append(l, changedAt(right, 3, n)...)
		}
	}
	l = append(l, changedAt(right, 3, len(r.Data)+65536, -len(r.Data), len(right), 256+len(r.Data))...)
	for i := range r.Data {
		l = append(l, changedAt(right, headOfARec+i, wrongWords()...)...)
	}
	return l
}

func TestGetRecOfWrongWords(t *testing.T) {
	none := func(l []int) bool { return noRec(impl.GetRec(l)) }
	for _, r := range cornerRecs() {
		wantNone(t, brokenRecWords(r), wantRecWords(r), none)
		// A record is no Super.
		if !noSuper(impl.GetSuper(impl.PutRec(r))) {
			t.Error("a Super:", r)
		}
	}
	for name, r := range wrongRecs() {
		if !none(wantRecWords(r)) {
			t.Error("read:", name)
		}
	}
	for _, s := range cornerSupers() {
		if !none(impl.PutSuper(s)) {
			t.Error("a Super is read:", s)
		}
	}
}

// Each count with each number of words that are there.
func TestGetRecOfEachCount(t *testing.T) {
	for there := range 12 {
		for count := -2; count <= 12; count++ {
			l := append([]int{firstOfARec, 9, 3, count}, upTo(there)...)
			x, ok := impl.GetRec(l)
			if right := count == there && within(there, fewestData, mostData); ok != right || right && !slices.Equal(x.Data, upTo(there)) || !right && !noRec(x, ok) {
				t.Error(there, "there,", count, "said:", x, ok)
			}
		}
	}
}

// Whatever words are right, they are those of what they are read as.
func TestWordsComeBackOfTheirRec(t *testing.T) {
	next, read := drawn(13), 0
	for range 200000 {
		l := []int{firstOfARec + next(8)/7, next(60500), next(9), 1 + next(5)}
		for range l[3] + next(6)/5 - next(6)/5 {
			l = append(l, next(66000))
		}
		r, ok := impl.GetRec(l)
		want := impl.Rec{Seq: l[1], Stripe: l[2], Data: l[4:]}
		if right := l[0] == firstOfARec && l[3] == len(l)-4 && wantRecOk(want); ok != right || right && !sameRec(r, want) || !right && !noRec(r, ok) {
			t.Fatal(l, r, ok)
		}
		if ok {
			read++
			if !slices.Equal(impl.PutRec(r), l) {
				t.Fatal(l, impl.PutRec(r))
			}
		}
	}
	if read < 10000 {
		t.Error("few were right:", read)
	}
}

func TestSlotOf(t *testing.T) {
	for _, c := range []struct{ seq, slot int }{
		{0, 2}, {1, 3}, {2, 4}, {3, 5}, {4, 2}, {5, 3}, {7, 5}, {8, 2},
		{59999, 5}, {60000, 2}, {60001, 3}, {1 << 40, 2}, {1<<40 + 3, 5},
		{math.MaxInt - 3, 2}, {math.MaxInt - 1, 4}, {math.MaxInt, 5},
		{-1, -1}, {-2, -1}, {-3, -1}, {-4, -1}, {-5, -1}, {-8, -1}, {-60000, -1}, {math.MinInt + 1, -1}, {math.MinInt, -1},
	} {
		if slot := impl.SlotOf(c.seq); slot != c.slot {
			t.Error(c.seq, slot, "not", c.slot)
		}
	}
}

// Records that are nearer to each other than Slots have slots of their own,
// and the one Slots before has the same. All stand between the Supers and the
// stripes.
func TestSlotsGoRound(t *testing.T) {
	for seq := 0; seq <= mostOfARec; seq++ {
		slot := impl.SlotOf(seq)
		if !within(slot, 2, 2+impl.Slots-1) || slot >= impl.DataAt(0) {
			t.Fatal(seq, slot)
		}
		for near := 1; near < impl.Slots; near++ {
			if impl.SlotOf(seq+near) == slot {
				t.Fatal(seq, "and", seq+near, "have one slot")
			}
		}
		if elder := seq - impl.Slots; elder >= 0 && impl.SlotOf(elder) != slot {
			t.Fatal(elder, "and", seq, "have not one slot")
		}
	}
}

// Whatever was written before, each slot has the last of its records; what is
// read there tells by its number that it is an elder one, where it is.
func TestElderRecsInTheirSlots(t *testing.T) {
	m := impl.MemNew(2 + impl.Slots)
	for seq := range 40 {
		r := impl.Rec{Seq: seq, Stripe: seq % impl.MaxStripes, Data: []int{seq, 7}}
		w, ok := impl.WriteSec(m, impl.SlotOf(seq), impl.PutRec(r))
		if !ok {
			t.Fatal(seq)
		}
		// While it is only in the cache, a fall leaves the elder one there.
		l, _ := impl.ReadSec(impl.FallMem(w, 0), impl.SlotOf(seq))
		x, there := impl.GetRec(l)
		if elder := seq - impl.Slots; there != (elder >= 0) || there && x.Seq != elder || !there && !noRec(x, there) {
			t.Fatal(seq, "fell:", x, there)
		}
		m = impl.FlushMem(w)
		for near := 0; near < impl.Slots && near <= seq; near++ {
			l, _ := impl.ReadSec(m, impl.SlotOf(seq-near))
			if x, ok := impl.GetRec(l); !ok || x.Seq != seq-near || !slices.Equal(x.Data, []int{seq - near, 7}) {
				t.Fatal(seq, near, x, ok)
			}
		}
	}
}

func TestDataAt(t *testing.T) {
	for _, c := range []struct{ s, at int }{
		{0, 6}, {1, 7}, {7, 13}, {8, 14}, {1000, 1006},
		{1099511627775, 1099511627781}, {1099511627776, 1099511627782},
		{1099511627777, -1}, {1099511627778, -1}, {1 << 41, -1}, {math.MaxInt - 6, -1}, {math.MaxInt - 1, -1}, {math.MaxInt, -1},
		{-1, -1}, {-2, -1}, {-6, -1}, {-7, -1}, {-1099511627776, -1}, {math.MinInt + 1, -1}, {math.MinInt, -1},
	} {
		if at := impl.DataAt(c.s); at != c.at {
			t.Error(c.s, at, "not", c.at)
		}
	}
	// No stripe stands where another does, or a record, or a Super.
	for s := range impl.MaxStripes {
		if impl.DataAt(s) != 2+impl.Slots+s || impl.DataAt(s) >= impl.MaxSecs {
			t.Error(s, impl.DataAt(s))
		}
	}
}

func TestRecsHoldApart(t *testing.T) {
	all := append(rightRecs(), cornerRecs()...)
	for _, r := range wrongRecs() {
		all = append(all, r)
	}
	for _, plainly := range all {
		r := roomy(plainly)
		holdsApart(t, "RecOk", []any{r}, func() []any { return []any{impl.RecOk(r)} })
		holdsApart(t, "PutRec", []any{r}, func() []any { return []any{impl.PutRec(r), impl.PutRec(r)} })
	}
	for _, r := range cornerRecs() {
		for _, words := range append(brokenRecWords(r), wantRecWords(r)) {
			l := roomy(words)
			holdsApart(t, "GetRec", []any{l}, func() []any {
				a, _ := impl.GetRec(l)
				b, _ := impl.GetRec(l)
				return []any{a, b}
			})
		}
	}
}

// What was read turns nothing of its words, and the other way round.
func TestRecsTurnApart(t *testing.T) {
	l := []int{firstOfARec, 9, 3, 2, 5, 6, 7}
	r, _ := impl.GetRec(l[:6])
	words := impl.PutRec(r)
	_ = append(r.Data, 99)
	r.Data[0] = 99
	_ = append(words, 98)
	words[4] = 98
	if !slices.Equal(l, []int{firstOfARec, 9, 3, 2, 5, 6, 7}) || !slices.Equal(r.Data, []int{99, 6}) {
		t.Error("it turned", l, r)
	}
	l[5] = 97
	if r.Data[1] != 6 || words[5] != 6 {
		t.Error("it turned", r, words)
	}
}
