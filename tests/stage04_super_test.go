package tests

import (
	"fmt"
	"math"
	"slices"
	"testing"

	"loop.example/g00398/impl"
)

const (
	mostOfASuper  = 60000
	firstOfASuper = 21317
	arrayId       = 7
)

func within(n, low, high int) bool { return low <= n && n <= high }

// wantSuperOk is what the document says of a Super, reason by reason.
func wantSuperOk(s impl.Super) bool {
	if !within(s.Id, 1, mostOfASuper) || !within(s.Gen, 0, mostOfASuper) || !within(s.Tail, 0, mostOfASuper) {
		return false
	}
	if !within(s.N, fewestDisks, mostDisks) || !within(s.S, 1, impl.MaxStripes) {
		return false
	}
	if !within(s.Role, 0, s.N-1) || !within(s.Lost, -1, s.N-1) || !within(s.Built, 0, s.S) {
		return false
	}
	return s.Lost != -1 || s.Built == 0
}

func wantSuperWords(s impl.Super) []int {
	return []int{firstOfASuper, s.Id, s.Gen, s.Role, s.N, s.S, s.Tail, s.Lost + 1, s.Built}
}

// superOf answers a Super of the array 7 of which each field can be told by
// its Gen.
func superOf(gen int) impl.Super {
	return impl.Super{Id: arrayId, Gen: gen, Role: 1, N: 4, S: 6, Tail: gen / 3, Lost: 2, Built: gen % 7}
}

// numbersOf goes through the edges of Id, Gen and Tail, each behind others.
func numbersOf(i int) (id, gen, tail int) {
	ids := []int{1, mostOfASuper, arrayId, 2, mostOfASuper - 1}
	gens := []int{0, mostOfASuper, 1, 59990, 2, mostOfASuper - 1, 4}
	tails := []int{0, mostOfASuper, 9, mostOfASuper - 1}
	return ids[i%len(ids)], gens[i%len(gens)], tails[i%len(tails)]
}

// rightSupers answers each Role, Lost and Built of each Geo.
func rightSupers() []impl.Super {
	l := []impl.Super{}
	for _, g := range rightGeos() {
		for role := range g.N {
			for lost := -1; lost < g.N; lost++ {
				for built := 0; built <= g.S && (lost >= 0 || built == 0); built++ {
					id, gen, tail := numbersOf(len(l))
					l = append(l, impl.Super{Id: id, Gen: gen, Role: role, N: g.N, S: g.S, Tail: tail, Lost: lost, Built: built})
				}
			}
		}
	}
	return l
}

// far answers numbers that are none of a Super's, some of them only till they
// are cut to fewer bits, or have wrapped round.
func far() []int {
	return []int{-1 << 32, 1 << 32, 1<<32 + 1, 1<<16 + 7, math.MinInt, math.MinInt + 1, math.MaxInt, math.MaxInt - 1}
}

// A superField has the numbers that are wrong there, where the other fields
// are right.
type superField struct {
	name  string
	of    func(*impl.Super) *int
	wrong func(impl.Super) []int
}

// superFields stand in the order of their words.
func superFields() []superField {
	counts := func(impl.Super) []int { return []int{-1, -2, 60001, 60002, 65535, 65536} }
	return []superField{
		{"Id", func(s *impl.Super) *int { return &s.Id }, func(impl.Super) []int { return []int{0, -1, 60001, 60002, 65535, 65536} }},
		{"Gen", func(s *impl.Super) *int { return &s.Gen }, counts},
		{"Role", func(s *impl.Super) *int { return &s.Role }, func(s impl.Super) []int { return []int{-1, -2, s.N, s.N + 1, 60000} }},
		{"N", func(s *impl.Super) *int { return &s.N }, func(impl.Super) []int { return []int{2, 6, 1, 0, -1, -3, 60000} }},
		{"S", func(s *impl.Super) *int { return &s.S }, func(impl.Super) []int { return []int{0, 9, -1, -8, 10, 60000} }},
		{"Tail", func(s *impl.Super) *int { return &s.Tail }, counts},
		{"Lost", func(s *impl.Super) *int { return &s.Lost }, func(s impl.Super) []int { return []int{-2, -3, s.N, s.N + 1, 60000} }},
		{"Built", func(s *impl.Super) *int { return &s.Built }, func(s impl.Super) []int {
			if s.Lost == -1 {
				return []int{1, s.S, s.S + 1, -1, 60000}
			}
			return []int{-1, -2, s.S + 1, s.S + 2, 60000}
		}},
	}
}

// cornerSupers are right, with all fields small or all great, lost or not.
func cornerSupers() []impl.Super {
	return []impl.Super{
		superOf(5),
		{Id: 1, N: 3, S: 1, Lost: -1},
		{Id: 1, N: 3, S: 1, Lost: 0},
		{Id: 1, N: 5, S: 8, Lost: 0, Built: 8},
		{Id: mostOfASuper, Gen: mostOfASuper, Role: 4, N: 5, S: 8, Tail: mostOfASuper, Lost: 4, Built: 8},
		{Id: mostOfASuper, Gen: mostOfASuper - 1, Role: 2, N: 3, S: 8, Tail: mostOfASuper, Lost: -1},
	}
}

// wrongSupers answers Supers that are not SuperOk, each for one field.
func wrongSupers() map[string]impl.Super {
	l := map[string]impl.Super{"the zero one": {}}
	for i, right := range cornerSupers() {
		for _, f := range superFields() {
			for _, n := range append(f.wrong(right), far()...) {
				s := right
				*f.of(&s) = n
				l[fmt.Sprint(i, " ", f.name, " ", n)] = s
			}
		}
	}
	return l
}

func noSuper(s impl.Super, ok bool) bool { return s == impl.Super{} && !ok }

func TestSuperOk(t *testing.T) {
	for _, s := range rightSupers() {
		if !impl.SuperOk(s) {
			t.Error("refused", s)
		}
	}
	for name, s := range wrongSupers() {
		if impl.SuperOk(s) {
			t.Error("accepted:", name, s)
		}
	}
}

func TestSuperOkAtEachEdge(t *testing.T) {
	base := impl.Super{Id: 1, N: 4, S: 6, Lost: 2, Built: 3}
	bare := base
	bare.Lost, bare.Built = -1, 0
	for _, c := range []struct {
		name string
		from impl.Super
		at   func(*impl.Super) *int
		ok   []int
		not  []int
	}{
		{"Id", base, func(s *impl.Super) *int { return &s.Id }, []int{1, 60000}, []int{0, 60001}},
		{"Gen", base, func(s *impl.Super) *int { return &s.Gen }, []int{0, 60000}, []int{-1, 60001}},
		{"Role", base, func(s *impl.Super) *int { return &s.Role }, []int{0, 3}, []int{-1, 4}},
		{"N", base, func(s *impl.Super) *int { return &s.N }, []int{3, 5}, []int{2, 6}},
		{"S", bare, func(s *impl.Super) *int { return &s.S }, []int{1, 8}, []int{0, 9}},
		{"Tail", base, func(s *impl.Super) *int { return &s.Tail }, []int{0, 60000}, []int{-1, 60001}},
		{"Lost", base, func(s *impl.Super) *int { return &s.Lost }, []int{0, 3}, []int{-2, 4}},
		{"Lost, none built", bare, func(s *impl.Super) *int { return &s.Lost }, []int{-1, 0, 3}, []int{-2, 4}},
		{"Built", base, func(s *impl.Super) *int { return &s.Built }, []int{0, 6}, []int{-1, 7}},
		{"Built, none lost", bare, func(s *impl.Super) *int { return &s.Built }, []int{0}, []int{-1, 1, 6, 7}},
		{"none lost, some built", base, func(s *impl.Super) *int { return &s.Lost }, []int{1}, []int{-1}},
	} {
		for i, n := range slices.Concat(c.ok, c.not) {
			s := c.from
			*c.at(&s) = n
			if impl.SuperOk(s) != (i < len(c.ok)) {
				t.Error(c.name, n, impl.SuperOk(s))
			}
		}
	}
}

// Each edge with each other one of the small fields.
func TestSuperOkOfAllEdges(t *testing.T) {
	for n := fewestDisks - 1; n <= mostDisks+1; n++ {
		for s := 0; s <= impl.MaxStripes+1; s++ {
			for role := -1; role <= n; role++ {
				for lost := -2; lost <= n; lost++ {
					for built := -1; built <= s+1; built++ {
						x := impl.Super{Id: 1, Role: role, N: n, S: s, Lost: lost, Built: built}
						if impl.SuperOk(x) != wantSuperOk(x) {
							t.Error(x, impl.SuperOk(x))
						}
					}
				}
			}
		}
	}
}

func TestPutSuper(t *testing.T) {
	for _, c := range []struct {
		s impl.Super
		l []int
	}{
		{impl.Super{Id: 7, Gen: 4, Role: 1, N: 3, S: 2, Tail: 9, Lost: 2, Built: 1}, []int{21317, 7, 4, 1, 3, 2, 9, 3, 1}},
		{impl.Super{Id: 1, N: 3, S: 1, Lost: -1}, []int{21317, 1, 0, 0, 3, 1, 0, 0, 0}},
		{impl.Super{Id: 1, N: 3, S: 1}, []int{21317, 1, 0, 0, 3, 1, 0, 1, 0}},
		{impl.Super{Id: 60000, Gen: 60000, Role: 4, N: 5, S: 8, Tail: 60000, Lost: 4, Built: 8}, []int{21317, 60000, 60000, 4, 5, 8, 60000, 5, 8}},
	} {
		if l := impl.PutSuper(c.s); !slices.Equal(l, c.l) {
			t.Error(c.s, l)
		}
	}
	for _, s := range rightSupers() {
		if l := impl.PutSuper(s); !slices.Equal(l, wantSuperWords(s)) || !impl.SecOk(l) {
			t.Error(s, l)
		}
	}
	for name, s := range wrongSupers() {
		if l := impl.PutSuper(s); len(l) != 0 {
			t.Error(name, l)
		}
	}
}

func TestSuperComesBackOfItsWords(t *testing.T) {
	for _, s := range rightSupers() {
		if x, ok := impl.GetSuper(impl.PutSuper(s)); !ok || x != s {
			t.Error(s, x, ok)
		}
		if x, ok := impl.GetSuper(roomy(wantSuperWords(s))); !ok || x != s {
			t.Error("what lies behind was read", s, x, ok)
		}
	}
	// Field by field: no two of them alike, so that none is taken for another.
	x, ok := impl.GetSuper([]int{21317, 11, 12, 0, 4, 6, 13, 3, 5})
	if !ok || x.Id != 11 || x.Gen != 12 || x.Role != 0 || x.N != 4 || x.S != 6 || x.Tail != 13 || x.Lost != 2 || x.Built != 5 {
		t.Error(x, ok)
	}
}

// brokenWords answers lists that are no words of a Super, made of those of s:
// too few, too many, another first word, each other one out of its range.
func brokenWords(s impl.Super) [][]int {
	right := wantSuperWords(s)
	l := append(otherLengths(right), make([]int, len(right)), upTo(len(right)))
	l = append(l, changedAt(right, 0, 0, 1, 21316, 21318, 21322, 17747, -21317, 65535, firstOfASuper+65536)...)
	for i, f := range superFields() {
		wrong := f.wrong(s)
		if f.name == "Lost" {
			for k := range wrong {
				wrong[k]++
			}
		}
		l = append(l, changedAt(right, i+1, wrong...)...)
	}
	return l
}

func TestGetSuperOfWrongWords(t *testing.T) {
	none := func(l []int) bool { return noSuper(impl.GetSuper(l)) }
	for _, s := range cornerSupers() {
		wantNone(t, brokenWords(s), wantSuperWords(s), none)
	}
	for name, s := range wrongSupers() {
		if !none(wantSuperWords(s)) {
			t.Error("read:", name)
		}
	}
}

// Whatever words are right, they are those of what they are read as.
func TestWordsComeBackOfTheirSuper(t *testing.T) {
	next, read := drawn(11), 0
	for range 200000 {
		l := []int{firstOfASuper + next(8)/7, next(60100), next(60100), next(5), 2 + next(5), next(10), next(60100), next(7), next(9) * next(2)}
		s, ok := impl.GetSuper(l)
		want := impl.Super{Id: l[1], Gen: l[2], Role: l[3], N: l[4], S: l[5], Tail: l[6], Lost: l[7] - 1, Built: l[8]}
		if right := l[0] == firstOfASuper && wantSuperOk(want); ok != right || right && s != want || !right && !noSuper(s, ok) {
			t.Fatal(l, s, ok)
		}
		if ok {
			read++
			if !slices.Equal(impl.PutSuper(s), l) {
				t.Fatal(l, impl.PutSuper(s))
			}
		}
	}
	if read < 10000 {
		t.Error("few were right:", read)
	}
}

// A held sector is what stands in sector 0 or 1, and whether it counts there.
type held struct {
	name   string
	words  []int
	bad    bool
	s      impl.Super
	counts bool
}

// heldAt answers what may stand in this sector.
func heldAt(place int) []held {
	right := func(name string, s impl.Super) held {
		return held{name: name, words: wantSuperWords(s), s: s, counts: true}
	}
	here, there := superOf(10+place), superOf(11-place)
	another, none := here, here
	another.Id, none.Lost, none.Built = arrayId+1, -1, 0
	l := []held{
		right("one", here),
		right("one with nothing lost", none),
		right("the least", superOf(place)),
		right("the greatest", superOf(mostOfASuper-place)),
		right("another Role", impl.Super{Id: arrayId, Gen: 20 + place, Role: 2, N: 3, S: 1, Lost: -1}),
		{name: "nothing"},
		{name: "a block's word", words: []int{0}},
		{name: "a record", words: []int{21322, 4, 1, 3, 1, 2, 3}},
		{name: "one that is Bad", words: wantSuperWords(here), bad: true},
		{name: "a greater one that is Bad", words: wantSuperWords(superOf(50 + place)), bad: true},
		{name: "one of another array", words: wantSuperWords(another)},
		{name: "one of the other sector", words: wantSuperWords(there)},
		{name: "a greater one of the other sector", words: wantSuperWords(superOf(51 - place))},
	}
	for i, words := range brokenWords(superOf(52 + place)) {
		if impl.SecOk(words) {
			l = append(l, held{name: fmt.Sprint("broken ", i), words: words})
		}
	}
	return l
}

func wantBest(a, b held) (impl.Super, bool) {
	switch {
	case a.counts && (!b.counts || a.s.Gen > b.s.Gen):
		return a.s, true
	case b.counts:
		return b.s, true
	}
	return impl.Super{}, false
}

// laidDown answers disks with these two sectors: all of them in their place,
// or some only in the cache, above another one that does not count any more.
func laidDown(a, b held) []impl.Mem {
	under := []held{{words: wantSuperWords(superOf(58000))}, {words: wantSuperWords(superOf(58001))}}
	l := []impl.Mem{}
	for cached := range 4 {
		m := memOf(6, nil)
		for n, h := range []held{a, b} {
			m.Secs[n] = h.words
			if cached>>n&1 == 1 {
				m.Secs[n] = under[n].words
				m.Cache = append(m.Cache, impl.Wr{N: n, S: []int{4}}, impl.Wr{N: n, S: h.words}, impl.Wr{N: 5, S: []int{3}})
			}
			if h.bad {
				m.Bad = append(m.Bad, n)
			}
		}
		l = append(l, m)
	}
	return l
}

// The promise itself: of both the newer one that is right counts.
func TestBestSuper(t *testing.T) {
	for _, a := range heldAt(0) {
		for _, b := range heldAt(1) {
			want, there := wantBest(a, b)
			for i, m := range laidDown(a, b) {
				if s, ok := impl.BestSuper(m, arrayId); ok != there || s != want {
					t.Fatal(a.name, "and", b.name, i, s, ok)
				}
				if s, ok := impl.BestSuper(impl.FlushMem(m), arrayId); ok != there || s != want {
					t.Fatal("flushed:", a.name, "and", b.name, i, s, ok)
				}
			}
		}
	}
}

func TestBestSuperOfTwoArrays(t *testing.T) {
	a, b := superOf(8), superOf(9)
	b.Id = mostOfASuper
	m := memOf(2, nil)
	m.Secs[0], m.Secs[1] = wantSuperWords(a), wantSuperWords(b)
	for _, s := range []impl.Super{a, b} {
		if x, ok := impl.BestSuper(m, s.Id); !ok || x != s {
			t.Error(s.Id, x, ok)
		}
	}
	for _, id := range append(far(), 0, -1, -arrayId, 1, arrayId-1, arrayId+1, mostOfASuper-1, mostOfASuper+1, firstOfASuper, arrayId+65536) {
		if x, ok := impl.BestSuper(m, id); !noSuper(x, ok) {
			t.Error(id, x, ok)
		}
	}
}

// An id that no array has is not found, not even where the words have it.
func TestBestSuperOfNoId(t *testing.T) {
	for _, id := range []int{0, mostOfASuper + 1, 65535} {
		m := memOf(2, nil)
		for n := range 2 {
			s := superOf(n)
			s.Id = id
			m.Secs[n] = wantSuperWords(s)
		}
		if x, ok := impl.BestSuper(m, id); !impl.MemOk(m) || !noSuper(x, ok) {
			t.Error(id, x, ok)
		}
	}
	for _, id := range []int{1, mostOfASuper} {
		s := superOf(1)
		s.Id = id
		if x, ok := impl.BestSuper(impl.WriteSuper(impl.MemNew(2), s), id); !ok || x != s {
			t.Error(id, x, ok)
		}
	}
}

func TestBestSuperOfWrongDisks(t *testing.T) {
	both := memOf(6, nil)
	both.Secs[0], both.Secs[1] = wantSuperWords(superOf(4)), wantSuperWords(superOf(5))
	if x, ok := impl.BestSuper(failed(both), arrayId); !noSuper(x, ok) {
		t.Error("Failed", x, ok)
	}
	for name, m := range wrongMems() {
		// What is wrong with it stays: a sector that is not SecOk is left.
		m.Secs = slices.Clone(m.Secs)
		for n := range min(2, len(m.Secs)) {
			if impl.SecOk(m.Secs[n]) {
				m.Secs[n] = wantSuperWords(superOf(4 + n))
			}
		}
		if x, ok := impl.BestSuper(m, arrayId); !noSuper(x, ok) {
			t.Error(name, x, ok)
		}
	}
	// Of other sectors none counts.
	m := memOf(impl.MaxSecs, nil)
	for n := 2; n < impl.MaxSecs; n++ {
		m.Secs[n] = wantSuperWords(superOf(n))
	}
	if x, ok := impl.BestSuper(m, arrayId); !noSuper(x, ok) {
		t.Error("elsewhere", x, ok)
	}
}

func TestBestSuperOfOneSector(t *testing.T) {
	for gen, counts := range map[int]bool{0: true, 4: true, mostOfASuper: true, 1: false, 5: false, mostOfASuper - 1: false} {
		m := impl.Mem{Secs: [][]int{wantSuperWords(superOf(gen))}}
		x, ok := impl.BestSuper(m, arrayId)
		if ok != counts || counts && x != superOf(gen) || !counts && !noSuper(x, ok) {
			t.Error(gen, x, ok)
		}
	}
}

func TestWriteSuper(t *testing.T) {
	for _, m := range rightMems() {
		for _, s := range []impl.Super{superOf(0), superOf(1), superOf(4), superOf(5), superOf(mostOfASuper), superOf(mostOfASuper - 1)} {
			n := s.Gen % 2
			want := plain(m)
			taken := !m.Failed && n < len(m.Secs) && len(m.Cache) < mostWrs
			if taken {
				want.Cache = append(want.Cache, impl.Wr{N: n, S: wantSuperWords(s)})
				want.Bad = slices.DeleteFunc(want.Bad, func(b int) bool { return b == n })
			}
			x := impl.WriteSuper(m, s)
			if !alike(x, want) {
				t.Fatal(m, s, x)
			}
			if best, ok := impl.BestSuper(x, arrayId); ok != taken || taken && best != s {
				t.Fatal(m, s, best, ok)
			}
		}
		for name, s := range wrongSupers() {
			if x := impl.WriteSuper(m, s); !alike(x, m) {
				t.Fatal(m, name, x)
			}
		}
	}
	for name, m := range wrongMems() {
		for _, s := range []impl.Super{superOf(0), superOf(1), {}} {
			if x := impl.WriteSuper(m, s); !alike(x, m) {
				t.Error(name, s, x)
			}
		}
	}
}

func TestWriteSuperAtTheLimits(t *testing.T) {
	// One sector alone takes the even ones.
	if x := impl.WriteSuper(impl.MemNew(1), superOf(5)); !alike(x, impl.MemNew(1)) {
		t.Error("there is no sector 1", x)
	}
	if x, ok := impl.BestSuper(impl.WriteSuper(impl.MemNew(1), superOf(4)), arrayId); !ok || x != superOf(4) {
		t.Error("sector 0 alone", x, ok)
	}
	// The 60th is taken, one more is not.
	m := impl.WriteSuper(memOf(3, wrsOf(mostWrs-1, 3)), superOf(4))
	if len(m.Cache) != mostWrs {
		t.Fatal("the last is not taken", len(m.Cache))
	}
	x := impl.WriteSuper(m, superOf(5))
	if best, ok := impl.BestSuper(x, arrayId); !alike(x, m) || !ok || best != superOf(4) {
		t.Error("one more is taken", len(x.Cache), best, ok)
	}
}

// One behind the other is written: the newest counts, and while it is only in
// the cache the one ahead of it stands beside it.
func TestNewerCountsAndElderStays(t *testing.T) {
	m := impl.FlushMem(impl.WriteSuper(impl.MemNew(6), superOf(0)))
	for gen := 1; gen <= 40; gen++ {
		newer, elder := superOf(gen), superOf(gen-1)
		w := impl.WriteSuper(m, newer)
		if s, ok := impl.BestSuper(w, arrayId); !ok || s != newer || len(w.Cache) != 1 || w.Cache[0].N != gen%2 {
			t.Fatal(gen, "does not count", s, ok)
		}
		if s, ok := impl.GetSuper(w.Secs[(gen-1)%2]); !ok || s != elder {
			t.Fatal(gen, "the elder does not stand", s, ok)
		}
		if s, ok := impl.BestSuper(impl.FallMem(w, 0), arrayId); !ok || s != elder {
			t.Fatal(gen, "fell:", s, ok)
		}
		if s, ok := impl.BestSuper(impl.FallMem(w, 1), arrayId); !ok || s != newer {
			t.Fatal(gen, "fell, and was kept:", s, ok)
		}
		m = impl.FlushMem(w)
		if s, ok := impl.BestSuper(impl.FallMem(m, 0), arrayId); !ok || s != newer {
			t.Fatal(gen, "flushed, and fell:", s, ok)
		}
	}
}

// What makes a newer one gone, whichever sector it stands in: the elder counts
// again, and with neither there is none.
func TestElderCountsAgain(t *testing.T) {
	for gen := 4; gen <= 5; gen++ {
		newer, elder := superOf(gen), superOf(gen-1)
		at, other := gen%2, (gen-1)%2
		for _, flushed := range []bool{false, true} {
			m := impl.WriteSuper(impl.WriteSuper(impl.MemNew(6), elder), newer)
			if flushed {
				m = impl.FlushMem(m)
			}
			gone := map[string]impl.Mem{"Bad": impl.SpoilSec(m, at)}
			for i, l := range brokenWords(newer) {
				if x, ok := impl.WriteSec(m, at, l); ok {
					gone[fmt.Sprint("broken ", i)] = x
				}
			}
			for name, x := range gone {
				if s, ok := impl.BestSuper(x, arrayId); !ok || s != elder {
					t.Error(gen, flushed, name, s, ok)
				}
				if s, ok := impl.BestSuper(impl.SpoilSec(x, other), arrayId); !noSuper(s, ok) {
					t.Error(gen, flushed, name, "and the elder is Bad:", s, ok)
				}
			}
			// The elder gone, the newer one counts as ever.
			if s, ok := impl.BestSuper(impl.SpoilSec(m, other), arrayId); !ok || s != newer {
				t.Error(gen, flushed, s, ok)
			}
		}
	}
}

// What is written to a sector that is Bad can be read again.
func TestBadSuperIsWrittenAnew(t *testing.T) {
	m := impl.SpoilSec(impl.SpoilSec(impl.MemNew(6), 0), 1)
	for gen := 4; gen <= 6; gen++ {
		m = impl.WriteSuper(m, superOf(gen))
		if s, ok := impl.BestSuper(m, arrayId); !ok || s != superOf(gen) {
			t.Error(gen, s, ok)
		}
	}
	if len(m.Bad) != 0 {
		t.Error("still Bad", m.Bad)
	}
}

// The greater Gen counts, not what was written last.
func TestGreaterGenCountsNotTheLater(t *testing.T) {
	for _, c := range [][2]int{{0, 1}, {1, 2}, {8, 9}, {9, 10}, {4, 31}, {3, 40}, {0, mostOfASuper - 1}, {mostOfASuper - 1, mostOfASuper}, {1, mostOfASuper}} {
		less, more := superOf(c[0]), superOf(c[1])
		for _, order := range [][]impl.Super{{less, more}, {more, less}} {
			m := impl.WriteSuper(impl.WriteSuper(impl.MemNew(2), order[0]), order[1])
			for _, x := range []impl.Mem{m, impl.FlushMem(m), impl.FallMem(m, 3)} {
				if s, ok := impl.BestSuper(x, arrayId); !ok || s != more {
					t.Error(order, s, ok)
				}
			}
		}
	}
	// In one sector there is one alone: what is written there last.
	m := impl.WriteSuper(impl.WriteSuper(impl.MemNew(2), superOf(8)), superOf(4))
	if s, ok := impl.BestSuper(m, arrayId); !ok || s != superOf(4) {
		t.Error("of one sector", s, ok)
	}
}

// Whatever of the cache is kept: what counts is one that was written, and no
// elder one than the last that was flushed.
func TestSupersBehindAFall(t *testing.T) {
	for from := range 4 {
		m := impl.FlushMem(impl.WriteSuper(impl.MemNew(6), superOf(from)))
		for gen := from + 1; gen <= from+4; gen++ {
			m = impl.WriteSuper(m, superOf(gen))
		}
		for keep := range 1 << len(m.Cache) {
			s, ok := impl.BestSuper(impl.FallMem(m, keep), arrayId)
			want := from
			for i := range m.Cache {
				if keep>>i&1 == 1 {
					want = from + 1 + i
				}
			}
			if !ok || s != superOf(want) {
				t.Error(from, keep, s, ok)
			}
		}
	}
}

func TestSupersHoldApart(t *testing.T) {
	for _, s := range []impl.Super{{}, superOf(4), superOf(5), {Id: 1, N: 3, S: 1, Lost: -1, Built: 1}} {
		holdsApart(t, "PutSuper", nil, func() []any { return []any{impl.PutSuper(s), impl.PutSuper(s)} })
		all := rightMems()
		for _, m := range wrongMems() {
			all = append(all, m)
		}
		for _, plainly := range all {
			m := roomy(plainly)
			holdsApart(t, "WriteSuper", []any{m}, func() []any { return []any{impl.WriteSuper(m, s)} })
		}
	}
	for _, s := range []impl.Super{superOf(4), {Id: 1, N: 3, S: 1, Lost: -1}} {
		for _, words := range append(brokenWords(s), wantSuperWords(s)) {
			l := roomy(words)
			holdsApart(t, "GetSuper", []any{l}, func() []any { x, ok := impl.GetSuper(l); return []any{x, ok} })
		}
	}
	for _, a := range heldAt(0)[:12] {
		for _, b := range heldAt(1)[:12] {
			for _, plainly := range laidDown(a, b) {
				m := roomy(plainly)
				want, there := wantBest(a, b)
				holdsApart(t, "BestSuper", []any{m}, func() []any {
					s, ok := impl.BestSuper(m, arrayId)
					if ok != there || s != want {
						t.Error("what lies behind was read", a.name, "and", b.name, s, ok)
					}
					return []any{s, ok}
				})
			}
		}
	}
}

// Lists of an argument may be one and the same; those of an answer may not.
func TestSupersOfOneListHoldApart(t *testing.T) {
	one := roomy(wantSuperWords(superOf(4)))
	m := impl.Mem{Secs: [][]int{one, one, one}, Cache: []impl.Wr{{N: 0, S: one}, {N: 1, S: one}}}
	for _, s := range []impl.Super{superOf(4), superOf(5), {}} {
		holdsApart(t, "WriteSuper", []any{m, one}, func() []any { return []any{impl.WriteSuper(m, s)} })
	}
	// What was read turns nothing of the disk, and the other way round.
	x := impl.WriteSuper(m, superOf(5))
	x.Cache[2].S[1] = 99
	x.Secs[0][1] = 99
	if s, ok := impl.BestSuper(m, arrayId); !ok || s != superOf(4) || one[1] != arrayId {
		t.Error("it turned", s, ok, one)
	}
}
