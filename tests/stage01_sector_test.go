package tests

import (
	"bytes"
	"math"
	"slices"
	"testing"

	"loop.example/g00398/impl"
)

// upTo answers n words that differ from each other in both bytes.
func upTo(n int) []int {
	s := make([]int, n)
	for i := range s {
		s[i] = (i+1)*4660 + 7
	}
	return s
}

// bytesOf lays a sector out by the document's words, apart from the program.
func bytesOf(before []byte, s []int) []byte {
	out := []byte{}
	out = append(out, before...)
	out = append(out, byte(len(s)))
	for _, n := range s {
		out = append(out, byte(n/256), byte(n%256))
	}
	return out
}

func rightSectors() [][]int {
	l := [][]int{
		nil,
		{},
		{0},
		{65535},
		{1, 65535},
		{255, 256, 257},
		{32767, 32768},
		{65280, 255},
		slices.Repeat([]int{0}, impl.MaxSec),
		slices.Repeat([]int{65535}, impl.MaxSec),
	}
	for n := 0; n <= impl.MaxSec; n++ {
		l = append(l, upTo(n))
	}
	return l
}

func wrongSectors() [][]int {
	l := [][]int{
		{-1},
		{65536},
		{-65536},
		{math.MinInt},
		{math.MaxInt},
		{65536 + 5},
		{1 << 32},
		slices.Repeat([]int{0}, impl.MaxSec+1),
		slices.Repeat([]int{-1}, impl.MaxSec+1),
		make([]int, 256),
		make([]int, 257),
		make([]int, 1000),
	}
	// One wrong word is enough, wherever it stands.
	for i := 0; i < impl.MaxSec; i++ {
		for _, n := range []int{-1, 65536} {
			s := upTo(impl.MaxSec)
			s[i] = n
			l = append(l, s)
		}
	}
	return l
}

func befores() [][]byte {
	return [][]byte{nil, {}, {9}, {0}, {13}, {2, 0, 1}, bytes.Repeat([]byte{255}, 40)}
}

func refused(s []int, next int, ok bool) bool { return len(s) == 0 && next == 0 && !ok }

func TestLimitOfASector(t *testing.T) {
	if impl.MaxSec != 12 {
		t.Error("MaxSec is", impl.MaxSec)
	}
}

func TestSecOk(t *testing.T) {
	for _, s := range rightSectors() {
		if !impl.SecOk(s) {
			t.Error("refused", s)
		}
	}
	for _, s := range wrongSectors() {
		if impl.SecOk(s) {
			t.Error("accepted", s)
		}
	}
}

func TestSameSec(t *testing.T) {
	for _, c := range []struct {
		a, b []int
		same bool
	}{
		{nil, nil, true},
		{nil, []int{}, true},
		{[]int{}, nil, true},
		{nil, []int{0}, false},
		{[]int{0}, nil, false},
		{[]int{0}, []int{0, 0}, false},
		{[]int{0, 0}, []int{0}, false},
		{[]int{1}, []int{2}, false},
		{[]int{1, 2}, []int{2, 1}, false},
		{[]int{1, 2, 3}, []int{1, 2, 4}, false},
		{[]int{9, 2, 3}, []int{1, 2, 3}, false},
		{[]int{1, 2, 3}, []int{1, 2, 3}, true},
		{[]int{0}, []int{65536}, false},
		{[]int{-1}, []int{65535}, false},
		{[]int{-1, 1 << 40}, []int{-1, 1 << 40}, true},
		{upTo(impl.MaxSec + 1), upTo(impl.MaxSec + 1), true},
		{upTo(impl.MaxSec + 1), upTo(impl.MaxSec), false},
	} {
		if impl.SameSec(c.a, c.b) != c.same {
			t.Error(c.a, c.b, "is not", c.same)
		}
	}
	// What lies behind the length is no part of a list.
	a, b := []int{1, 2, 3}, []int{1, 2, 4}
	if !impl.SameSec(a[:2], b[:2]) {
		t.Error("what lies behind was read")
	}
}

func TestPutSecBytes(t *testing.T) {
	for _, before := range befores() {
		for _, s := range rightSectors() {
			if got, want := impl.PutSec(before, s), bytesOf(before, s); !bytes.Equal(got, want) {
				t.Errorf("%v behind %x: %x, not %x", s, before, got, want)
			}
		}
		for _, s := range wrongSectors() {
			if got := impl.PutSec(before, s); !bytes.Equal(got, before) {
				t.Errorf("%v behind %x: %x", s, before, got)
			}
		}
	}
}

func TestSectorsComeBack(t *testing.T) {
	for _, before := range befores() {
		for _, s := range rightSectors() {
			b := impl.PutSec(before, s)
			for _, behind := range befores() {
				all := slices.Concat(b, behind)
				got, next, ok := impl.GetSec(all, len(before))
				if !ok || next != len(b) || !slices.Equal(got, s) {
					t.Errorf("%v in %x at %d: %v %d %v", s, all, len(before), got, next, ok)
				}
			}
		}
	}
}

func TestEveryWordComesBack(t *testing.T) {
	for n := 0; n <= 65535; n++ {
		s, next, ok := impl.GetSec(impl.PutSec(nil, []int{n}), 0)
		if !ok || next != 3 || !slices.Equal(s, []int{n}) {
			t.Fatal(n, s, next, ok)
		}
	}
}

func TestSectorsOneBehindTheOther(t *testing.T) {
	var b []byte
	for _, s := range rightSectors() {
		b = impl.PutSec(b, s)
	}
	at := 0
	for _, s := range rightSectors() {
		got, next, ok := impl.GetSec(b, at)
		if !ok || !slices.Equal(got, s) || next != at+1+2*len(s) {
			t.Fatal(at, s, got, next, ok)
		}
		at = next
	}
	if at != len(b) {
		t.Error("ended at", at, "of", len(b))
	}
	if s, next, ok := impl.GetSec(b, at); !refused(s, next, ok) {
		t.Error("behind the last:", s, next, ok)
	}
}

func TestGetSecCutAtEveryPlace(t *testing.T) {
	for _, before := range befores() {
		for _, s := range rightSectors() {
			b := impl.PutSec(before, s)
			for i := range b {
				// The bytes that were cut off still lie behind the length.
				for _, cut := range [][]byte{b[:i], b[:i:i]} {
					if got, next, ok := impl.GetSec(cut, len(before)); !refused(got, next, ok) {
						t.Errorf("%x cut at %d, read at %d: %v %d %v", b, i, len(before), got, next, ok)
					}
				}
			}
		}
	}
}

func TestGetSecThatSaysTooMany(t *testing.T) {
	for n := 0; n <= 255; n++ {
		b := append([]byte{byte(n)}, make([]byte, 600)...)
		s, next, ok := impl.GetSec(b, 0)
		if n > impl.MaxSec {
			if !refused(s, next, ok) {
				t.Error(n, s, next, ok)
			}
		} else if !ok || next != 1+2*n || !slices.Equal(s, make([]int, n)) {
			t.Error(n, s, next, ok)
		}
	}
}

func TestGetSecWrongPlaces(t *testing.T) {
	for _, s := range rightSectors() {
		b := impl.PutSec(nil, s)
		for _, at := range []int{-1, -2, -len(b), math.MinInt, len(b), len(b) + 1, len(b) + 1000, math.MaxInt - 1, math.MaxInt} {
			if got, next, ok := impl.GetSec(b, at); !refused(got, next, ok) {
				t.Errorf("%x at %d: %v %d %v", b, at, got, next, ok)
			}
		}
	}
	for _, b := range [][]byte{nil, {}} {
		for _, at := range []int{-1, 0, 1} {
			if got, next, ok := impl.GetSec(b, at); !refused(got, next, ok) {
				t.Error("no bytes, at", at, got, next, ok)
			}
		}
	}
}

// Whatever bytes there are: what is read puts the same bytes again, and what
// is not read is no sector.
func TestGetSecOfAnyBytes(t *testing.T) {
	x := uint32(1)
	for range 4000 {
		x = x*1664525 + 1013904223
		b := make([]byte, x>>27)
		for i := range b {
			x = x*1664525 + 1013904223
			b[i] = byte(x>>24) % 16
		}
		for at := -2; at < len(b)+2; at++ {
			s, next, ok := impl.GetSec(b, at)
			there := at >= 0 && at < len(b) && int(b[at]) <= impl.MaxSec && at+1+2*int(b[at]) <= len(b)
			switch {
			case ok != there:
				t.Fatalf("%x at %d: %v", b, at, ok)
			case !ok && !refused(s, next, ok):
				t.Fatalf("%x at %d: %v %d", b, at, s, next)
			case ok && !bytes.Equal(bytesOf(b[:at], s), b[:next]):
				t.Fatalf("%x at %d: %v %d", b, at, s, next)
			}
		}
	}
}

// roomyBytes and roomyWords answer a list with spare room behind it, and all
// of that memory, so that a write there shows.
func roomyBytes(l []byte) ([]byte, []byte) {
	all := append(slices.Clone(l), bytes.Repeat([]byte{170}, 80)...)
	return all[:len(l)], all
}

func roomyWords(l []int) ([]int, []int) {
	all := append(slices.Clone(l), slices.Repeat([]int{4321}, 40)...)
	return all[:len(l)], all
}

func TestPutSecWritesNothingAndSharesNothing(t *testing.T) {
	for _, before := range befores() {
		for _, words := range slices.Concat(rightSectors(), wrongSectors()) {
			b, allBytes := roomyBytes(before)
			s, allWords := roomyWords(words)
			bytesWere, wordsWere := slices.Clone(allBytes), slices.Clone(allWords)
			got := impl.PutSec(b, s)
			was := slices.Clone(got)
			other := impl.PutSec(b, s)

			for i := range other {
				other[i]++
			}
			_ = append(other, bytes.Repeat([]byte{1}, 80)...)
			clear(other[len(other):cap(other)])
			if !bytes.Equal(allBytes, bytesWere) || !slices.Equal(allWords, wordsWere) {
				t.Fatalf("%v behind %x: an argument turned", words, before)
			}
			for i := range allBytes {
				allBytes[i]++
			}
			for i := range allWords {
				allWords[i]++
			}
			if !bytes.Equal(got, was) {
				t.Fatalf("%v behind %x: the answer turned", words, before)
			}
		}
	}
}

func TestGetSecWritesNothingAndSharesNothing(t *testing.T) {
	for _, words := range rightSectors() {
		b, all := roomyBytes(impl.PutSec([]byte{7}, words))
		were := slices.Clone(all)
		got, _, _ := impl.GetSec(b, 1)
		other, _, _ := impl.GetSec(b, 1)
		for i := range other {
			other[i]++
		}
		_ = append(other, 1, 2, 3)
		if !bytes.Equal(all, were) {
			t.Fatal(words, "an argument turned")
		}
		clear(all)
		if !slices.Equal(got, words) {
			t.Fatal(words, "the answer turned:", got)
		}
	}
	b, all := roomyBytes([]byte{13, 1, 2})
	were := slices.Clone(all)
	for at := -1; at <= 4; at++ {
		impl.GetSec(b, at)
	}
	if !bytes.Equal(all, were) {
		t.Error("an argument turned where it is refused")
	}
}

func TestAskingWritesNothing(t *testing.T) {
	for _, words := range slices.Concat(rightSectors(), wrongSectors()) {
		a, allA := roomyWords(words)
		b, allB := roomyWords(words)
		were := slices.Clone(allA)
		impl.SecOk(a)
		impl.SameSec(a, b)
		impl.XorOf(a)
		if !slices.Equal(allA, were) || !slices.Equal(allB, were) {
			t.Error(words, "an argument turned")
		}
	}
}

func TestXorOf(t *testing.T) {
	for _, c := range []struct {
		l []int
		x int
	}{
		{nil, 0},
		{[]int{}, 0},
		{[]int{0}, 0},
		{[]int{65535}, 65535},
		{[]int{5, 3}, 6},
		{[]int{3, 5}, 6},
		{[]int{5, 3, 6}, 0},
		{[]int{7, 7}, 0},
		{[]int{1, 2, 4, 8}, 15},
		{[]int{43690, 21845}, 65535},
		{[]int{65536}, 65536},
		{[]int{-1}, -1},
		{[]int{-1, 1}, -2},
		{[]int{math.MaxInt, math.MinInt}, -1},
		{make([]int, 100), 0},
		{slices.Repeat([]int{9}, 101), 9},
	} {
		if x := impl.XorOf(c.l); x != c.x {
			t.Error(c.l, x, "not", c.x)
		}
	}
	// What lies behind the length does not count.
	if l := []int{1, 2, 4}; impl.XorOf(l[:2]) != 3 {
		t.Error("what lies behind was read")
	}
}
