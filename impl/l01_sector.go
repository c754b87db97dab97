package impl

import "slices"

const MaxSec = 12

// Two bytes hold a word, so that no word is greater.
const maxWord = 65535

func isWord(n int) bool { return n >= 0 && n <= maxWord }

func SecOk(s []int) bool {
	if len(s) > MaxSec {
		return false
	}
	for _, n := range s {
		if !isWord(n) {
			return false
		}
	}
	return true
}

func SameSec(a []int, b []int) bool { return slices.Equal(a, b) }

// roomBehind answers new memory that begins with b. The room for what comes
// next is its own: appending to b itself might write behind b's length.
func roomBehind(b []byte, more int) []byte {
	return append(make([]byte, 0, len(b)+more), b...)
}

// putWords may write behind out's length: out must be the program's own.
func putWords(out []byte, words ...int) []byte {
	for _, n := range words {
		out = append(out, byte(n>>8), byte(n))
	}
	return out
}

func PutSec(b []byte, s []int) []byte {
	if !SecOk(s) {
		return roomBehind(b, 0)
	}
	out := append(roomBehind(b, 1+2*len(s)), byte(len(s)))
	return putWords(out, s...)
}

func GetSec(b []byte, at int) ([]int, int, bool) {
	if at < 0 || at >= len(b) {
		return []int{}, 0, false
	}
	n := int(b[at])
	behind := b[at+1:]
	if n > MaxSec || 2*n > len(behind) {
		return []int{}, 0, false
	}
	s := make([]int, n)
	for i := range s {
		s[i] = int(behind[2*i])<<8 | int(behind[2*i+1])
	}
	return s, at + 1 + 2*n, true
}

func XorOf(l []int) int {
	x := 0
	for _, n := range l {
		x ^= n
	}
	return x
}
