package tests

import (
	"fmt"
	"reflect"
	"slices"
	"testing"
)

// remade copies v throughout. How much of a list is taken, and how much room
// is behind the copy, is handed in.
func remade(v reflect.Value, upto func(reflect.Value) int, room int) reflect.Value {
	switch v.Kind() {
	case reflect.Slice:
		n := upto(v)
		if n+room == 0 {
			return reflect.Zero(v.Type())
		}
		out := reflect.MakeSlice(v.Type(), n+room, n+room)
		for i := range n {
			out.Index(i).Set(remade(v.Slice(0, n).Index(i), upto, room))
		}
		for i := n; i < n+room; i++ {
			out.Index(i).Set(junk(v.Type().Elem()))
		}
		return out.Slice(0, n)
	case reflect.Struct:
		out := reflect.New(v.Type()).Elem()
		for i := range v.NumField() {
			out.Field(i).Set(remade(v.Field(i), upto, room))
		}
		return out
	}
	return v
}

// junk is what lies in spare room: nothing that a test looks for.
func junk(t reflect.Type) reflect.Value {
	out := reflect.New(t).Elem()
	switch t.Kind() {
	case reflect.Int:
		out.SetInt(4321)
	case reflect.Uint8:
		out.SetUint(170)
	case reflect.Bool:
		out.SetBool(true)
	case reflect.String:
		out.SetString("junk")
	case reflect.Slice:
		out.Set(reflect.Append(out, junk(t.Elem())))
	case reflect.Struct:
		for i := range t.NumField() {
			out.Field(i).Set(junk(t.Field(i).Type))
		}
	}
	return out
}

// plain has nil for each empty list, as both are the same value.
func plain[T any](v T) T {
	return remade(reflect.ValueOf(&v).Elem(), reflect.Value.Len, 0).Interface().(T)
}

// roomy has junk behind the length of each list, so that a write there shows,
// and so does what is read there.
func roomy[T any](v T) T {
	return remade(reflect.ValueOf(&v).Elem(), reflect.Value.Len, 5).Interface().(T)
}

func alike[T any](a, b T) bool { return reflect.DeepEqual(plain(a), plain(b)) }

type span struct{ from, to uintptr }

// spansOf answers where the lists of v lie, with the room behind them.
func spansOf(v reflect.Value, upto func(reflect.Value) int) []span {
	out := []span{}
	switch v.Kind() {
	case reflect.Slice:
		if v.Cap() > 0 {
			from := v.Pointer()
			out = append(out, span{from, from + uintptr(v.Cap())*v.Type().Elem().Size()})
		}
		n := upto(v)
		for i := range n {
			out = append(out, spansOf(v.Slice(0, n).Index(i), upto)...)
		}
	case reflect.Struct:
		for i := range v.NumField() {
			out = append(out, spansOf(v.Field(i), upto)...)
		}
	}
	return out
}

// notApart asks of a call that it writes nothing into its arguments, nor
// behind them, and that what it answers shares no memory with them, nor one
// list of it with another. It answers what is not so.
func notApart(args []any, call func() []any) []string {
	faults, were, held := []string{}, []any{}, []span{}
	for _, a := range args {
		were = append(were, remade(reflect.ValueOf(a), reflect.Value.Cap, 0).Interface())
		held = append(held, spansOf(reflect.ValueOf(a), reflect.Value.Cap)...)
	}
	answers := call()
	for i, a := range args {
		if is := remade(reflect.ValueOf(a), reflect.Value.Cap, 0).Interface(); !reflect.DeepEqual(is, were[i]) {
			faults = append(faults, fmt.Sprintf("argument %d turned: %v, was %v", i, is, were[i]))
		}
	}
	for _, a := range answers {
		shared := 0
		for _, s := range spansOf(reflect.ValueOf(a), reflect.Value.Len) {
			if slices.ContainsFunc(held, func(h span) bool { return s.from < h.to && h.from < s.to }) {
				shared++
			}
			held = append(held, s)
		}
		// Told once: a great answer may share hundreds of lists.
		if shared > 0 {
			faults = append(faults, fmt.Sprintf("memory of %v is shared, in %d lists", a, shared))
		}
	}
	return faults
}

func holdsApart(t *testing.T, name string, args []any, call func() []any) {
	t.Helper()
	for _, f := range notApart(args, call) {
		t.Errorf("%s: %s", name, f)
	}
}

// drawn answers a function that answers numbers below n, as they come, but the
// same ones in each run.
func drawn(seed uint32) func(n int) int {
	return func(n int) int {
		seed = seed*1664525 + 1013904223
		return int(seed>>8) % n
	}
}

// otherLengths answers lists that are none of right's length, made of it: cut
// behind and ahead, with more behind and ahead.
func otherLengths(right []int) [][]int {
	l := [][]int{nil, {}, {0}, slices.Concat(right, right), slices.Concat(right, make([]int, 3)), slices.Concat(right, make([]int, 100))}
	for n := range right {
		l = append(l, right[:n:n], right[len(right)-n:])
	}
	for _, n := range []int{0, 1, right[0], 65535} {
		l = append(l, slices.Concat(right, []int{n}), slices.Concat([]int{n}, right))
	}
	return l
}

// changedAt answers right with each of these numbers, and each that is far, at
// this place.
func changedAt(right []int, at int, numbers ...int) [][]int {
	l := [][]int{}
	for _, n := range append(numbers, far()...) {
		x := slices.Clone(right)
		x[at] = n
		l = append(l, x)
	}
	return l
}

// wantNone asks that none of the lists is read, nor with junk behind it, nor
// whole cut at any place, where what is missing stands behind the length.
func wantNone(t *testing.T, lists [][]int, whole []int, none func(l []int) bool) {
	t.Helper()
	for _, l := range lists {
		if !none(l) {
			t.Error("read:", l)
		}
		if !none(roomy(l)) {
			t.Error("what lies behind was read:", l)
		}
	}
	for n := range whole {
		if !none(whole[:n]) {
			t.Error("read, cut at", n, "of", whole)
		}
	}
}

// The helpers themselves: what they are to find they find.
func TestNotApart(t *testing.T) {
	for name, call := range map[string]func(l [][]int) any{
		"the same":          func(l [][]int) any { return l },
		"an inner one":      func(l [][]int) any { return [][]int{{1}, l[0]} },
		"spare room":        func(l [][]int) any { return l[0][len(l[0]):cap(l[0])] },
		"twice in one":      func(l [][]int) any { x := []int{1, 2}; return [][]int{x[:1:1], x} },
		"written":           func(l [][]int) any { l[0][0]++; return nil },
		"written behind":    func(l [][]int) any { _ = append(l[0], 1); return nil },
		"written behind it": func(l [][]int) any { _ = append(l, nil); return nil },
	} {
		l := roomy([][]int{{1, 2}, {3}})
		answer := func() []any {
			if a := call(l); a != nil {
				return []any{a}
			}
			return nil
		}
		if len(notApart([]any{l}, answer)) == 0 {
			t.Error("not found:", name)
		}
	}
}

func TestApart(t *testing.T) {
	l := roomy([][]int{{1, 2}, {3}})
	for _, f := range notApart([]any{l, 5, true}, func() []any { return []any{[][]int{{1, 2}, {}, {3}}, 1, []int{1}} }) {
		t.Error(f)
	}
}

func TestAlike(t *testing.T) {
	if !alike([][]int{nil, {1}}, [][]int{{}, {1}}) || alike([][]int{{1}}, [][]int{{2}}) || alike([]int{1}, []int{1, 2}) || alike([]int{}, []int{0}) {
		t.Error("what is the same is not told")
	}
	if l := roomy([][]int{{1}}); !alike(l, [][]int{{1}}) || cap(l) == len(l) || cap(l[0]) == len(l[0]) {
		t.Error("no room")
	}
}
