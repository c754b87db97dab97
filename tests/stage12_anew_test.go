package tests

import (
	"fmt"
	"slices"
	"testing"

	"loop.example/g00398/impl"
)

// asked answers what a call answered, which must be CoGood.
func asked(t *testing.T, name string, call func(impl.Arr) (impl.Arr, int), a impl.Arr) impl.Arr {
	t.Helper()
	x, code := call(a)
	if code != impl.CoGood || !impl.ArrOk(x) || x.Down || x.Broken {
		t.Fatal(name, "code", code, "\nof", a, "\nis", x)
	}
	return x
}

// stepped answers a with one more stripe built.
func stepped(t *testing.T, name string, a impl.Arr) impl.Arr {
	t.Helper()
	x := asked(t, name+", BuildStep", impl.BuildStep, a)
	if x.Built != a.Built+1 || x.Lost != a.Lost {
		t.Fatal(name, "it is not one more", x.Built, "of", a)
	}
	return x
}

// wantAnew builds what is Lost anew, a spare first where it Failed, and asks
// behind each step that no block turned, and how many stripes are bare yet.
func wantAnew(t *testing.T, name string, a impl.Arr, contents, durable []int) impl.Arr {
	t.Helper()
	if a.Mems[a.Lost].Failed {
		a = asked(t, name+", Spare", impl.Spare, a)
		wantBoth(t, name+", Spare", a, contents, durable)
		wantEven(t, name+", Spare", a, a.G.S)
	}
	for a.Built < a.G.S {
		a = stepped(t, name, a)
		wantBoth(t, fmt.Sprint(name, ", built up to ", a.Built), a, contents, durable)
		wantEven(t, name, a, a.G.S-a.Built)
	}
	a = asked(t, name+", Adopt", impl.Adopt, a)
	wantWhole(t, name, a, contents, durable)
	return a
}

// wantWhole asks that nothing is lost, and that any disk may be lost now.
func wantWhole(t *testing.T, name string, a impl.Arr, contents, durable []int) {
	t.Helper()
	if a.Lost != -1 || a.Built != 0 || a.Broken || a.Down || !impl.ArrOk(a) {
		t.Fatal(name, "it is not whole", a)
	}
	wantBoth(t, name+", whole", a, contents, durable)
	wantEven(t, name+", whole", a, 0)
	for m := range a.G.N {
		if !impl.CanLose(a, m) {
			t.Fatal(name, "disk", m, "cannot be lost", a)
		}
		wantBoth(t, fmt.Sprint(name, ", and then disk ", m, " fails"), impl.FailDisk(a, m), contents, durable)
	}
}

// The promise itself: whichever disk failed, alone or while it was built, it is
// built anew, and no block turns, though some are in memory alone, and some
// stripes were written, but not yet flushed.
func TestWhatWasLostIsBuiltAnew(t *testing.T) {
	for n := fewestDisks; n <= mostDisks; n++ {
		t.Run(fmt.Sprint(n, " disks"), func(t *testing.T) {
			t.Parallel()
			for stripes := 1; stripes <= impl.MaxStripes; stripes++ {
				wantEachBuiltAnew(t, impl.Geo{N: n, S: stripes})
			}
		})
	}
}

func wantEachBuiltAnew(t *testing.T, g impl.Geo) {
	t.Helper()
	next := drawn(uint32(761 + 10*g.N + g.S))
	a, held := filled(g, next)
	for m := range g.N {
		for i, c := range bearings(a, m) {
			x, was := busy(t, c.a, held, i%(impl.Slots+2), next)
			x = impl.FailDisk(x, m)
			if i%2 == 0 { // some of it was written only behind the failure
				x, was = busy(t, x, was, next(3), next)
			}
			durable := blockWords(g, was)
			x, contents := withSome(t, x, durable, next)
			step := wantAnew(t, c.name, x, contents, durable)
			all := asked(t, c.name+", at once", impl.BuildAll, x)
			if !alike(all, step) {
				t.Fatal(c.name, "at once is another", all, step)
			}
			wantBoth(t, c.name+", behind the power", back(t, c.name, all, nil, -1), durable, durable)
		}
	}
}

// One disk behind the other fails, and is built anew, until there is none that
// was there at first; stripes are written all the while.
func TestEachDiskInTurn(t *testing.T) {
	t.Parallel()
	for _, g := range rightGeos() {
		next := drawn(uint32(769 + 10*g.N + g.S))
		x, held := filled(g, next)
		for m := range g.N {
			name := fmt.Sprint("disk ", m)
			x, held = busy(t, x, held, next(4), next)
			x, held = busy(t, impl.FailDisk(x, m), held, next(4), next)
			words := blockWords(g, held)
			if m%2 == 0 {
				x = wantAnew(t, name, x, words, words)
				continue
			}
			x = asked(t, name, impl.BuildAll, x)
			wantWhole(t, name, x, words, words)
		}
	}
}

// builtUpTo answers a, whose disk m failed, with a spare built up to this stripe.
func builtUpTo(t *testing.T, a impl.Arr, m, built int) impl.Arr {
	t.Helper()
	x := asked(t, "Spare", impl.Spare, impl.FailDisk(a, m))
	for range built {
		x = stepped(t, "built", x)
	}
	if x.Built != built || x.Lost != m {
		t.Fatal("it is not built so far", m, built, x)
	}
	return x
}

// finished answers a with all that is left of it built, and adopted.
func finished(t *testing.T, name string, a impl.Arr) impl.Arr {
	t.Helper()
	if a.Lost == -1 {
		return a
	}
	if a.Mems[a.Lost].Failed {
		return asked(t, name, impl.BuildAll, a)
	}
	for a.Built < a.G.S {
		a = stepped(t, name, a)
	}
	return asked(t, name, impl.Adopt, a)
}

// A meanwhile is a way in which a stripe turns while a disk is built; it answers
// whether the stripe is on the disks then.
type meanwhile struct {
	name string
	do   func(a impl.Arr, s int, data []int) (impl.Arr, bool)
}

func meanwhiles() []meanwhile {
	set := func(a impl.Arr, s int, data []int) impl.Arr {
		for i, w := range data {
			a, _ = impl.SetBlock(a, s*(a.G.N-1)+i, w)
		}
		return a
	}
	return []meanwhile{
		{"written", func(a impl.Arr, s int, data []int) (impl.Arr, bool) {
			x, code := impl.WriteStripe(a, s, data)
			return x, code == impl.CoGood
		}},
		{"written and flushed", func(a impl.Arr, s int, data []int) (impl.Arr, bool) {
			x, code := impl.WriteStripe(a, s, data)
			return impl.Sync(x), code == impl.CoGood
		}},
		{"set", func(a impl.Arr, s int, data []int) (impl.Arr, bool) { return set(a, s, data), false }},
		{"set and flushed", func(a impl.Arr, s int, data []int) (impl.Arr, bool) {
			x, code := impl.FlushStripe(set(a, s, data), s)
			return x, code == impl.CoGood
		}},
		{"set and flushed with all", func(a impl.Arr, s int, data []int) (impl.Arr, bool) {
			x, code := impl.FlushAll(set(a, s, data))
			return x, code == impl.CoGood
		}},
	}
}

// Each stripe turns at each time: below Built, at it and past it. When all is
// built it is as it was to be, and so is each other one.
func TestWhatTurnsWhileItIsBuilt(t *testing.T) {
	for n := fewestDisks; n <= mostDisks; n++ {
		for i, c := range meanwhiles() {
			t.Run(fmt.Sprint(n, " disks, ", c.name), func(t *testing.T) {
				t.Parallel()
				next := drawn(uint32(773 + 10*n + i))
				for stripes := 1; stripes <= impl.MaxStripes; stripes++ {
					wantTurnedMeanwhile(t, impl.Geo{N: n, S: stripes}, c, next)
				}
			})
		}
	}
}

func wantTurnedMeanwhile(t *testing.T, g impl.Geo, c meanwhile, next func(int) int) {
	t.Helper()
	a, held := filled(g, next)
	for m := range g.N {
		for built := 0; built <= g.S; built++ {
			x, was := busy(t, a, held, next(impl.Slots+1), next)
			x = builtUpTo(t, x, m, built)
			for s := range g.S {
				name := fmt.Sprint(c.name, ", disk ", m, " built up to ", built, ", stripe ", s)
				data := dataFor(g, next)
				y, onDisks := c.do(x, s, data)
				contents, durable := blockWords(g, was), blockWords(g, was)
				copy(contents[s*(g.N-1):], data)
				if onDisks {
					durable = contents
				}
				if onDisks == (c.name == "set") {
					t.Fatal(name, "refused", y)
				}
				wantBoth(t, name, y, contents, durable)
				z := finished(t, name, y)
				wantBoth(t, name+", finished", z, contents, durable)
				wantEven(t, name+", finished", z, 0)
				other := next(g.N)
				wantBoth(t, fmt.Sprint(name, ", and then disk ", other, " fails"), impl.FailDisk(z, other), contents, durable)
			}
		}
	}
}

// Many turn, at any time, some of them twice: ahead of the step that builds
// them, and behind it.
func TestManyTurnWhileItIsBuilt(t *testing.T) {
	t.Parallel()
	for _, g := range rightGeos() {
		next := drawn(uint32(787 + 10*g.N + g.S))
		a, held := filled(g, next)
		for m := range g.N {
			for range 6 {
				x := builtUpTo(t, a, m, 0)
				contents := blockWords(g, held)
				durable := contents
				for x.Built < g.S || next(3) > 0 {
					for range next(4) {
						x, contents, durable = wantAnyTurn(t, x, contents, durable, next)
					}
					if x.Built < g.S {
						x = stepped(t, "a step", x)
					}
					wantBoth(t, fmt.Sprint("built up to ", x.Built), x, contents, durable)
					wantEven(t, "a step", x, g.S-x.Built)
				}
				wantWhole(t, "many", asked(t, "many", impl.Adopt, x), contents, durable)
			}
		}
	}
}

// wantAnyTurn writes, sets or flushes something, and answers what is then.
func wantAnyTurn(t *testing.T, a impl.Arr, contents, durable []int, next func(int) int) (impl.Arr, []int, []int) {
	t.Helper()
	switch next(4) {
	case 0:
		x, now := withSome(t, a, contents, next)
		return x, now, durable
	case 1:
		return asked(t, "FlushAll", impl.FlushAll, a), contents, contents
	case 2:
		return impl.Check(a), contents, durable
	}
	return wantStripeTurned(t, a, contents, durable, next(a.G.S), dataFor(a.G, next))
}

// A cutting is a call that the power may go in, of an array that is built so
// far, and what each disk is to hold of it.
type cutting struct {
	name       string
	call       func(impl.Arr) (impl.Arr, int)
	operations int
	a          impl.Arr
	held       [][]int
}

// cuttings answers each of them, of a whose disk m fails: with a spare built up
// to each stripe, of which the Supers know, or do not. So many stripes were
// written meanwhile, whose words are only in the caches.
func cuttings(t *testing.T, a impl.Arr, held [][]int, m, writes int, next func(int) int) []cutting {
	t.Helper()
	g := a.G
	lost, was := busy(t, impl.FailDisk(a, m), held, writes, next)
	l := []cutting{{"Spare", impl.Spare, 2 * g.N, lost, was}, {"BuildAll", impl.BuildAll, 7*g.N + g.S, lost, was}}
	x := asked(t, "Spare", impl.Spare, impl.FailDisk(a, m))
	x, was = busy(t, x, held, writes, next)
	for {
		c := cutting{fmt.Sprint("BuildStep ", x.Built), impl.BuildStep, 1, x, was}
		if x.Built == g.S {
			c = cutting{"Adopt", impl.Adopt, 5 * g.N, x, was}
		}
		checked, again := c, c
		checked.name, checked.a = c.name+", known", impl.Check(x)
		again.name, again.call, again.operations = fmt.Sprint("Spare again, once built up to ", x.Built), impl.Spare, 2*g.N
		again.a = impl.FailDisk(x, m)
		l = append(l, c, checked, again)
		if x.Built == g.S {
			return l
		}
		x = stepped(t, "built", x)
	}
}

// The power goes at each Fuse, whatever is kept of the caches: no block that is
// sure turns, and building goes on behind Recover.
func TestPowerGoesWhileItIsBuilt(t *testing.T) {
	for n := fewestDisks; n <= mostDisks; n++ {
		for m := range n {
			t.Run(fmt.Sprint(n, " disks, disk ", m), func(t *testing.T) {
				t.Parallel()
				wantBuiltBehindThePower(t, impl.Geo{N: n, S: 2}, m)
			})
		}
	}
}

func wantBuiltBehindThePower(t *testing.T, g impl.Geo, m int) {
	next, ends := drawn(uint32(797+10*g.N+m)), map[string]int{}
	a, held := filled(g, next)
	for recs := range impl.Slots + 1 {
		x, was := busy(t, known(a), held, recs, next)
		for _, c := range cuttings(t, x, was, m, next(impl.Slots), next) {
			durable := blockWords(g, c.held)
			c.a, _ = withSome(t, c.a, durable, next)
			for _, fuse := range fusesFor(c.operations) {
				c.a.Fuse = fuse
				y, code := c.call(c.a)
				if y.Down != within(fuse, 0, c.operations-1) || y.Down != (code == impl.CoDown) {
					t.Fatal(c.name, "Fuse", fuse, "code", code, y)
				}
				all := keepsFor(g.N, next)
				for k := range 4 {
					keeps := all[(fuse+1+recs+k*5)%len(all)]
					end := wantOn(t, fmt.Sprint(c.name, ", Fuse ", fuse, ", kept ", keeps), y, m, keeps, durable, next)
					ends[fmt.Sprint(c.name[:5], end)]++
				}
			}
		}
	}
	for _, end := range []string{"Spare is not built", "Build is not built", "Build is built in part", "Build is all built", "Build is whole", "Adopt is all built", "Adopt is whole"} {
		if ends[end] < 10 {
			t.Error("this end seldom came:", end, ends)
		}
	}
}

// wantOn brings a back, of which the disk m was lost, also where the power goes
// again, and builds on; it answers how far it was built.
func wantOn(t *testing.T, name string, a impl.Arr, m int, keeps []int, durable []int, next func(int) int) string {
	t.Helper()
	x := back(t, name, a, keeps, -1)
	wantQuiet(t, name, x)
	wantBoth(t, name, x, durable, durable)
	end := ""
	switch {
	case x.Lost == -1 && x.Built == 0:
		end = " is whole"
		wantWhole(t, name, x, durable, durable)
	case x.Lost != m || x.Mems[m].Failed:
		t.Fatal(name, "another one is Lost, or it Failed", x)
	case x.Built == 0:
		end = " is not built"
	case x.Built == x.G.S:
		end = " is all built"
	default:
		end = " is built in part"
	}
	wantBuiltOn(t, name, x, durable)
	cut := back(t, name, a, someKept(a.G.N, next), next(6*a.G.N))
	again := back(t, name+", and again", cut, someKept(a.G.N, next), -1)
	wantBuiltOn(t, name+", and again", again, durable)
	return end
}

func wantBuiltOn(t *testing.T, name string, a impl.Arr, durable []int) {
	t.Helper()
	wantBoth(t, name, a, durable, durable)
	x := finished(t, name+", going on", a)
	wantBoth(t, name+", going on", x, durable, durable)
	wantEven(t, name+", going on", x, 0)
	if x.Lost != -1 || x.Broken {
		t.Fatal(name, "it is not whole", x)
	}
}

// eachKept answers all that can be kept of these caches.
func eachKept(mems []impl.Mem) [][]int {
	l := [][]int{nil}
	for _, mem := range mems {
		longer := [][]int{}
		for _, keeps := range l {
			for keep := range 1 << len(mem.Cache) {
				longer = append(longer, append(slices.Clone(keeps), keep))
			}
		}
		l = longer
	}
	return l
}

// Of small arrays all that can be kept, at each Fuse.
func TestWhateverIsKeptWhileItIsBuilt(t *testing.T) {
	t.Parallel()
	most := 0
	for stripes := 1; stripes <= 2; stripes++ {
		g, next := impl.Geo{N: fewestDisks, S: stripes}, drawn(829)
		a, held := filled(g, next)
		for m := range g.N {
			for writes := range 3 {
				x, was := busy(t, known(a), held, 2*writes, next)
				for _, c := range cuttings(t, x, was, m, writes, next) {
					most = max(most, wantBuiltOnWhateverIsKept(t, c))
				}
			}
		}
	}
	if most < 32 {
		t.Error("little was in the caches:", most)
	}
}

// wantBuiltOnWhateverIsKept answers how much there was to choose from at most.
func wantBuiltOnWhateverIsKept(t *testing.T, c cutting) int {
	t.Helper()
	most, durable := 0, blockWords(c.a.G, c.held)
	for fuse := range c.operations + 1 {
		c.a.Fuse = fuse
		y, _ := c.call(c.a)
		all := eachKept(y.Mems)
		most = max(most, len(all))
		for _, keeps := range all {
			name := fmt.Sprint(c.name, ", Fuse ", fuse, ", kept ", keeps)
			wantBuiltOn(t, name, back(t, name, y, keeps, -1), durable)
		}
	}
	return most
}

// Where Adopt was told good nothing is Lost behind the power, and any disk may
// fail with it.
func TestAdoptedIsAdopted(t *testing.T) {
	t.Parallel()
	for _, g := range rightGeos() {
		next := drawn(uint32(809 + 10*g.N + g.S))
		a, held := filled(g, next)
		for m := range g.N {
			x, was := busy(t, known(a), held, next(impl.Slots+1), next)
			x = finished(t, "adopted", impl.FailDisk(x, m))
			x, was = busy(t, x, was, next(impl.Slots+1), next)
			durable := blockWords(g, was)
			for _, keeps := range [][]int{nil, slices.Repeat([]int{mostKeep}, g.N), someKept(g.N, next)} {
				wantWhole(t, "behind the power", back(t, "adopted", x, keeps, -1), durable, durable)
				for other := range g.N {
					y := back(t, "one fails with it", withGone(x, other), keeps, -1)
					wantBoth(t, "one fails with it", y, durable, durable)
					wantFailedAlone(t, "one fails with it", y, other)
				}
			}
		}
	}
}

// What was built ahead of the power, and is not known, is on the disk yet; all
// stripes turn then, and are built again: nothing of what is elder comes back,
// wherever the power goes in it.
func TestBuiltASecondTime(t *testing.T) {
	for n := fewestDisks; n <= mostDisks; n++ {
		t.Run(fmt.Sprint(n, " disks"), func(t *testing.T) {
			t.Parallel()
			next := drawn(uint32(811 + n))
			for stripes := 1; stripes <= 4; stripes++ {
				wantBuiltTwice(t, impl.Geo{N: n, S: stripes}, next)
			}
		})
	}
}

func wantBuiltTwice(t *testing.T, g impl.Geo, next func(int) int) {
	t.Helper()
	a, held := filled(g, next)
	for m := range g.N {
		for first := 1; first <= g.S; first++ {
			x := impl.Sync(builtUpTo(t, known(a), m, first))
			y := back(t, "not known", x, nil, -1)
			if y.Built != 0 || y.Lost != m || !slices.Equal(y.Mems[m].Secs[firstStripe], []int{held[0][m]}) {
				t.Fatal("it is known", y)
			}
			words := []int{}
			for s := range g.S {
				data := dataFor(g, next)
				y = wantWrite(t, "turned", y, s, data)
				words = append(words, data...)
			}
			wantBoth(t, "turned", y, words, words)
			for second := 0; second <= g.S; second++ {
				for fuse := 0; ; fuse++ {
					y.Fuse = fuse
					z := cutOff(y, second)
					w := back(t, "built twice", z, keepsFor(g.N, next)[next(2*g.N+5)], -1)
					wantBuiltOn(t, fmt.Sprint("built ", first, " and ", second, " stripes, Fuse ", fuse), w, words)
					if !z.Down {
						break
					}
				}
				y.Fuse = -1
			}
		}
	}
}

// cutOff builds so many stripes, and checks, or adopts where that is all, up to
// where the power goes.
func cutOff(a impl.Arr, stripes int) impl.Arr {
	for range stripes {
		a, _ = impl.BuildStep(a)
	}
	if stripes == a.G.S {
		a, _ = impl.Adopt(a)
		return a
	}
	return impl.Check(a)
}

// What is known of it by the Supers is there behind the power, what is not is
// built again; whatever was kept.
func TestHowFarItIsKnown(t *testing.T) {
	t.Parallel()
	for _, g := range rightGeos() {
		next := drawn(uint32(821 + 10*g.N + g.S))
		a, held := filled(g, next)
		words := blockWords(g, held)
		for m := range g.N {
			for knownUpTo := 0; knownUpTo <= g.S; knownUpTo++ {
				x := impl.Check(builtUpTo(t, known(a), m, knownUpTo))
				for x.Built < g.S && next(3) > 0 {
					x = stepped(t, "further", x)
				}
				for _, keeps := range [][]int{nil, slices.Repeat([]int{mostKeep}, g.N), someKept(g.N, next)} {
					y := back(t, "known", x, keeps, -1)
					if y.Lost != m || y.Built != knownUpTo || impl.Bare(y) != g.S-knownUpTo {
						t.Fatal(g, m, knownUpTo, "is", y.Built, y)
					}
					wantBuiltOn(t, "known", y, words)
				}
			}
		}
	}
}

// Whatever is done one behind the other, with the power that goes at any Fuse,
// and a disk that fails whenever none is lost, or the spare itself: each stripe
// is as it was written last, or was to be when the power went.
func TestBuiltSomewhere(t *testing.T) {
	for n := fewestDisks; n <= mostDisks; n++ {
		t.Run(fmt.Sprint(n, " disks"), func(t *testing.T) {
			t.Parallel()
			next, ends := drawn(uint32(823+n)), map[string]int{}
			for range 400 {
				wantBuiltSomewhere(t, impl.Geo{N: n, S: 1 + next(impl.MaxStripes)}, next, ends)
			}
			for _, end := range []string{"down", "failed", "spared", "built", "adopted"} {
				if ends[end] < 40 {
					t.Error("this seldom came:", end, ends)
				}
			}
		})
	}
}

func wantBuiltSomewhere(t *testing.T, g impl.Geo, next func(int) int, ends map[string]int) {
	t.Helper()
	a, held := filled(g, next)
	x := known(a)
	for range 40 {
		was := x
		x.Fuse = max(-1, next(60)-40)
		y, w := doAny(x, held, next)
		if y.Down {
			ends["down"]++
		}
		for y.Fuse = -1; y.Down; {
			y = back(t, "somewhere", y, keepsFor(g.N, next)[next(2*g.N+5)], max(-1, next(90)-60))
		}
		w.grant(t, "somewhere", y)
		if y.Broken || !impl.Even(y) || !impl.ArrOk(y) {
			t.Fatal("somewhere", was, y)
		}
		held = slices.Clone(held)
		for s := range w.toBe {
			held[s], _ = impl.Words(y, s)
		}
		x, x.Fuse = y, -1
		countEnds(was, x, ends)
	}
	z := finished(t, "somewhere", x)
	z.Dirty = nil
	wantWhole(t, "somewhere", z, blockWords(g, held), blockWords(g, held))
}

func countEnds(was, is impl.Arr, ends map[string]int) {
	failed := func(a impl.Arr) bool { return a.Lost >= 0 && a.Mems[a.Lost].Failed }
	switch {
	case !failed(was) && failed(is):
		ends["failed"]++
	case failed(was) && !failed(is):
		ends["spared"]++
	case was.Lost >= 0 && is.Lost == -1:
		ends["adopted"]++
	case is.Built > was.Built:
		ends["built"]++
	}
}

// doAny does one thing, and answers what is to be of it.
func doAny(a impl.Arr, held [][]int, next func(int) int) (impl.Arr, wish) {
	w, code := wish{held, nil, nil}, 0
	switch next(12) {
	case 0, 1:
		s, data := next(a.G.S), dataFor(a.G, next)
		w.toBe = map[int][]int{s: wantHeld(a.G, s, data)}
		a, code = impl.WriteStripe(a, s, data)
		w.told = map[int]bool{s: code == impl.CoGood}
	case 2:
		a, w.toBe = inMemory(a, stripesIn(next(1<<a.G.S), a.G.S), next)
		a, _ = impl.FlushAll(a)
		w.told = toldGood(w.toBe, a)
	case 3:
		if m := next(a.G.N); a.Lost == -1 {
			a = impl.FailDisk(a, m)
		} else if next(6) == 0 {
			a = impl.FailDisk(a, a.Lost)
		}
	case 4:
		a = impl.Check(a)
	case 5:
		a = impl.PowerOff(a)
	case 6, 7:
		a, _ = impl.Spare(a)
	case 8:
		a, _ = impl.Adopt(a)
	case 9:
		a, _ = impl.BuildAll(a)
	default:
		for range 1 + next(a.G.S) {
			a, _ = impl.BuildStep(a)
		}
	}
	return a, w
}
