package tests

import (
	"math"
	"testing"

	"loop.example/g00335/impl"
)

// The document's numbers, written out, so that a limit that moves is found.
const (
	allPerms = 31
	lowestAt = -4000
	topAt    = 8000
)

func way(lo, hi, at, perm int) impl.Word {
	return impl.Word{Tag: true, Lo: lo, Hi: hi, At: at, Perm: perm}
}

func entry(seal, at, perm int) impl.Word {
	return impl.Word{Tag: true, At: at, Perm: perm, Seal: seal}
}

func goodInts() []impl.Word {
	return []impl.Word{{}, {N: 1}, {N: -1}, {N: 4000}, {N: 1<<31 - 1}, {N: -1 << 31}}
}

func goodEntries() []impl.Word {
	var all []impl.Word
	for _, seal := range []int{1, 2, 7, 8} {
		for _, at := range []int{0, 1, 3999, 4000} {
			all = append(all, entry(seal, at, 0), entry(seal, at, impl.CanGo))
		}
	}
	return all
}

func goodWays() []impl.Word {
	var all []impl.Word
	for _, ends := range [][2]int{{0, 0}, {0, 1}, {0, 4000}, {10, 20}, {11, 15}, {20, 20}, {3999, 4000}, {4000, 4000}} {
		for _, at := range []int{lowestAt, lowestAt + 1, -1, 0, 12, 20, 4000, 7999, topAt} {
			for perm := 0; perm <= allPerms; perm++ {
				all = append(all, way(ends[0], ends[1], at, perm))
			}
		}
	}
	return all
}

// badWords: each is off by what stands behind it, and by that alone.
func badWords() []impl.Word {
	return []impl.Word{
		{N: 1 << 31},
		{N: -1<<31 - 1},
		{N: 1 << 32},
		{N: math.MaxInt},
		{N: math.MinInt},
		{Lo: 1},
		{Hi: 1},
		{At: 1},
		{At: -1},
		{Perm: 1},
		{Perm: impl.CanGo},
		{Seal: 1},
		{N: 5, Hi: 20, At: 3, Perm: 1},
		{N: 5, At: 3, Seal: 1},
		{Tag: true, N: 1, Hi: 20},
		{Tag: true, N: -1},
		{Tag: true, N: 1, Seal: 1},
		{Tag: true, N: 1 << 32, Seal: 1},
		way(0, 20, 3, -1),
		way(0, 20, 3, 32),
		way(0, 20, 3, 33),
		way(0, 20, 3, math.MinInt),
		way(-1, 20, 3, 1),
		way(-1, -1, 3, 1),
		way(math.MinInt, 20, 3, 1),
		way(20, 19, 3, 1),
		way(1, 0, 3, 1),
		way(4000, 4001, 3, 1),
		way(4001, 4001, 3, 1),
		way(0, math.MaxInt, 3, 1),
		way(0, 20, lowestAt-1, 1),
		way(0, 20, topAt+1, 1),
		way(0, 20, math.MinInt, 1),
		way(0, 20, math.MaxInt, 1),
		entry(-1, 3, impl.CanGo),
		entry(9, 3, impl.CanGo),
		entry(9, 3, 0),
		entry(math.MinInt, 3, impl.CanGo),
		entry(math.MaxInt, 3, impl.CanGo),
		entry(1, -1, impl.CanGo),
		entry(1, 4001, impl.CanGo),
		entry(1, 4001, 0),
		entry(1, math.MinInt, impl.CanGo),
		entry(1, math.MaxInt, impl.CanGo),
		entry(1, 3, impl.CanLoad),
		entry(1, 3, impl.CanLocal),
		entry(1, 3, impl.CanGo|impl.CanLoad),
		entry(1, 3, allPerms),
		entry(1, 3, 32),
		entry(1, 3, -1),
		{Tag: true, Lo: 1, At: 3, Perm: impl.CanGo, Seal: 1},
		{Tag: true, Hi: 1, At: 3, Perm: impl.CanGo, Seal: 1},
		{Tag: true, Lo: 1, Hi: 1, At: 3, Seal: 1},
		{Tag: true, Lo: -1, Hi: 20, At: 3, Seal: 2},
	}
}

func wantNoWord(t *testing.T, what string, w impl.Word, ok bool) {
	t.Helper()
	if ok || w != (impl.Word{}) {
		t.Errorf("%s = %+v, %v; want the zero value and false", what, w, ok)
	}
}

func TestLimitsOfWords(t *testing.T) {
	if impl.MaxWords != 4000 || impl.MaxMods != 8 {
		t.Fatal(impl.MaxWords, impl.MaxMods)
	}
	got := [5]int{impl.CanLoad, impl.CanStore, impl.CanCaps, impl.CanLocal, impl.CanGo}
	if got != [5]int{1, 2, 4, 8, 16} {
		t.Fatal(got)
	}
}

func TestWordOk(t *testing.T) {
	for _, l := range [][]impl.Word{goodInts(), goodEntries(), goodWays()} {
		for _, w := range l {
			if !impl.WordOk(w) {
				t.Errorf("WordOk(%+v) = false", w)
			}
		}
	}
	for _, w := range badWords() {
		if impl.WordOk(w) {
			t.Errorf("WordOk(%+v) = true", w)
		}
	}
}

// okByRule is the document's WordOk, clause by clause.
func okByRule(w impl.Word) bool {
	if !w.Tag {
		return w.N >= -1<<31 && w.N < 1<<31 && w.Lo == 0 && w.Hi == 0 && w.At == 0 && w.Perm == 0 && w.Seal == 0
	}
	if w.N != 0 || w.Perm < 0 || w.Perm > 31 {
		return false
	}
	if w.Seal != 0 {
		return w.Seal >= 1 && w.Seal <= 8 && w.Lo == 0 && w.Hi == 0 && w.At >= 0 && w.At <= 4000 && (w.Perm == 0 || w.Perm == 16)
	}
	return 0 <= w.Lo && w.Lo <= w.Hi && w.Hi <= 4000 && w.At >= -4000 && w.At <= 8000
}

// gridWords: every field at and just past its edges, in all mixtures.
func gridWords(each func(impl.Word)) {
	ends := []int{-1, 0, 1, 3999, 4000, 4001}
	for _, tag := range []bool{false, true} {
		for _, n := range []int{0, 1, 1<<31 - 1, 1 << 31} {
			for _, lo := range ends {
				for _, hi := range ends {
					for _, at := range []int{-4001, -4000, -1, 0, 4000, 4001, 8000, 8001} {
						for _, perm := range []int{-1, 0, 1, 15, 16, 17, 31, 32} {
							for _, seal := range []int{-1, 0, 1, 8, 9} {
								each(impl.Word{Tag: tag, N: n, Lo: lo, Hi: hi, At: at, Perm: perm, Seal: seal})
							}
						}
					}
				}
			}
		}
	}
}

func TestWordOkByRule(t *testing.T) {
	gridWords(func(w impl.Word) {
		if got, want := impl.WordOk(w), okByRule(w); got != want {
			t.Fatalf("WordOk(%+v) = %v; want %v", w, got, want)
		}
	})
}

// wayByRule: a way that is WordOk, in the document's words.
func wayByRule(w impl.Word) bool { return okByRule(w) && w.Tag && w.Seal == 0 }

func withinByRule(a, b impl.Word) bool {
	return wayByRule(a) && wayByRule(b) && a.Lo >= b.Lo && a.Hi <= b.Hi && a.Perm|b.Perm == b.Perm
}

func TestWithin(t *testing.T) {
	b := way(10, 20, 12, impl.CanLoad|impl.CanStore)
	for _, c := range []struct {
		a    impl.Word
		want bool
	}{
		{b, true},
		{way(10, 20, -4000, impl.CanLoad|impl.CanStore), true},
		{way(10, 20, 8000, 0), true},
		{way(11, 19, 12, impl.CanStore), true},
		{way(10, 10, 10, 0), true},
		{way(20, 20, 20, impl.CanLoad), true},
		{way(9, 20, 12, impl.CanLoad), false},
		{way(10, 21, 12, impl.CanLoad), false},
		{way(9, 9, 12, impl.CanLoad), false},
		{way(21, 21, 12, impl.CanLoad), false},
		{way(10, 20, 12, impl.CanLoad|impl.CanGo), false},
		{way(11, 12, 12, impl.CanCaps), false},
		{way(11, 12, 12, impl.CanLocal), false},
		{way(11, 12, 12, allPerms), false},
		{way(12, 11, 12, 0), false},
		{way(11, 12, 8001, 0), false},
		{entry(1, 12, 0), false},
		{impl.Word{}, false},
		{impl.Word{N: 12}, false},
	} {
		if got := impl.Within(c.a, b); got != c.want {
			t.Errorf("Within(%+v, %+v) = %v", c.a, b, got)
		}
	}
}

func TestWithinByRule(t *testing.T) {
	all := append(append(goodInts(), goodEntries()...), badWords()...)
	for i, w := range goodWays() {
		if i%7 == 0 {
			all = append(all, w)
		}
	}
	for _, a := range all {
		for _, b := range all {
			if got, want := impl.Within(a, b), withinByRule(a, b); got != want {
				t.Fatalf("Within(%+v, %+v) = %v; want %v", a, b, got, want)
			}
		}
	}
}

func TestNarrow(t *testing.T) {
	w := way(10, 20, 15, impl.CanLoad|impl.CanCaps|impl.CanGo)
	for _, c := range []struct{ lo, hi, perm, want int }{
		{10, 20, 31, 21},
		{10, 20, 0, 0},
		{11, 15, impl.CanLoad | impl.CanStore, impl.CanLoad},
		{10, 10, impl.CanGo, impl.CanGo},
		{20, 20, impl.CanCaps, impl.CanCaps},
		{19, 20, impl.CanStore | impl.CanLocal, 0},
		{12, 13, 32, 0},
		{12, 13, 32 + 1, 1},
		{12, 13, math.MaxInt, 21},
		{12, 13, -1, 21},
		{12, 13, -2, 20},
		{12, 13, math.MinInt, 0},
	} {
		got, ok := impl.Narrow(w, c.lo, c.hi, c.perm)
		if want := way(c.lo, c.hi, c.lo, c.want); !ok || got != want {
			t.Errorf("Narrow(%+v, %d, %d, %d) = %+v, %v; want %+v", w, c.lo, c.hi, c.perm, got, ok, want)
		}
	}
	whole := way(0, 4000, 8000, allPerms)
	if got, ok := impl.Narrow(whole, 4000, 4000, 31); !ok || got != way(4000, 4000, 4000, 31) {
		t.Error(got, ok)
	}
}

func TestNarrowRefuses(t *testing.T) {
	w := way(10, 20, 15, allPerms)
	for _, c := range [][2]int{
		{9, 20}, {10, 21}, {9, 21}, {16, 15}, {20, 10}, {21, 21}, {9, 9}, {21, 20},
		{-1, 20}, {math.MinInt, 20}, {10, math.MaxInt}, {math.MaxInt, 20}, {10, math.MinInt}, {math.MinInt, math.MaxInt},
	} {
		got, ok := impl.Narrow(w, c[0], c[1], allPerms)
		wantNoWord(t, "Narrow", got, ok)
	}
	for _, l := range [][]impl.Word{goodInts(), goodEntries(), badWords()} {
		for _, x := range l {
			got, ok := impl.Narrow(x, x.Lo, x.Hi, x.Perm)
			wantNoWord(t, "Narrow", got, ok)
			got, ok = impl.Narrow(x, 0, 0, 0)
			wantNoWord(t, "Narrow", got, ok)
		}
	}
}

func TestShift(t *testing.T) {
	for _, c := range []struct{ at, by int }{
		{12, 0}, {12, 1}, {12, -100}, {12, -4012}, {12, 7988}, {0, 8000}, {0, -4000},
		{-4000, 8000}, {-4000, 0}, {8000, -8000}, {8000, 0}, {4000, -8000}, {7999, 1}, {-3999, -1},
	} {
		w := way(10, 20, c.at, impl.CanLoad)
		if got, ok := impl.Shift(w, c.by); !ok || got != way(10, 20, c.at+c.by, impl.CanLoad) {
			t.Errorf("Shift(%+v, %d) = %+v, %v", w, c.by, got, ok)
		}
	}
}

func TestShiftRefuses(t *testing.T) {
	for _, c := range []struct{ at, by int }{
		{12, -4013}, {12, 7989}, {0, 8001}, {0, -4001}, {8000, 1}, {-4000, -1},
		{-4000, 8001}, {-4000, 12000}, {8000, -8001}, {8000, -12000}, {4000, -8001},
		{1, math.MaxInt}, {-1, math.MinInt}, {8000, math.MaxInt}, {-4000, math.MinInt}, {0, math.MinInt},
	} {
		got, ok := impl.Shift(way(10, 20, c.at, impl.CanLoad), c.by)
		wantNoWord(t, "Shift", got, ok)
	}
	for _, l := range [][]impl.Word{goodInts(), goodEntries(), badWords()} {
		for _, x := range l {
			for _, by := range []int{0, 1, -1, 8000, -8000} {
				got, ok := impl.Shift(x, by)
				wantNoWord(t, "Shift", got, ok)
			}
		}
	}
}

func TestEntry(t *testing.T) {
	for mod := 0; mod < 8; mod++ {
		for _, at := range []int{0, 1, 7, 3999, 4000} {
			got, ok := impl.Entry(mod, at)
			if !ok || got != entry(mod+1, at, 16) || !impl.WordOk(got) {
				t.Errorf("Entry(%d, %d) = %+v, %v", mod, at, got, ok)
			}
		}
	}
	for _, c := range [][2]int{
		{-1, 0}, {8, 0}, {9, 0}, {math.MaxInt, 0}, {math.MinInt, 0},
		{0, -1}, {0, 4001}, {7, 4001}, {0, math.MaxInt}, {0, math.MinInt}, {8, 4001}, {-1, -1},
	} {
		got, ok := impl.Entry(c[0], c[1])
		wantNoWord(t, "Entry", got, ok)
	}
}

// What is made of a way is within it, and so is what is made of that.
func TestOutOfAWay(t *testing.T) {
	for _, w := range goodWays() {
		made := []impl.Word{w}
		for _, lo := range []int{w.Lo - 1, w.Lo, w.Lo + 1, w.Hi - 1, w.Hi, w.Hi + 1} {
			for _, hi := range []int{w.Lo - 1, w.Lo, w.Hi - 1, w.Hi, w.Hi + 1} {
				x, ok := impl.Narrow(w, lo, hi, ^w.Perm|5)
				if want := w.Lo <= lo && lo <= hi && hi <= w.Hi; ok != want {
					t.Fatalf("Narrow(%+v, %d, %d) tells %v", w, lo, hi, ok)
				}
				if ok {
					made = append(made, x)
				}
			}
		}
		for _, x := range made {
			for _, by := range []int{-8000, -4000, -1, 0, 1, 4000, 8000} {
				y, ok := impl.Shift(x, by)
				if want := x.At+by >= lowestAt && x.At+by <= topAt; ok != want {
					t.Fatalf("Shift(%+v, %d) tells %v", x, by, ok)
				}
				if ok && (!impl.WordOk(y) || !impl.Within(y, x) || !withinByRule(y, w)) {
					t.Fatalf("Shift(%+v, %d) = %+v, out of %+v", x, by, y, w)
				}
			}
			if !impl.WordOk(x) || !impl.Within(x, w) || !withinByRule(x, w) {
				t.Fatalf("%+v out of %+v", x, w)
			}
		}
	}
}
