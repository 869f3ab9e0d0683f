package tests

import (
	"fmt"
	"math"
	"slices"
	"testing"

	"loop.example/g00335/impl"
)

const loadStore = impl.CanLoad | impl.CanStore

func memory(words ...impl.Word) impl.Memory { return impl.Memory{Words: words} }

func zeroMemory(n int) impl.Memory { return impl.Memory{Words: make([]impl.Word, n)} }

// mixedMemory: six words, of each kind one at least, all of its ways within it.
func mixedMemory() impl.Memory {
	return memory(
		impl.Word{N: -7},
		way(0, 6, 0, allPerms),
		entry(1, 3, impl.CanGo),
		impl.Word{},
		way(2, 4, 3, loadStore),
		entry(8, 4000, 0),
	)
}

func sameMemory(a, b impl.Memory) bool { return slices.Equal(a.Words, b.Words) }

// badMemories: each may not be, for one reason.
func badMemories() []impl.Memory {
	all := []impl.Memory{
		zeroMemory(4001),
		zeroMemory(5000),
		memory(way(0, 2, 0, 1)),
		memory(way(2, 2, 0, 0)),
		memory(impl.Word{}, way(0, 3, 0, 1)),
		memory(way(3, 3, 0, 1), impl.Word{}),
		memory(impl.Word{}, impl.Word{}, way(0, 4000, 0, 1)),
	}
	long := zeroMemory(3999)
	long.Words[3998] = way(4000, 4000, 0, 0)
	all = append(all, long)
	for _, w := range badWords() {
		first, last := zeroMemory(30), zeroMemory(30)
		first.Words[0], last.Words[29] = w, w
		all = append(all, first, last, memory(w))
	}
	return all
}

func TestTrapCodes(t *testing.T) {
	got := [12]int{
		impl.TrapNone, impl.TrapTag, impl.TrapBound, impl.TrapPerm, impl.TrapIns, impl.TrapIndex,
		impl.TrapZero, impl.TrapStack, impl.TrapInt, impl.TrapJump, impl.TrapArg, impl.TrapUser,
	}
	if got != [12]int{0, 1, 2, 3, 4, 5, 6, 7, 8, 9, 10, 11} {
		t.Fatal(got)
	}
}

func TestMemoryOk(t *testing.T) {
	full := zeroMemory(4000)
	full.Words[3999] = way(0, 4000, 8000, allPerms)
	good := []impl.Memory{
		{},
		{Words: []impl.Word{}},
		memory(way(0, 1, 0, 1)),
		memory(way(0, 0, 8000, 1)),
		memory(impl.Word{}, way(2, 2, -4000, 1)),
		memory(entry(8, 4000, impl.CanGo)),
		mixedMemory(),
		zeroMemory(4000),
		full,
	}
	for i, m := range good {
		if !impl.MemoryOk(m) {
			t.Errorf("good memory %d is refused", i)
		}
	}
	for i, m := range badMemories() {
		if impl.MemoryOk(m) {
			t.Errorf("bad memory %d is taken", i)
		}
	}
}

// What lies behind a list's length plays no part.
func TestMemoryBehindItsLength(t *testing.T) {
	words := []impl.Word{{N: 1}, {N: 2}, way(0, 9, 0, 99), {N: 1 << 40}}
	m := impl.Memory{Words: words[:2]}
	if !impl.MemoryOk(m) {
		t.Error("MemoryOk reads behind the length")
	}
	w := way(0, 4, 0, allPerms)
	if v, trap := impl.Load(m, w, 1); v != (impl.Word{N: 2}) || trap != impl.TrapNone {
		t.Error(v, trap)
	}
	if v, trap := impl.Load(m, w, 2); v != (impl.Word{}) || trap != impl.TrapBound {
		t.Error(v, trap)
	}
	kept := slices.Clone(words)
	if got, trap := impl.Store(m, w, 2, impl.Word{N: 5}); trap != impl.TrapBound || !sameMemory(got, m) {
		t.Error(got, trap)
	}
	if got, ok := impl.Clear(m, 0, 3); ok || len(got.Words) != 0 {
		t.Error(got, ok)
	}
	impl.Store(m, w, 1, impl.Word{N: 5})
	impl.Clear(m, 0, 2)
	if !slices.Equal(words, kept) {
		t.Error("written behind the length", words)
	}
}

// loadByRule and storeByRule are the document's Load and Store, clause by
// clause, for numbers at which At + by does not go round.
func boundByRule(m impl.Memory, w impl.Word, by int) bool {
	p := w.At + by
	return p < w.Lo || p > w.Hi-1 || p >= len(m.Words)
}

func lacks(w impl.Word, perm int) bool { return w.Perm&perm == 0 }

func loadByRule(m impl.Memory, w impl.Word, by int) (impl.Word, int) {
	switch {
	case !impl.MemoryOk(m) || !wayByRule(w):
		return impl.Word{}, impl.TrapTag
	case lacks(w, 1):
		return impl.Word{}, impl.TrapPerm
	case boundByRule(m, w, by):
		return impl.Word{}, impl.TrapBound
	case m.Words[w.At+by].Tag && lacks(w, 4):
		return impl.Word{}, impl.TrapPerm
	}
	return m.Words[w.At+by], impl.TrapNone
}

func storeByRule(m impl.Memory, w impl.Word, by int, v impl.Word) (impl.Memory, int) {
	switch {
	case !impl.MemoryOk(m) || !okByRule(w) || !okByRule(v):
		return impl.Memory{}, impl.TrapTag
	case !wayByRule(w):
		return m, impl.TrapTag
	case lacks(w, 2):
		return m, impl.TrapPerm
	case boundByRule(m, w, by):
		return m, impl.TrapBound
	case v.Tag && (lacks(w, 4) || lacks(v, 16) && lacks(w, 8)):
		return m, impl.TrapPerm
	}
	words := slices.Clone(m.Words)
	words[w.At+by] = v
	return impl.Memory{Words: words}, impl.TrapNone
}

func wantLoad(t *testing.T, m impl.Memory, w impl.Word, by int, v impl.Word, trap int) {
	t.Helper()
	if got, gotTrap := impl.Load(m, w, by); got != v || gotTrap != trap {
		t.Errorf("Load(.., %+v, %d) = %+v, %d; want %+v, %d", w, by, got, gotTrap, v, trap)
	}
}

func wantStore(t *testing.T, m impl.Memory, w impl.Word, by int, v impl.Word, want impl.Memory, trap int) {
	t.Helper()
	kept := slices.Clone(m.Words)
	got, gotTrap := impl.Store(m, w, by, v)
	if !sameMemory(got, want) || gotTrap != trap {
		t.Errorf("Store(.., %+v, %d, %+v) = %v, %d; want %v, %d", w, by, v, got.Words, gotTrap, want.Words, trap)
	}
	if !slices.Equal(m.Words, kept) {
		t.Errorf("Store(.., %+v, %d, %+v) wrote into its argument", w, by, v)
	}
	wantApart(t, got, m)
}

// wantApart: what is written into an answer is not seen in the argument.
func wantApart(t *testing.T, answer, argument impl.Memory) {
	t.Helper()
	if len(answer.Words) == 0 || len(argument.Words) == 0 {
		return
	}
	kept := slices.Clone(argument.Words)
	for i := range answer.Words {
		answer.Words[i] = impl.Word{N: 123456 + i}
	}
	if !slices.Equal(argument.Words, kept) {
		t.Errorf("the answer shares memory with the argument")
	}
}

func TestLoad(t *testing.T) {
	m := mixedMemory()
	all := way(0, 6, 0, impl.CanLoad|impl.CanCaps)
	for i, v := range m.Words {
		wantLoad(t, m, all, i, v, impl.TrapNone)
		wantLoad(t, m, way(i, i+1, i, impl.CanLoad|impl.CanCaps), 0, v, impl.TrapNone)
		wantLoad(t, m, way(i, i+1, -4000, impl.CanLoad|impl.CanCaps), 4000+i, v, impl.TrapNone)
		wantLoad(t, m, way(i, i+1, 8000, impl.CanLoad|impl.CanCaps), i-8000, v, impl.TrapNone)
		trap := impl.TrapNone
		if v.Tag {
			v, trap = impl.Word{}, impl.TrapPerm
		}
		wantLoad(t, m, way(0, 6, 0, allPerms-impl.CanCaps), i, v, trap)
		wantLoad(t, m, way(0, 6, 0, impl.CanLoad), i, v, trap)
		wantLoad(t, m, way(0, 6, 0, allPerms-impl.CanLoad), i, impl.Word{}, impl.TrapPerm)
	}
	last := zeroMemory(4000)
	last.Words[3999] = impl.Word{N: 9}
	wantLoad(t, last, way(0, 4000, 0, 1), 3999, impl.Word{N: 9}, impl.TrapNone)
	wantLoad(t, last, way(0, 4000, 0, 1), 4000, impl.Word{}, impl.TrapBound)
}

func TestLoadBound(t *testing.T) {
	m := memory(impl.Word{N: 10}, impl.Word{N: 11}, impl.Word{N: 12}, impl.Word{N: 13}, impl.Word{N: 14})
	for _, c := range []struct {
		lo, hi, at, by, n, trap int
	}{
		{1, 4, 2, -1, 11, impl.TrapNone},
		{1, 4, 2, -2, 0, impl.TrapBound},
		{1, 4, 2, 1, 13, impl.TrapNone},
		{1, 4, 2, 2, 0, impl.TrapBound},
		{2, 2, 2, 0, 0, impl.TrapBound},
		{2, 2, 2, -1, 0, impl.TrapBound},
		{5, 5, 5, 0, 0, impl.TrapBound},
		{0, 5, 5, -1, 14, impl.TrapNone},
		{0, 5, 5, 0, 0, impl.TrapBound},
		{0, 5, 0, -1, 0, impl.TrapBound},
		// The way leads further than memory goes.
		{0, 6, 0, 4, 14, impl.TrapNone},
		{0, 6, 0, 5, 0, impl.TrapBound},
		{4, 4000, 4000, -3996, 14, impl.TrapNone},
		{4, 4000, 4000, -3995, 0, impl.TrapBound},
		{5, 4000, 5, 0, 0, impl.TrapBound},
		// At + by would go round.
		{0, 5, 8000, math.MaxInt, 0, impl.TrapBound},
		{0, 5, 1, math.MaxInt, 0, impl.TrapBound},
		{0, 5, -4000, math.MinInt, 0, impl.TrapBound},
		{0, 5, 0, math.MinInt, 0, impl.TrapBound},
		{0, 5, 2, 1 << 32, 0, impl.TrapBound},
		{0, 5, 2, -1 << 32, 0, impl.TrapBound},
	} {
		w := way(c.lo, c.hi, c.at, loadStore)
		wantLoad(t, m, w, c.by, impl.Word{N: c.n}, c.trap)
		want := impl.Memory{Words: slices.Clone(m.Words)}
		if c.trap == impl.TrapNone {
			want.Words[c.at+c.by] = impl.Word{N: 99}
		}
		wantStore(t, m, w, c.by, impl.Word{N: 99}, want, c.trap)
	}
}

func TestNoWordsAtAll(t *testing.T) {
	for _, m := range []impl.Memory{{}, {Words: []impl.Word{}}} {
		for _, hi := range []int{0, 1, 4000} {
			w := way(0, hi, 0, allPerms)
			wantLoad(t, m, w, 0, impl.Word{}, impl.TrapBound)
			wantStore(t, m, w, 0, impl.Word{N: 1}, impl.Memory{}, impl.TrapBound)
		}
		wantLoad(t, m, impl.Word{}, 0, impl.Word{}, impl.TrapTag)
		wantStore(t, m, impl.Word{}, 0, impl.Word{}, impl.Memory{}, impl.TrapTag)
		wantLoad(t, m, way(0, 0, 0, 0), 0, impl.Word{}, impl.TrapPerm)
		wantStore(t, m, way(0, 0, 0, 0), 0, impl.Word{}, impl.Memory{}, impl.TrapPerm)
		if got, ok := impl.Clear(m, 0, 0); !ok || len(got.Words) != 0 {
			t.Error(got, ok)
		}
		if got, ok := impl.Clear(m, 0, 1); ok || len(got.Words) != 0 {
			t.Error(got, ok)
		}
	}
}

// Of several traps that hold at once the first one counts.
func TestLoadTrapsInOrder(t *testing.T) {
	m := mixedMemory()
	for _, w := range slices.Concat(goodInts(), goodEntries(), badWords()) {
		wantLoad(t, m, w, 0, impl.Word{}, impl.TrapTag)
		wantLoad(t, m, w, 9999, impl.Word{}, impl.TrapTag)
	}
	for i, bad := range badMemories() {
		if v, trap := impl.Load(bad, way(0, 1, 0, 0), 9); v != (impl.Word{}) || trap != impl.TrapTag {
			t.Errorf("bad memory %d: %+v, %d", i, v, trap)
		}
		if v, trap := impl.Load(bad, way(0, 1, 0, allPerms), 0); v != (impl.Word{}) || trap != impl.TrapTag {
			t.Errorf("bad memory %d: %+v, %d", i, v, trap)
		}
	}
	wantLoad(t, m, way(0, 6, 0, 0), 6, impl.Word{}, impl.TrapPerm)
	wantLoad(t, m, way(0, 6, 0, allPerms-impl.CanLoad), -1, impl.Word{}, impl.TrapPerm)
	wantLoad(t, m, way(0, 1, 0, impl.CanLoad), 1, impl.Word{}, impl.TrapBound)
	wantLoad(t, m, way(2, 6, 0, impl.CanLoad), 1, impl.Word{}, impl.TrapBound)
	wantLoad(t, m, way(0, 2, 0, impl.CanLoad), 1, impl.Word{}, impl.TrapPerm)
}

func TestStoreTrapsInOrder(t *testing.T) {
	m := mixedMemory()
	one := impl.Word{N: 1}
	local := way(0, 1, 0, 0)
	for _, w := range badWords() {
		wantStore(t, m, w, 0, one, impl.Memory{}, impl.TrapTag)
		wantStore(t, m, way(0, 6, 0, allPerms), 0, w, impl.Memory{}, impl.TrapTag)
		wantStore(t, m, way(0, 6, 0, 0), 9, w, impl.Memory{}, impl.TrapTag)
		wantStore(t, m, impl.Word{}, 0, w, impl.Memory{}, impl.TrapTag)
	}
	for _, w := range slices.Concat(goodInts(), goodEntries()) {
		wantStore(t, m, w, 0, one, m, impl.TrapTag)
		wantStore(t, m, w, 9999, local, m, impl.TrapTag)
	}
	for i, bad := range badMemories() {
		for _, w := range []impl.Word{way(0, 1, 0, allPerms), way(0, 1, 9, 0), {}} {
			if got, trap := impl.Store(bad, w, 0, one); len(got.Words) != 0 || trap != impl.TrapTag {
				t.Errorf("bad memory %d: %d words, %d", i, len(got.Words), trap)
			}
		}
	}
	wantStore(t, m, way(0, 6, 0, allPerms-impl.CanStore), 6, one, m, impl.TrapPerm)
	wantStore(t, m, way(0, 6, 0, 0), -1, local, m, impl.TrapPerm)
	wantStore(t, m, way(0, 6, 0, impl.CanStore), 6, local, m, impl.TrapBound)
	wantStore(t, m, way(0, 6, 0, impl.CanStore), 5, local, m, impl.TrapPerm)
}

// Which permissions are asked for, of all that there are.
func TestStorePermissions(t *testing.T) {
	m := mixedMemory()
	for perm := 0; perm <= allPerms; perm++ {
		w := way(0, 6, 2, perm)
		for _, c := range []struct {
			v    impl.Word
			asks int
		}{
			{impl.Word{}, 2},
			{impl.Word{N: -1 << 31}, 2},
			{entry(1, 0, impl.CanGo), 2 + 4},
			{entry(1, 0, 0), 2 + 4 + 8},
			{way(0, 6, 0, impl.CanGo), 2 + 4},
			{way(0, 6, 0, allPerms), 2 + 4},
			{way(0, 6, 0, 0), 2 + 4 + 8},
			{way(0, 6, 0, allPerms-impl.CanGo), 2 + 4 + 8},
		} {
			want, trap := impl.Memory{Words: slices.Clone(m.Words)}, impl.TrapPerm
			if perm&c.asks == c.asks {
				want.Words[3], trap = c.v, impl.TrapNone
			}
			wantStore(t, m, w, 1, c.v, want, trap)
		}
	}
}

// The chapter asks of v that it is WordOk, not that it lies within memory.
func TestStoreOfAWayThatLeadsFurther(t *testing.T) {
	m, far := zeroMemory(3), way(0, 4, 0, allPerms)
	got, trap := impl.Store(m, way(0, 3, 0, allPerms), 1, far)
	if trap != impl.TrapNone || !sameMemory(got, memory(impl.Word{}, far, impl.Word{})) {
		t.Fatal(got, trap)
	}
	if impl.MemoryOk(got) {
		t.Error("a way in memory leads past its end")
	}
}

func sampleWords() []impl.Word {
	all := slices.Concat(goodInts(), goodEntries()[:4], badWords()[:20])
	for _, ends := range [][2]int{{0, 0}, {0, 6}, {0, 7}, {1, 3}, {3, 3}, {5, 6}, {6, 6}} {
		for _, at := range []int{-4000, -1, 0, 2, 5, 6, 8000} {
			for perm := 0; perm <= allPerms; perm++ {
				all = append(all, way(ends[0], ends[1], at, perm))
			}
		}
	}
	return all
}

// Nothing changes but the one word, whatever is stored through whatever.
func TestLoadAndStoreByRule(t *testing.T) {
	m := mixedMemory()
	values := []impl.Word{{}, {N: 5}, {N: 1 << 31}, entry(2, 1, 0), entry(2, 1, 16), way(0, 6, 1, 15), way(1, 2, 1, 16), way(0, 6, 1, 32)}
	for _, w := range sampleWords() {
		for _, by := range []int{-8000, -7995, -6, -1, 0, 1, 2, 3, 5, 6, 4000, 4002, 4005, 4006} {
			v, trap := loadByRule(m, w, by)
			wantLoad(t, m, w, by, v, trap)
			for _, v := range values {
				want, trap := storeByRule(m, w, by, v)
				wantStore(t, m, w, by, v, want, trap)
			}
		}
	}
}

func TestWhatIsStoredIsLoaded(t *testing.T) {
	w := way(0, 6, 0, allPerms)
	m := mixedMemory()
	for _, v := range slices.Concat(goodInts(), goodEntries(), []impl.Word{way(0, 6, 8000, 0), way(6, 6, -4000, 31)}) {
		for by := range m.Words {
			got, trap := impl.Store(m, w, by, v)
			if trap != impl.TrapNone {
				t.Fatalf("Store(.., %+v) = .., %d", v, trap)
			}
			wantLoad(t, got, w, by, v, impl.TrapNone)
			for other, kept := range m.Words {
				if other != by {
					wantLoad(t, got, w, other, kept, impl.TrapNone)
				}
			}
		}
	}
}

func TestClear(t *testing.T) {
	m := mixedMemory()
	for lo := -1; lo <= 7; lo++ {
		for hi := -1; hi <= 7; hi++ {
			name := fmt.Sprintf("Clear(.., %d, %d)", lo, hi)
			got, ok := impl.Clear(m, lo, hi)
			if !sameMemory(m, mixedMemory()) {
				t.Fatal(name, "wrote into its argument")
			}
			if want := 0 <= lo && lo <= hi && hi <= 6; ok != want {
				t.Fatal(name, "tells", ok)
			}
			if !ok {
				if len(got.Words) != 0 {
					t.Error(name, "has words")
				}
				continue
			}
			want := mixedMemory()
			for i := lo; i < hi; i++ {
				want.Words[i] = impl.Word{}
			}
			if !sameMemory(got, want) {
				t.Error(name, got)
			}
			wantApart(t, got, m)
		}
	}
	full := impl.Memory{Words: slices.Repeat([]impl.Word{{N: 3}}, 4000)}
	if got, ok := impl.Clear(full, 0, 4000); !ok || !sameMemory(got, zeroMemory(4000)) {
		t.Error("the greatest memory is not cleared", ok)
	}
}

func TestClearRefuses(t *testing.T) {
	m := mixedMemory()
	for _, c := range [][2]int{
		{math.MinInt, 6}, {0, math.MaxInt}, {math.MinInt, math.MaxInt}, {math.MaxInt, math.MinInt},
		{math.MaxInt, math.MaxInt}, {math.MinInt, math.MinInt}, {4, 3}, {6, 0}, {7, 7}, {-1, -1},
	} {
		if got, ok := impl.Clear(m, c[0], c[1]); ok || len(got.Words) != 0 {
			t.Errorf("Clear(.., %d, %d) = %v, %v", c[0], c[1], got, ok)
		}
	}
	for i, bad := range badMemories() {
		for _, hi := range []int{0, 1, len(bad.Words)} {
			if got, ok := impl.Clear(bad, 0, hi); ok || len(got.Words) != 0 {
				t.Errorf("bad memory %d is cleared to %d", i, hi)
			}
		}
	}
}

// Of no call anything is kept: the same is answered a second time.
func TestMemoryTwice(t *testing.T) {
	m, w := mixedMemory(), way(0, 6, 0, allPerms)
	first, _ := impl.Store(m, w, 0, impl.Word{N: 1})
	second, _ := impl.Store(m, w, 0, impl.Word{N: 2})
	third, _ := impl.Clear(m, 0, 6)
	wantLoad(t, first, w, 0, impl.Word{N: 1}, impl.TrapNone)
	wantLoad(t, second, w, 0, impl.Word{N: 2}, impl.TrapNone)
	wantLoad(t, third, w, 0, impl.Word{}, impl.TrapNone)
	wantLoad(t, m, w, 0, impl.Word{N: -7}, impl.TrapNone)
}
