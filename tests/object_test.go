package tests

import (
	"bytes"
	"math"
	"slices"
	"strings"
	"testing"

	"loop.example/g00335/impl"
)

// objectForms: objects with their bytes, written out by hand.
var objectForms = []struct {
	o     impl.Object
	bytes string
}{
	{impl.Object{Name: []byte("A")}, "BH\x01A\x00\x00\x00\x00"},
	{impl.Object{Name: []byte("Zz09abcd"), Data: impl.MaxData}, "BH\x08Zz09abcd\x00\x00\xc8\x01\x00"},
	{impl.Object{Name: []byte("A"), Exports: exports("p", "q9")}, "BH\x01A\x02\x01p\x00\x00\x02q9\x01\x02\x00\x00\x00"},
	{impl.Object{Name: []byte("A"), Imports: imports("p", "p", "q")}, "BH\x01A\x00\x03\x01M\x01p\x00\x01M\x01p\x01\x01M\x01q\x02\x00\x00"},
	{
		impl.Object{Name: []byte("A"), Exports: []impl.Export{{Name: []byte("p"), Print: impl.MaxNum, At: impl.MaxWords}}},
		"BH\x01A\x01\x01p\xff\xff\xff\xff\x07\xa0\x1f\x00\x00\x00",
	},
	{
		impl.Object{Name: []byte("A"), Imports: []impl.Import{{Mod: []byte("Zz12"), Name: []byte("z21"), Print: impl.MaxNum}}},
		"BH\x01A\x00\x01\x04Zz12\x03z21\xff\xff\xff\xff\x07\x00\x00",
	},
	{impl.Object{Name: []byte("A"), Code: []byte{0, 255, 128}}, "BH\x01A\x00\x00\x00\x03\x00\xff\x80"},
	{
		impl.Object{Name: []byte("Main"), Exports: exports("main"), Imports: imports("read"), Data: 7, Code: []byte("BH")},
		"BH\x04Main\x01\x04main\x00\x00\x01\x01M\x04read\x00\x07\x02BH",
	},
}

// exports have these names; Print and At are unlike each other, so that one
// in the other's place is seen.
func exports(names ...string) []impl.Export {
	var l []impl.Export
	for i, name := range names {
		l = append(l, impl.Export{Name: []byte(name), Print: i, At: 2 * i})
	}
	return l
}

func imports(names ...string) []impl.Import {
	var l []impl.Import
	for i, name := range names {
		l = append(l, impl.Import{Mod: []byte("M"), Name: []byte(name), Print: i})
	}
	return l
}

// named are so many names, all unlike.
func named(count int) []string {
	var l []string
	for i := range count {
		l = append(l, string([]byte{byte('a' + i), byte('0' + i%10)}))
	}
	return l
}

// fullObject has as much of everything as may be.
func fullObject() impl.Object {
	o := impl.Object{Name: []byte("Abcdefg9"), Data: impl.MaxData, Code: bytes.Repeat([]byte{200, 0, 7}, impl.MaxCode/3)}
	for _, name := range named(impl.MaxExports) {
		o.Exports = append(o.Exports, impl.Export{Name: []byte(name + "xxxxxx"), Print: impl.MaxNum, At: impl.MaxWords})
	}
	for range impl.MaxImports {
		o.Imports = append(o.Imports, impl.Import{Mod: []byte("Zzzzzzz0"), Name: []byte("zzzzzzz0"), Print: impl.MaxNum})
	}
	return o
}

// plainObject has something of everything.
func plainObject() impl.Object {
	return impl.Object{Name: []byte("Ab"), Exports: exports("p", "q"), Imports: imports("r", "s"), Data: 3, Code: []byte{1, 2, 3}}
}

func sameObject(a, b impl.Object) bool {
	return bytes.Equal(a.Name, b.Name) && a.Data == b.Data && bytes.Equal(a.Code, b.Code) &&
		slices.EqualFunc(a.Exports, b.Exports, func(x, y impl.Export) bool {
			return bytes.Equal(x.Name, y.Name) && x.Print == y.Print && x.At == y.At
		}) &&
		slices.EqualFunc(a.Imports, b.Imports, func(x, y impl.Import) bool {
			return bytes.Equal(x.Mod, y.Mod) && bytes.Equal(x.Name, y.Name) && x.Print == y.Print
		})
}

func isZeroObject(o impl.Object) bool { return sameObject(o, impl.Object{}) }

// num and text write whatever they are given, by rules of their own.
func num(n int) []byte {
	var b []byte
	for n > 127 {
		b = append(b, byte(n&127|128))
		n >>= 7
	}
	return append(b, byte(n))
}

func text(t []byte) []byte { return join(num(len(t)), t) }

// raw writes o whether or not it may be.
func raw(o impl.Object) []byte {
	b := join([]byte("BH"), text(o.Name), num(len(o.Exports)))
	for _, e := range o.Exports {
		b = join(b, text(e.Name), num(e.Print), num(e.At))
	}
	b = join(b, num(len(o.Imports)))
	for _, im := range o.Imports {
		b = join(b, text(im.Mod), text(im.Name), num(im.Print))
	}
	return join(b, num(o.Data), num(len(o.Code)), o.Code)
}

func wantObject(t *testing.T, what string, o impl.Object) {
	t.Helper()
	if !impl.ObjectOk(o) {
		t.Errorf("%q: not ObjectOk", what)
	}
	b, ok := impl.ObjectBytes(o)
	if !ok || !bytes.Equal(b, raw(o)) {
		t.Errorf("%q: ObjectBytes = %.60q, %v; want %.60q, true", what, b, ok, raw(o))
	}
	if back, ok := impl.ObjectRead(raw(o)); !ok || !sameObject(back, o) {
		t.Errorf("%q: ObjectRead = %v, %v", what, back, ok)
	}
}

// wantNoObject wants the bytes of o to be refused as well as o.
func wantNoObject(t *testing.T, what string, o impl.Object) {
	t.Helper()
	if impl.ObjectOk(o) {
		t.Errorf("%q: ObjectOk", what)
	}
	if b, ok := impl.ObjectBytes(o); ok || len(b) != 0 {
		t.Errorf("%q: ObjectBytes = %.60q, %v; want nothing, false", what, b, ok)
	}
	wantUnread(t, what, raw(o))
}

func wantUnread(t *testing.T, what string, b []byte) {
	t.Helper()
	if o, ok := impl.ObjectRead(b); ok || !isZeroObject(o) {
		t.Errorf("%q: ObjectRead(%.60q) = %v, %v; want the zero value, false", what, b, o, ok)
	}
}

// goodSmall and goodGreat: names that may be; badSmall and badGreat: texts
// that are no small name, no great one.
var goodSmall = []string{"a", "z", "a0", "a9", "za", "zz", "abcdefgh", "a1234567", "abcdefg9"}
var goodGreat = []string{"A", "Z", "A0", "A9", "Za", "Zz", "Abcdefgh", "A1234567", "Abcdefg9"}
var badSmall = []string{
	"", "0", "9a", "A", "Ab", "`", "{", "_a", " a", "a ", "aB", "aA0", "a_", "a`", "a{", "a/", "a:", "a-b", "a\x00", "\x00", "\xff",
	"a\xff", "\xe1", "a\xe1", "abcdefghi", "abcdefgH", "abcdefg ", "a.b",
}
var badGreat = []string{
	"", "0", "9A", "a", "ab", "@", "[", "_A", " A", "A ", "AB", "AbC", "A_", "A`", "A{", "A/", "A:", "A-b", "A\x00", "\x00", "\xff",
	"A\xff", "\xc1", "A\xe1", "Abcdefghi", "AbcdefgH", "Abcdefg ", "A.b",
}

func TestLimitsOfObjects(t *testing.T) {
	got := []int{impl.MaxExports, impl.MaxImports, impl.MaxData, impl.MaxCode, impl.MaxParams, impl.MaxWord}
	if !slices.Equal(got, []int{8, 8, 200, 9000, 4, 8}) {
		t.Fatal(got)
	}
}

func TestNameOk(t *testing.T) {
	for _, great := range []bool{false, true} {
		good, other, bad := goodSmall, goodGreat, badSmall
		if great {
			good, other, bad = goodGreat, goodSmall, badGreat
		}
		for _, w := range good {
			if !impl.NameOk([]byte(w), great) {
				t.Errorf("NameOk(%q, %v) = false", w, great)
			}
		}
		for _, w := range slices.Concat(other, bad) {
			if impl.NameOk([]byte(w), great) {
				t.Errorf("NameOk(%q, %v) = true", w, great)
			}
		}
		if impl.NameOk(nil, great) {
			t.Errorf("NameOk(nil, %v) = true", great)
		}
	}
}

// TestNameOkOfAllBytes puts each byte ahead, in the middle and at the end.
func TestNameOkOfAllBytes(t *testing.T) {
	const small, great, digits = "abcdefghijklmnopqrstuvwxyz", "ABCDEFGHIJKLMNOPQRSTUVWXYZ", "0123456789"
	for x := range 256 {
		c := string([]byte{byte(x)})
		first := strings.Contains(small, c)
		firstGreat := strings.Contains(great, c)
		later := strings.Contains(small+digits, c)
		asks := []struct {
			w     string
			great bool
			want  bool
		}{
			{c, false, first}, {c, true, firstGreat}, {c + "bc", false, first}, {c + "bc", true, firstGreat},
			{"a" + c, false, later}, {"A" + c, true, later}, {"a" + c + "c", false, later}, {"A" + c + "c", true, later},
			{"abcdefg" + c, false, later}, {"Abcdefg" + c, true, later}, {"abcdefgh" + c, false, false}, {"Abcdefgh" + c, true, false},
		}
		for _, ask := range asks {
			if got := impl.NameOk([]byte(ask.w), ask.great); got != ask.want {
				t.Errorf("NameOk(%q, %v) = %v", ask.w, ask.great, got)
			}
		}
	}
}

func TestNameOkOfLengths(t *testing.T) {
	for count := range 60 {
		want := count >= 1 && count <= 8
		if got := impl.NameOk(bytes.Repeat([]byte("a"), count), false); got != want {
			t.Errorf("NameOk of %d small bytes = %v", count, got)
		}
		if count == 0 {
			continue
		}
		if got := impl.NameOk(join([]byte("A"), bytes.Repeat([]byte("a"), count-1)), true); got != want {
			t.Errorf("NameOk of %d bytes, the first great = %v", count, got)
		}
	}
}

func TestFinger(t *testing.T) {
	// Worked out by hand: 7, then 257 times it and 112 + 1, and so on.
	for _, c := range []struct {
		name  string
		kinds []int
		want  int
	}{
		{"", nil, 7},
		{"p", nil, 1912},
		{"p", []int{0}, 491385},
		{"p", []int{1}, 491386},
		{"", []int{0, 1}, 462602},
		{"", []int{1, 0}, 462858},
	} {
		if got := impl.Finger([]byte(c.name), c.kinds); got != c.want {
			t.Errorf("Finger(%q, %v) = %d; want %d", c.name, c.kinds, got, c.want)
		}
	}
}

func TestFingerByRule(t *testing.T) {
	names := []string{"", "p", "q", "abcdefgh", "Zz", "\x00", "\x01", "\xff\x00", strings.Repeat("long ", 50)}
	lists := [][]int{
		nil, {0}, {1}, {0, 0}, {0, 1}, {1, 0}, {1, 1}, {1, 0, 1, 0}, {-1}, {2}, {256}, {-256}, {1 << 32}, {math.MaxInt}, {math.MinInt},
		{0, 7, 0, -7, 256, 0}, {1, 2, 3, 4, 5, 6, 7, 8, 9}, make([]int, 300),
	}
	for _, name := range names {
		for _, kinds := range lists {
			b := []byte(name)
			for _, kind := range kinds {
				if kind == 0 {
					b = append(b, 0)
				} else {
					b = append(b, 1)
				}
			}
			if got := impl.Finger([]byte(name), kinds); got != sumByRule(b) {
				t.Errorf("Finger(%q, %v) = %d; want %d", name, kinds, got, sumByRule(b))
			}
		}
	}
}

func TestFingerTellsKindsApart(t *testing.T) {
	seen := map[int][]int{}
	for count := range impl.MaxParams + 1 {
		for bits := range 1 << count {
			kinds := make([]int, count)
			for i := range kinds {
				kinds[i] = bits >> i & 1
			}
			print := impl.Finger([]byte("name"), kinds)
			if other, ok := seen[print]; ok {
				t.Errorf("%v and %v have one print", other, kinds)
			}
			seen[print] = kinds
		}
	}
}

func TestObjectForms(t *testing.T) {
	for _, f := range objectForms {
		if !bytes.Equal(raw(f.o), []byte(f.bytes)) {
			t.Fatalf("the test's own writing of %v is %q", f.o, raw(f.o))
		}
		wantObject(t, f.bytes, f.o)
	}
}

// TestOrderOfFields has no two fields alike, so that none stands in another's
// place unseen.
func TestOrderOfFields(t *testing.T) {
	o := impl.Object{
		Name:    []byte("Name"),
		Exports: []impl.Export{{Name: []byte("one"), Print: 11, At: 12}, {Name: []byte("two"), Print: 13, At: 14}},
		Imports: []impl.Import{{Mod: []byte("Mod"), Name: []byte("three"), Print: 15}, {Mod: []byte("Dom"), Name: []byte("four"), Print: 16}},
		Data:    17,
		Code:    []byte("code"),
	}
	want := "BH\x04Name\x02\x03one\x0b\x0c\x03two\x0d\x0e\x02\x03Mod\x05three\x0f\x03Dom\x04four\x10\x11\x04code"
	if b, ok := impl.ObjectBytes(o); !ok || string(b) != want {
		t.Errorf("ObjectBytes = %q, %v", b, ok)
	}
	if back, ok := impl.ObjectRead([]byte(want)); !ok || !sameObject(back, o) {
		t.Errorf("ObjectRead = %v, %v", back, ok)
	}
}

func TestZeroObject(t *testing.T) {
	wantNoObject(t, "the zero value", impl.Object{})
}

func TestNamesInObjects(t *testing.T) {
	for _, w := range goodGreat {
		wantObject(t, "Name "+w, impl.Object{Name: []byte(w)})
		o := plainObject()
		o.Imports[1].Mod = []byte(w)
		wantObject(t, "Mod "+w, o)
	}
	for _, w := range goodSmall {
		o := plainObject()
		o.Exports[1].Name = []byte(w)
		wantObject(t, "an export's Name "+w, o)
		o = plainObject()
		o.Imports[1].Name = []byte(w)
		wantObject(t, "an import's Name "+w, o)
	}
	long := strings.Repeat("a", 40)
	for _, w := range slices.Concat(badGreat, goodSmall, []string{"A" + long, long}) {
		o := plainObject()
		o.Name = []byte(w)
		wantNoObject(t, "Name "+w, o)
		for i := range 2 {
			o = plainObject()
			o.Imports[i].Mod = []byte(w)
			wantNoObject(t, "Mod "+w, o)
		}
	}
	for _, w := range slices.Concat(badSmall, goodGreat, []string{"A" + long, long}) {
		for i := range 2 {
			o := plainObject()
			o.Exports[i].Name = []byte(w)
			wantNoObject(t, "an export's Name "+w, o)
			o = plainObject()
			o.Imports[i].Name = []byte(w)
			wantNoObject(t, "an import's Name "+w, o)
		}
	}
}

func TestCountsOfExportsAndImports(t *testing.T) {
	for count := range 12 {
		o := plainObject()
		o.Exports = exports(named(count)...)
		want := wantObject
		if count > 8 {
			want = wantNoObject
		}
		want(t, "so many exports", o)
		o = plainObject()
		o.Imports = imports(named(count)...)
		want(t, "so many imports", o)
	}
	for _, count := range []int{127, 128, 300} {
		o := plainObject()
		o.Imports = slices.Repeat(imports("p"), count)
		wantNoObject(t, "far too many imports", o)
		o = plainObject()
		o.Exports = slices.Repeat(exports("p"), count)
		wantNoObject(t, "far too many exports", o)
	}
}

func TestNamesOfExportsAreUnlike(t *testing.T) {
	for i := range 8 {
		for j := range i {
			o := plainObject()
			o.Exports = exports(named(8)...)
			o.Exports[i].Name = slices.Clone(o.Exports[j].Name)
			wantNoObject(t, "two exports of one Name", o)
		}
	}
	o := plainObject()
	o.Exports = exports("ab", "a", "abc", "b", "ba")
	wantObject(t, "names that begin alike", o)
	o.Imports = append(imports("ab", "ab", "ab"), imports("ab")...)
	wantObject(t, "imports that are alike, and like an export", o)
}

func TestNumbersInObjects(t *testing.T) {
	asks := []struct {
		most int
		set  func(o *impl.Object, n int)
	}{
		{2147483647, func(o *impl.Object, n int) { o.Exports[0].Print = n }},
		{2147483647, func(o *impl.Object, n int) { o.Exports[1].Print = n }},
		{4000, func(o *impl.Object, n int) { o.Exports[0].At = n }},
		{4000, func(o *impl.Object, n int) { o.Exports[1].At = n }},
		{2147483647, func(o *impl.Object, n int) { o.Imports[0].Print = n }},
		{2147483647, func(o *impl.Object, n int) { o.Imports[1].Print = n }},
		{200, func(o *impl.Object, n int) { o.Data = n }},
	}
	for _, ask := range asks {
		for _, n := range []int{0, 1, 100, ask.most - 1, ask.most} {
			o := plainObject()
			ask.set(&o, n)
			wantObject(t, "a number that may be", o)
		}
		for _, n := range []int{ask.most + 1, ask.most + 2, 1 << 32, math.MaxInt} {
			o := plainObject()
			ask.set(&o, n)
			wantNoObject(t, "a number above the most", o)
		}
		for _, n := range []int{-1, -2, -ask.most, -1 << 32, math.MinInt} {
			o := plainObject()
			ask.set(&o, n)
			if b, ok := impl.ObjectBytes(o); ok || len(b) != 0 || impl.ObjectOk(o) {
				t.Errorf("a number below 0, %d: %q, %v", n, b, ok)
			}
		}
	}
}

func TestCodeInObjects(t *testing.T) {
	for _, count := range []int{0, 1, 11, 12, 13, 127, 128, 129, 8999, 9000} {
		o := plainObject()
		o.Code = letters(count)
		wantObject(t, "so many bytes of code", o)
	}
	for _, count := range []int{9001, 9002, 18000} {
		o := plainObject()
		o.Code = letters(count)
		wantNoObject(t, "too many bytes of code", o)
	}
	o := plainObject()
	for x := range 256 {
		o.Code = append(o.Code, byte(x))
	}
	wantObject(t, "every byte there is", o)
	wantObject(t, "as much of everything as may be", fullObject())
}

func TestObjectReadRefusesEnds(t *testing.T) {
	for _, f := range objectForms {
		b := []byte(f.bytes)
		for count := range b {
			wantUnread(t, "cut short", b[:count])
		}
		for _, x := range []byte{0, 1, 'B', 255} {
			wantUnread(t, "one too many", join(b, []byte{x}))
			wantUnread(t, "one ahead", join([]byte{x}, b))
		}
		wantUnread(t, "twice", join(b, b))
		wantUnread(t, "without its start", b[2:])
	}
	full := raw(fullObject())
	for _, count := range []int{1, 2, 8999, 9000, 9001, 9002, 9003} {
		wantUnread(t, "cut short", full[:len(full)-count])
	}
	wantUnread(t, "nothing", nil)
}

func TestObjectReadRefusesStarts(t *testing.T) {
	b := raw(plainObject())
	for x := range 256 {
		for i, keep := range []byte("BH") {
			if byte(x) == keep {
				continue
			}
			other := bytes.Clone(b)
			other[i] = byte(x)
			wantUnread(t, "another start", other)
		}
	}
}

// TestObjectReadRefusesOtherWriting: each number and each text's count, in
// turn, gets a needless byte.
func TestObjectReadRefusesOtherWriting(t *testing.T) {
	// The places of all numbers and counts in the bytes of plainObject.
	b := raw(plainObject())
	if string(b) != "BH\x02Ab\x02\x01p\x00\x00\x01q\x01\x02\x02\x01M\x01r\x00\x01M\x01s\x01\x03\x03\x01\x02\x03" {
		t.Fatalf("%q", b)
	}
	for _, at := range []int{2, 5, 6, 8, 9, 10, 12, 13, 14, 15, 17, 19, 20, 22, 24, 25, 26} {
		for _, needless := range [][]byte{{0}, {128, 0}, {128, 128, 128, 0}, {128, 128, 128, 128, 0}, {128, 128, 128, 128, 128}} {
			other := slices.Insert(bytes.Clone(b), at+1, needless...)
			other[at] |= 128
			wantUnread(t, "a number with a needless byte", other)
		}
	}
}

func TestObjectReadRefusesCounts(t *testing.T) {
	for _, count := range []int{3, 4, 8, 9, 127, 128, 1 << 20, impl.MaxNum, impl.MaxNum + 1, 1<<35 - 1} {
		n := string(num(count))
		for what, b := range map[string]string{
			"bytes of the name":          "BH" + n + "Ab\x00\x00\x00\x00",
			"exports":                    "BH\x01A" + n + "\x01p\x00\x00\x01q\x00\x00\x00\x00\x00",
			"bytes of an export's name":  "BH\x01A\x01" + n + "pq",
			"imports":                    "BH\x01A\x00" + n + "\x01M\x01p\x00\x01M\x01q\x00\x00\x00",
			"bytes of an import's mod":   "BH\x01A\x00\x01" + n + "M",
			"bytes of an import's name":  "BH\x01A\x00\x01\x01M" + n + "p",
			"bytes of code":              "BH\x01A\x00\x00\x00" + n + "ab",
			"bytes of code, none there":  "BH\x01A\x00\x00\x00" + n,
			"exports, nothing behind":    "BH\x01A" + n,
			"imports, nothing behind":    "BH\x01A\x00" + n,
			"bytes of a name, no others": "BH" + n,
		} {
			wantUnread(t, what, []byte(b))
		}
	}
	// More bytes than are counted.
	wantUnread(t, "more code than is counted", []byte("BH\x01A\x00\x00\x00\x01ab"))
	wantUnread(t, "more exports than are counted", []byte("BH\x01A\x01\x01p\x00\x00\x01q\x00\x00\x00\x00\x00"))
	wantUnread(t, "more imports than are counted", []byte("BH\x01A\x00\x01\x01M\x01p\x00\x01M\x01q\x00\x00\x00"))
}

// objectByRule reads by rules of its own.
func objectByRule(b []byte) (impl.Object, bool) {
	var o impl.Object
	at, good := 0, true
	take := func(count int) []byte {
		if !good || count > len(b)-at {
			good = false
			return nil
		}
		at += count
		return b[at-count : at]
	}
	takeNum := func() int {
		if !good {
			return 0
		}
		n, next := numByRule(b[at:])
		good = next >= 0
		at += max(next, 0)
		return n
	}
	good = string(take(2)) == "BH"
	o.Name = take(takeNum())
	for range min(takeNum(), 100) {
		o.Exports = append(o.Exports, impl.Export{Name: take(takeNum()), Print: takeNum(), At: takeNum()})
	}
	for range min(takeNum(), 100) {
		o.Imports = append(o.Imports, impl.Import{Mod: take(takeNum()), Name: take(takeNum()), Print: takeNum()})
	}
	o.Data = takeNum()
	o.Code = take(takeNum())
	if !good || at != len(b) || !objectOkByRule(o) {
		return impl.Object{}, false
	}
	return o, true
}

func objectOkByRule(o impl.Object) bool {
	names := map[string]bool{}
	for _, e := range o.Exports {
		if names[string(e.Name)] || !isName(e.Name, 'a') || e.Print < 0 || e.Print > 2147483647 || e.At < 0 || e.At > 4000 {
			return false
		}
		names[string(e.Name)] = true
	}
	for _, im := range o.Imports {
		if !isName(im.Mod, 'A') || !isName(im.Name, 'a') || im.Print < 0 || im.Print > 2147483647 {
			return false
		}
	}
	return isName(o.Name, 'A') && len(o.Exports) <= 8 && len(o.Imports) <= 8 && o.Data >= 0 && o.Data <= 200 && len(o.Code) <= 9000
}

func isName(w []byte, first byte) bool {
	if len(w) == 0 || len(w) > 8 || w[0] < first || w[0] > first+25 {
		return false
	}
	return strings.Trim(string(w[1:]), "abcdefghijklmnopqrstuvwxyz0123456789") == ""
}

// TestBytesReadAreJustTheObjects: promise 4, over bytes one change off from
// those of an object.
func TestBytesReadAreJustTheObjects(t *testing.T) {
	read := 0
	ask := func(b []byte) {
		t.Helper()
		o, ok := impl.ObjectRead(b)
		want, wantOk := objectByRule(b)
		if ok != wantOk || !sameObject(o, want) {
			t.Errorf("ObjectRead(%q) = %v, %v; want %v, %v", b, o, ok, want, wantOk)
		}
		if !ok {
			return
		}
		read++
		if again, ok := impl.ObjectBytes(o); !ok || !bytes.Equal(again, b) {
			t.Errorf("%q is read as %v, whose bytes are %q, %v", b, o, again, ok)
		}
	}
	objects := []impl.Object{plainObject(), {Name: []byte("A")}}
	for _, f := range objectForms {
		objects = append(objects, f.o)
	}
	for _, o := range objects {
		b := raw(o)
		ask(b)
		for at := range b {
			ask(slices.Delete(bytes.Clone(b), at, at+1))
			for x := range 256 {
				other := bytes.Clone(b)
				other[at] = byte(x)
				ask(other)
				ask(slices.Insert(bytes.Clone(b), at, byte(x)))
			}
		}
	}
	if read < 1000 {
		t.Errorf("only %d were read", read)
	}
}

// TestShortBytesAsObjects: all bytes of an object that has next to nothing.
func TestShortBytesAsObjects(t *testing.T) {
	for n := range 6 * 6 * 6 * 6 * 6 {
		b := []byte("BH\x01A")
		for range 5 {
			b = append(b, []byte{0, 1, 2, 128, 'p', 'M'}[n%6])
			n /= 6
		}
		o, ok := impl.ObjectRead(b)
		want, wantOk := objectByRule(b)
		if ok != wantOk || !sameObject(o, want) {
			t.Errorf("ObjectRead(%q) = %v, %v; want %v, %v", b, o, ok, want, wantOk)
		}
	}
}

// roomyObject is o with room behind each of its lists; the answered function
// tells whether all of them, with the room, are as they were.
func roomyObject(o impl.Object) (impl.Object, func() bool) {
	var wholes [][]byte
	wide := func(w []byte) []byte {
		list, whole := roomy(w)
		wholes = append(wholes, whole)
		return list
	}
	o.Name, o.Code = wide(o.Name), wide(o.Code)
	es := slices.Concat(o.Exports, exports("room", "behind"))
	for i := range es {
		es[i].Name = wide(es[i].Name)
	}
	ims := slices.Concat(o.Imports, imports("room", "behind"))
	for i := range ims {
		ims[i].Mod, ims[i].Name = wide(ims[i].Mod), wide(ims[i].Name)
	}
	o.Exports, o.Imports = es[:len(o.Exports)], ims[:len(o.Imports)]
	kept := impl.Object{Exports: slices.Clone(es), Imports: slices.Clone(ims)}
	keptWholes := slices.Clone(wholes)
	for i := range keptWholes {
		keptWholes[i] = bytes.Clone(keptWholes[i])
	}
	return o, func() bool {
		return sameObject(impl.Object{Exports: es, Imports: ims}, kept) && slices.EqualFunc(wholes, keptWholes, bytes.Equal)
	}
}

func TestObjectsHandedInStay(t *testing.T) {
	bad := plainObject()
	bad.Exports[1].Name = []byte("p")
	for _, o := range []impl.Object{plainObject(), fullObject(), {Name: []byte("A")}, {}, bad} {
		wide, asItWas := roomyObject(o)
		want, wantOk := impl.ObjectBytes(o)
		if impl.ObjectOk(wide) != wantOk {
			t.Error("ObjectOk looks behind a list's length")
		}
		b, ok := impl.ObjectBytes(wide)
		if ok != wantOk || !bytes.Equal(b, want) {
			t.Error("ObjectBytes looks behind a list's length")
		}
		spoil(b)
		if !asItWas() {
			t.Error("the object handed in has changed")
		}
	}
}

func TestNamesAndKindsHandedInStay(t *testing.T) {
	name, room := roomy([]byte("name"))
	was := bytes.Clone(room)
	kinds := []int{0, 1, -7, 300, 99, 98}
	if got := impl.Finger(name, kinds[:4]); got != sumByRule([]byte("name\x00\x01\x01\x01")) {
		t.Errorf("Finger = %d", got)
	}
	if !impl.NameOk(name, false) || impl.NameOk(name, true) || impl.NameOk(name[:0], false) {
		t.Error("NameOk looks behind the length")
	}
	if !bytes.Equal(room, was) || !slices.Equal(kinds, []int{0, 1, -7, 300, 99, 98}) {
		t.Error("name or kinds have changed")
	}
}

// listsOf are all bytes that o leads to.
func listsOf(o impl.Object) [][]byte {
	l := [][]byte{o.Name, o.Code}
	for _, e := range o.Exports {
		l = append(l, e.Name)
	}
	for _, im := range o.Imports {
		l = append(l, im.Mod, im.Name)
	}
	return l
}

func TestObjectReadSharesNothing(t *testing.T) {
	for _, o := range []impl.Object{plainObject(), fullObject()} {
		b, room := roomy(raw(o))
		was := bytes.Clone(room)
		for i := range listsOf(o) {
			got, ok := impl.ObjectRead(b)
			if !ok {
				t.Fatal("not read")
			}
			other, _ := impl.ObjectRead(b)
			spoil(listsOf(got)[i])
			if !bytes.Equal(room, was) {
				t.Fatal("the answer shares memory with the bytes")
			}
			if !sameObject(other, o) {
				t.Fatal("two answers share memory")
			}
			wants := listsOf(o)
			for j, l := range listsOf(got) {
				if j != i && !bytes.Equal(l, wants[j]) {
					t.Fatal("two lists of one answer share memory")
				}
			}
		}
	}
}

func TestObjectReadStopsAtTheLength(t *testing.T) {
	b := raw(plainObject())
	for count := range b {
		wantUnread(t, "the rest lies behind the length", b[:count:len(b)])
	}
	longer := join(b, []byte{9})
	if o, ok := impl.ObjectRead(longer[:len(b)]); !ok || !sameObject(o, plainObject()) {
		t.Error("a byte behind the length is read")
	}
}

func TestBytesHandedInStay(t *testing.T) {
	for _, whole := range [][]byte{raw(plainObject()), raw(fullObject()), []byte("BH\x01a\x00\x00\x00\x00"), []byte("BH"), {}} {
		b, room := roomy(whole)
		was := bytes.Clone(room)
		impl.ObjectRead(b)
		if !bytes.Equal(room, was) {
			t.Error("ObjectRead changed its bytes")
		}
	}
}
