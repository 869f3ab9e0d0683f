package tests

import (
	"bytes"
	"fmt"
	"math/rand"
	"slices"
	"strconv"
	"strings"
	"testing"

	"loop.example/g00335/impl"
)

// mainPrint is worked out by hand: 7, then 257 times it and each byte of main
// with 1, less 15 times 2147483647.
const mainPrint = 198743487

// object reads one as it is written here: "B 2 | f=5@3, main@1 | A.g=6" is B
// with 2 words of data, two exports and an import. What is not written is 0,
// but for main, which has its Print. The code tells whose it is.
func object(text string) impl.Object {
	fields := strings.Split(text+"||", "|")
	var name string
	var data int
	fmt.Sscan(fields[0], &name, &data)
	o := impl.Object{Name: []byte(name), Data: data, Code: []byte("code of " + name)}
	for _, part := range partsOf(strings.TrimSpace(fields[1])) {
		head, at, _ := strings.Cut(part, "@")
		name, print := nameAndPrint(head)
		place, _ := strconv.Atoi(at)
		o.Exports = append(o.Exports, impl.Export{Name: []byte(name), Print: print, At: place})
	}
	for _, part := range partsOf(strings.TrimSpace(fields[2])) {
		mod, head, _ := strings.Cut(part, ".")
		name, print := nameAndPrint(head)
		o.Imports = append(o.Imports, impl.Import{Mod: []byte(mod), Name: []byte(name), Print: print})
	}
	return o
}

func nameAndPrint(text string) (string, int) {
	name, number, written := strings.Cut(text, "=")
	if !written && name == "main" {
		return name, mainPrint
	}
	print, _ := strconv.Atoi(number)
	return name, print
}

func objects(texts ...string) []impl.Object {
	var l []impl.Object
	for _, text := range texts {
		l = append(l, object(text))
	}
	return l
}

// wordsText tells zero words by how many there are, "_3", and an entry as
// "1.0", the places of its object and its export; whatever else as it is.
func wordsText(l []impl.Word) string {
	var parts []string
	zeros := 0
	tell := func() {
		if zeros > 0 {
			parts = append(parts, fmt.Sprintf("_%d", zeros))
		}
		zeros = 0
	}
	for _, w := range l {
		if w == (impl.Word{}) {
			zeros++
			continue
		}
		tell()
		part := fmt.Sprintf("%+v", w)
		if w == entry(w.Seal, w.At, 16) {
			part = fmt.Sprintf("%d.%d", w.Seal-1, w.At)
		}
		parts = append(parts, part)
	}
	tell()
	return strings.Join(parts, " ")
}

// imageText is "start; region; region", a region being "Lo-Hi Own: its words";
// the words are told by the regions, so those beside all of them are told, too.
func imageText(m impl.Image) string {
	text := fmt.Sprintf("%d", m.Start)
	end := 600
	if len(m.Words) < end || wordsText(m.Words[:end]) != "_600" {
		return text + "; no stack"
	}
	for _, r := range m.Mods {
		if r.Lo != end || r.Hi < r.Lo || r.Hi > len(m.Words) {
			return text + fmt.Sprintf("; %d-%d behind %d, of %d", r.Lo, r.Hi, end, len(m.Words))
		}
		end = r.Hi
		text += fmt.Sprintf("; %d-%d %d: %s", r.Lo, r.Hi, r.Own, wordsText(m.Words[r.Lo:r.Hi]))
	}
	if end != len(m.Words) {
		text += "; more words: " + wordsText(m.Words[end:])
	}
	return text
}

// wantLinked wants of each object its code, beside what imageText tells.
func wantLinked(t *testing.T, what string, objs []impl.Object, want string) impl.Image {
	t.Helper()
	m, code := impl.Link(objs)
	if code != impl.LoadWell {
		t.Fatalf("%s: Link = %d", what, code)
	}
	if got := imageText(m); got != want {
		t.Errorf("%s: %s, want %s", what, got, want)
	}
	if len(m.Mods) != len(objs) {
		t.Fatalf("%s: %d regions", what, len(m.Mods))
	}
	for i, o := range objs {
		if !bytes.Equal(m.Mods[i].Code, o.Code) {
			t.Errorf("%s: the code of %d is %q", what, i, m.Mods[i].Code)
		}
	}
	return m
}

func wantNotLinked(t *testing.T, what string, objs []impl.Object, want int) {
	t.Helper()
	m, code := impl.Link(objs)
	if code != want {
		t.Errorf("%s: Link = %d, want %d", what, code, want)
	}
	if len(m.Mods) != 0 || len(m.Words) != 0 || m.Start != 0 {
		t.Errorf("%s: beside %d stands %v", what, code, m)
	}
}

func TestCodesOfLink(t *testing.T) {
	got := []int{impl.StackWords, impl.LoadWell, impl.LoadForm, impl.LoadName, impl.LoadMissing, impl.LoadMain}
	if !slices.Equal(got, []int{600, 0, 1, 2, 3, 4}) {
		t.Error(got)
	}
	if impl.Finger([]byte("main"), nil) != mainPrint {
		t.Error("the Print of main")
	}
}

// imageForms: objects with their images, written out by hand.
var imageForms = []struct {
	objs []string
	want string
}{
	{[]string{"A | main"}, "0; 600-600 0: "},
	{[]string{"Zz09abcd 1 | main@1"}, "1; 600-601 0: _1"},
	{[]string{"A 200 | main@4000"}, "4000; 600-800 0: _200"},
	{[]string{"A | main@17, f=1@3"}, "17; 600-600 0: "},
	{[]string{"A | f=1@3, g=2, h=3@9, i, j, k, l, main@18"}, "18; 600-600 0: "},
	{[]string{"A 3", "B 2 | main@7"}, "7; 600-603 0: _3; 603-605 0: _2"},
	{[]string{"A", "B", "C | main"}, "0; 600-600 0: ; 600-600 0: ; 600-600 0: "},
	{[]string{"A | f=5@3", "B | main | A.f=5"}, "0; 600-600 0: ; 600-601 1: 0.0"},
	{[]string{"A 2 | f=5@3, g=6", "B 1 | main@1 | A.g=6"}, "1; 600-602 0: _2; 602-604 1: 0.1 _1"},
	{[]string{"A | f=5, g=5", "B | main | A.g=5, A.f=5"}, "0; 600-600 0: ; 600-602 2: 0.1 0.0"},
	{[]string{"A | f=5", "B | main | A.f=5, A.f=5, A.f=5"}, "0; 600-600 0: ; 600-603 3: 0.0 0.0 0.0"},
	{ // of the first and of the last export, with the greatest of numbers
		[]string{"A 1 | a=2147483647@4000, b, c, d, e, f, g, h=2147483647@4000", "B 200 | main@4000 | A.h=2147483647, A.a=2147483647"},
		"4000; 600-601 0: _1; 601-803 2: 0.7 0.0 _200",
	},
	{ // as many imports as may be, and main may be imported as any other
		[]string{"A | main@3, f=1@4", "B 1 | f=2@5, main@6 | A.main, A.f=1, A.f=1", "C 2 | g=9, main@2 | B.main, A.main, B.f=2, A.f=1, B.f=2, A.main, B.main, B.f=2"},
		"2; 600-600 0: ; 600-604 3: 0.0 0.1 0.1 _1; 604-614 8: 1.1 0.0 1.0 0.1 1.0 0.0 1.1 1.0 _2",
	},
	{ // a main with another Print is an export like others where it is not the last one's
		[]string{"A | main=5@3", "B | main | A.main=5"},
		"0; 600-600 0: ; 600-601 1: 0.0",
	},
	{ // imports of who stands right ahead, and far ahead
		[]string{"D 1 | f=1", "C 2 | f=1 | D.f=1", "B 3 | f=1 | C.f=1", "A 4 | f=1, main@8 | B.f=1, D.f=1, C.f=1"},
		"8; 600-601 0: _1; 601-604 1: 0.0 _2; 604-608 1: 1.0 _3; 608-615 3: 2.0 0.0 1.0 _4",
	},
	{ // names that begin alike
		[]string{"A | f=1, fo=1, foo=1", "Ab | fo=1, f=1", "Abc | main | Ab.f=1, A.fo=1, A.foo=1, Ab.fo=1"},
		"0; 600-600 0: ; 600-600 0: ; 600-604 4: 1.1 0.1 0.2 1.0",
	},
	{ // an object's own export hides none of those ahead
		[]string{"A | f=1, g=2", "B | g=2, f=1, main | A.f=1, A.g=2"},
		"0; 600-600 0: ; 600-602 2: 0.0 0.1",
	},
}

func TestImageForms(t *testing.T) {
	for _, form := range imageForms {
		m := wantLinked(t, strings.Join(form.objs, "; "), objects(form.objs...), form.want)
		for _, w := range m.Words {
			if !okByRule(w) {
				t.Errorf("%+v is no word", w)
			}
		}
	}
}

// An entry's other fields are zero, and it leads to an export's place, not to
// where that begins.
func TestEntriesOfImports(t *testing.T) {
	m, code := impl.Link(objects("A 1 | f=1@30, g=2@40", "B | h=3@50 | A.g=2", "C | main@60 | B.h=3, A.g=2"))
	if code != impl.LoadWell || m.Start != 60 {
		t.Fatal(code, m.Start)
	}
	want := []impl.Word{
		{},
		{Tag: true, At: 1, Perm: impl.CanGo, Seal: 1},
		{Tag: true, At: 0, Perm: impl.CanGo, Seal: 2},
		{Tag: true, At: 1, Perm: impl.CanGo, Seal: 1},
	}
	if !slices.Equal(m.Words[600:], want) {
		t.Errorf("%+v", m.Words[600:])
	}
	want = make([]impl.Word, 600)
	if !slices.Equal(m.Words[:600], want) {
		t.Errorf("%+v", m.Words[:600])
	}
	e, _ := impl.Entry(1, 0)
	if m.Words[602] != e {
		t.Error("no Entry")
	}
}

// chain is so many objects, each of which imports from the one ahead.
func chain(count int) []impl.Object {
	var l []impl.Object
	for i := range count {
		text := fmt.Sprintf("M%d %d | f=%d@%d, main@%d", i, i, i, i+20, i+30)
		if i > 0 {
			text += fmt.Sprintf(" | M%d.f=%d", i-1, i-1)
		}
		l = append(l, object(text))
	}
	return l
}

func TestCountsOfObjects(t *testing.T) {
	wantNotLinked(t, "none", nil, impl.LoadForm)
	wantNotLinked(t, "none, with room", []impl.Object{}, impl.LoadForm)
	wantNotLinked(t, "none, with objects behind", chain(3)[:0], impl.LoadForm)
	for count := 1; count <= 8; count++ {
		want := fmt.Sprint(count + 29)
		lo := 600
		for i := range count {
			words, hi := "", lo+i
			if i > 0 {
				words, hi = fmt.Sprintf("%d.0 _%d", i-1, i), hi+1
			}
			want += fmt.Sprintf("; %d-%d %d: %s", lo, hi, min(i, 1), words)
			lo = hi
		}
		wantLinked(t, "so many", chain(count), want)
		wantLinked(t, "so many, with more behind", chain(9)[:count], want)
	}
	for _, count := range []int{9, 10, 16, 200} {
		wantNotLinked(t, "too many", chain(count), impl.LoadForm)
	}
}

// Eight objects with as much data and as many imports as may be.
func TestLargestImage(t *testing.T) {
	var l []impl.Object
	want, lo := "3999", 600
	for i := range 8 {
		o := object(fmt.Sprintf("M%d 200 | a, b, c, d, e, f, g=77, main@3999", i))
		o.Code = bytes.Repeat([]byte{byte(i), 7}, 4500)
		text := ""
		if i > 0 {
			text = strings.Repeat(fmt.Sprintf("%d.6 ", i-1), 8)
			o.Imports = repeated(8, impl.Import{Mod: []byte(fmt.Sprintf("M%d", i-1)), Name: []byte("g"), Print: 77})
		}
		hi := lo + 200 + len(o.Imports)
		want += fmt.Sprintf("; %d-%d %d: %s_200", lo, hi, len(o.Imports), text)
		lo = hi
		l = append(l, o)
	}
	if m := wantLinked(t, "the largest", l, want); len(m.Words) != 2256 {
		t.Error(len(m.Words))
	}
}

func TestSizesOfData(t *testing.T) {
	for _, data := range []int{0, 1, 2, 199, 200} {
		for own := range 9 {
			o := object("B | main")
			o.Data = data
			o.Imports = repeated(own, impl.Import{Mod: []byte("A"), Name: []byte("f"), Print: 4})
			words := repeated(own, "0.0")
			if data > 0 {
				words = append(words, fmt.Sprintf("_%d", data))
			}
			want := fmt.Sprintf("0; 600-601 0: _1; 601-%d %d: %s", 601+own+data, own, strings.Join(words, " "))
			wantLinked(t, "so much data", append(objects("A 1 | f=4"), o), want)
		}
	}
}

// notObjects change an object so that ObjectOk refuses it.
var notObjects = map[string]func(o *impl.Object){
	"no Name":            func(o *impl.Object) { o.Name = nil },
	"a small Name":       func(o *impl.Object) { o.Name = []byte("small") },
	"a long Name":        func(o *impl.Object) { o.Name = []byte("Abcdefghi") },
	"data below 0":       func(o *impl.Object) { o.Data = -1 },
	"data above MaxData": func(o *impl.Object) { o.Data = 201 },
	"much code":          func(o *impl.Object) { o.Code = make([]byte, 9001) },
	"two exports alike":  func(o *impl.Object) { o.Exports = append(o.Exports, o.Exports...) },
	"nine exports":       func(o *impl.Object) { o.Exports = append(exports(named(8)...), o.Exports...)[:9] },
	"an export's Name":   func(o *impl.Object) { o.Exports[0].Name = []byte("F") },
	"an export's Print":  func(o *impl.Object) { o.Exports[0].Print = -1 },
	"an export's At":     func(o *impl.Object) { o.Exports[0].At = 4001 },
	"nine imports":       func(o *impl.Object) { o.Imports = repeated(9, impl.Import{Mod: []byte("M0"), Name: []byte("f")}) },
	"an import's Mod":    func(o *impl.Object) { o.Imports = append(o.Imports, impl.Import{Name: []byte("f")}) },
	"an import's Name":   func(o *impl.Object) { o.Imports = append(o.Imports, impl.Import{Mod: []byte("M0")}) },
	"an import's Print": func(o *impl.Object) {
		o.Imports = append(o.Imports, impl.Import{Mod: []byte("M0"), Name: []byte("f"), Print: 1 << 31})
	},
	"all of it is nought": func(o *impl.Object) { *o = impl.Object{} },
}

func TestWhatIsNoObject(t *testing.T) {
	for what, change := range notObjects {
		for count := 1; count <= 8; count++ {
			for at := range count {
				l := chain(count)
				change(&l[at])
				if objectOkByRule(l[at]) {
					t.Fatalf("%s: it is one", what)
				}
				wantNotLinked(t, what, l, impl.LoadForm)
			}
		}
	}
}

// Code is not looked at: any bytes may be linked.
func TestCodeOfObjects(t *testing.T) {
	for _, count := range []int{0, 1, 11, 12, 13, 8999, 9000} {
		l := objects("A | f=1", "B | main | A.f=1")
		l[0].Code, l[1].Code = letters(count), bytes.Repeat([]byte{255}, count)
		wantLinked(t, "code of a length", l, "0; 600-600 0: ; 600-601 1: 0.0")
	}
}

func TestTwoOfOneName(t *testing.T) {
	for count := 2; count <= 8; count++ {
		for i := range count {
			for j := range i {
				l := chain(count)
				l[i].Name = bytes.Clone(l[j].Name)
				wantNotLinked(t, fmt.Sprintf("%d has the Name of %d", i, j), l, impl.LoadName)
				l[i].Name, l[j].Name = []byte("Other"), []byte("Other")
				wantNotLinked(t, fmt.Sprintf("%d and %d have one Name", i, j), l, impl.LoadName)
			}
		}
	}
	o := object("A | main")
	wantNotLinked(t, "one object twice", []impl.Object{o, o}, impl.LoadName)
	wantNotLinked(t, "all alike", repeated(8, o), impl.LoadName)
	wantNotLinked(t, "more than may be, all alike", repeated(9, o), impl.LoadForm)
	wantLinked(t, "unlike but for their beginnings", objects("Abcdefg1", "Abcdefg2", "Abcdefg", "Abcdef | main"),
		"0; 600-600 0: ; 600-600 0: ; 600-600 0: ; 600-600 0: ")
}

// missing: lists in which one import leads nowhere.
var missing = map[string][]string{
	"of its own, alone":            {"A | main | A.main"},
	"of its own":                   {"A | f=1", "B | g=2, main | B.g=2"},
	"of its own, another export":   {"A | f=1", "B | g=2 | B.h=2", "C | main"},
	"of its own, as one ahead has": {"A | f=1", "B | f=1, main | B.f=1"},
	"of the next one":              {"A | f=1 | B.g=2", "B | g=2, main"},
	"of the last one":              {"A | f=1 | C.main", "B | g=2", "C | main"},
	"of each other":                {"A | f=1 | B.g=2", "B | g=2, main | A.f=1"},
	"of no object":                 {"A | f=1", "B | main | C.f=1"},
	"of none, from the first":      {"A | main | B.f"},
	"of a longer Name":             {"A | f=1", "B | main | Aa.f=1"},
	"of a shorter Name":            {"Aa | f=1", "B | main | A.f=1"},
	"of an object without exports": {"A", "B | main | A.f"},
	"of no export":                 {"A | f=1", "B | main | A.g=1"},
	"of a longer export":           {"A | f=1", "B | main | A.fo=1"},
	"of a shorter export":          {"A | fo=1", "B | main | A.f=1"},
	"with a Print above":           {"A | f=5", "B | main | A.f=6"},
	"with a Print below":           {"A | f=5", "B | main | A.f=4"},
	"with the Print 0":             {"A | f=5", "B | main | A.f=0"},
	"with the greatest Print":      {"A | f=0", "B | main | A.f=2147483647"},
	"with another one's Print":     {"A | f=5, g=6", "B | main | A.f=6"},
	"with another one's, behind":   {"A | f=5, g=6", "B | main | A.g=5"},
	"with its Print elsewhere":     {"A | f=5", "B | f=6", "C | main | A.f=6"},
	"with its Name elsewhere":      {"A | f=5", "B | g=5", "C | main | A.g=5"},
	"with its At for its Print":    {"A | f=5@7", "B | main | A.f=7"},
	"of main with another Print":   {"A | main=5", "B | main | A.main"},
	"the first of many":            {"A | f=5", "B | main | A.g=5, A.f=5, A.f=5, A.f=5, A.f=5, A.f=5, A.f=5, A.f=5"},
	"the last of many":             {"A | f=5", "B | main | A.f=5, A.f=5, A.f=5, A.f=5, A.f=5, A.f=5, A.f=5, A.f=6"},
	"the second of three":          {"A | f=5", "B | g=5 | A.f=5", "C | main | B.g=5, B.f=5, A.f=5"},
	"of the first object":          {"A | f=5 | Z.z", "B | main | A.f=5"},
	"of one in the middle":         {"A | f=5", "B | g=6 | A.f=6", "C | main | B.g=6, A.f=5"},
	"of the last object":           {"A | f=5", "B | g=6 | A.f=5", "C | main | B.g=6, A.f=6"},
}

func TestImportsThatLeadNowhere(t *testing.T) {
	for what, texts := range missing {
		wantNotLinked(t, "an import "+what, objects(texts...), impl.LoadMissing)
	}
}

// Each import that is there is held against each place that it may have.
func TestWhoMayImport(t *testing.T) {
	for count := 1; count <= 8; count++ {
		for from := range count {
			for to := range count {
				l := chain(count)
				im := impl.Import{Mod: bytes.Clone(l[to].Name), Name: []byte("main"), Print: mainPrint}
				l[from].Imports = append(l[from].Imports, im)
				if to >= from {
					wantNotLinked(t, fmt.Sprintf("%d imports %d", from, to), l, impl.LoadMissing)
					continue
				}
				m, code := impl.Link(l)
				if code != impl.LoadWell {
					t.Fatalf("%d imports %d: %d", from, to, code)
				}
				if r := m.Mods[from]; r.Own != 2 || m.Words[r.Lo+1] != entry(to+1, 1, 16) {
					t.Errorf("%d imports %d: %+v", from, to, m.Words[r.Lo+1])
				}
			}
		}
	}
}

// All prints but its own are refused, each of them by one bit.
func TestPrintsOfImports(t *testing.T) {
	for _, own := range []int{0, 1, 5, 1 << 30, impl.MaxNum, mainPrint} {
		l := objects("A | e=9, f, g=9", "B | main | A.f")
		l[0].Exports[1].Print, l[1].Imports[0].Print = own, own
		wantLinked(t, "its own Print", l, "0; 600-600 0: ; 600-601 1: 0.1")
		for bit := range 31 {
			l[1].Imports[0].Print = own ^ 1<<bit
			wantNotLinked(t, "another Print", l, impl.LoadMissing)
		}
	}
}

func TestMainOfObjects(t *testing.T) {
	for what, texts := range map[string][]string{
		"no exports":                {"A"},
		"no exports, the last":      {"A | main", "B"},
		"no main":                   {"A | f=1, mai=198743487, maine=198743487"},
		"no main, the last":         {"A | main", "B | main@1", "C | f=198743487 | A.main"},
		"the Print 0":               {"A | main=0"},
		"another Print":             {"A | main=198743488"},
		"another Print, the last":   {"A | main", "B | f=198743487, main=198743486 | A.main"},
		"no main, one's Print":      {"A | main=5, f=198743487"},
		"no main, imported":         {"A | main", "B | f=1 | A.main"},
		"main as the object's Name": {"Main | f=1"},
	} {
		wantNotLinked(t, what, objects(texts...), impl.LoadMain)
	}
	for kinds := range lists(2) {
		o := object("A | main")
		o.Exports[0].Print = impl.Finger([]byte("main"), kinds)
		if len(kinds) > 0 {
			wantNotLinked(t, "a main with parameters", []impl.Object{o}, impl.LoadMain)
		}
	}
}

func TestWhereMainBegins(t *testing.T) {
	for _, at := range []int{0, 1, 2, 749, 750, 3999, 4000} {
		for count := range 8 {
			o := object("B 1")
			o.Exports = exports(named(7)...)
			o.Exports = slices.Insert(o.Exports, count, impl.Export{Name: []byte("main"), Print: mainPrint, At: at})
			wantLinked(t, "a main among others", append(objects("A | main@55"), o), fmt.Sprintf("%d; 600-600 0: ; 600-601 0: _1", at))
		}
	}
}

// linkFaults: changes of chain(6), by what Link tells of each alone.
var linkFaults = []struct {
	code    int
	changes map[string]func(l *[]impl.Object)
}{
	{impl.LoadForm, map[string]func(l *[]impl.Object){
		"three more":      func(l *[]impl.Object) { *l = append(*l, objects("X", "Y", "Z | main")...) },
		"the first":       func(l *[]impl.Object) { (*l)[0].Data = -1 },
		"the last":        func(l *[]impl.Object) { (*l)[5].Data = 201 },
		"in the middle":   func(l *[]impl.Object) { (*l)[3].Exports[0].At = -1 },
		"a Name":          func(l *[]impl.Object) { (*l)[4].Name = []byte("m") },
		"the last import": func(l *[]impl.Object) { (*l)[5].Imports[0].Name = nil },
	}},
	{impl.LoadName, map[string]func(l *[]impl.Object){
		"the first two":      func(l *[]impl.Object) { (*l)[1].Name = []byte("M0") },
		"the last two":       func(l *[]impl.Object) { (*l)[5].Name = []byte("M4") },
		"first and last":     func(l *[]impl.Object) { (*l)[5].Name = []byte("M0") },
		"two in the middle":  func(l *[]impl.Object) { (*l)[2].Name = []byte("M4") },
		"with a Name of own": func(l *[]impl.Object) { (*l)[1].Name, (*l)[3].Name = []byte("Two"), []byte("Two") },
	}},
	{impl.LoadMissing, map[string]func(l *[]impl.Object){
		"of the first":      func(l *[]impl.Object) { (*l)[0].Imports = object("A || M0.f").Imports },
		"of the last":       func(l *[]impl.Object) { (*l)[5].Imports[0].Print = 3 },
		"in the middle":     func(l *[]impl.Object) { (*l)[3].Imports[0].Name = []byte("main") },
		"of what is behind": func(l *[]impl.Object) { (*l)[1].Imports = object("A || M5.f=5").Imports },
		"of nobody":         func(l *[]impl.Object) { (*l)[5].Imports[0].Mod = []byte("Nobody") },
	}},
	{impl.LoadMain, map[string]func(l *[]impl.Object){
		"no exports":    func(l *[]impl.Object) { (*l)[5].Exports = nil },
		"another Name":  func(l *[]impl.Object) { (*l)[5].Exports[1].Name = []byte("mine") },
		"another Print": func(l *[]impl.Object) { (*l)[5].Exports[1].Print = 7 },
	}},
}

// Of every two faults, and of every three and four, the first code is told.
func TestWhichCodeOfLinkIsTold(t *testing.T) {
	wantLinked(t, "no fault", chain(6), "35; 600-600 0: ; 600-602 1: 0.0 _1; 602-605 1: 1.0 _2; 605-609 1: 2.0 _3; 609-614 1: 3.0 _4; 614-620 1: 4.0 _5")
	type fault = func(l *[]impl.Object)
	var combine func(what string, group, code int, faults []fault)
	combine = func(what string, group, code int, faults []fault) {
		if code != 0 {
			for _, backward := range []bool{false, true} {
				l, order := chain(6), slices.Clone(faults)
				if backward {
					slices.Reverse(order)
				}
				for _, change := range order {
					change(&l)
				}
				wantNotLinked(t, what, l, code)
			}
		}
		for ; group < len(linkFaults); group++ {
			told := code
			if told == 0 {
				told = linkFaults[group].code
			}
			for name, change := range linkFaults[group].changes {
				combine(fmt.Sprintf("%s %d: %s;", what, linkFaults[group].code, name), group+1, told, append(slices.Clone(faults), change))
			}
		}
	}
	combine("", 0, 0, nil)
}

// imageByRule keeps all exports ahead in one table, under all that an import
// tells of one.
func imageByRule(objs []impl.Object) (impl.Image, int) {
	names, table := map[string]int{}, map[string]impl.Word{}
	for _, o := range objs {
		if !objectOkByRule(o) {
			return impl.Image{}, 1
		}
		names[string(o.Name)] = 1
	}
	if len(objs) == 0 || len(objs) > 8 {
		return impl.Image{}, 1
	}
	if len(names) < len(objs) {
		return impl.Image{}, 2
	}
	m := impl.Image{Words: make([]impl.Word, 600), Start: -1}
	for i, o := range objs {
		r := impl.Region{Lo: len(m.Words), Hi: len(m.Words) + len(o.Imports) + o.Data, Own: len(o.Imports), Code: bytes.Clone(o.Code)}
		for _, im := range o.Imports {
			w, known := table[fmt.Sprintf("%s.%s=%d", im.Mod, im.Name, im.Print)]
			if !known {
				return impl.Image{}, 3
			}
			m.Words = append(m.Words, w)
		}
		m.Words = append(m.Words, make([]impl.Word, o.Data)...)
		for j, e := range o.Exports {
			table[fmt.Sprintf("%s.%s=%d", o.Name, e.Name, e.Print)] = entry(i+1, j, 16)
			if i == len(objs)-1 && string(e.Name) == "main" && e.Print == mainPrint {
				m.Start = e.At
			}
		}
		m.Mods = append(m.Mods, r)
	}
	if m.Start < 0 {
		return impl.Image{}, 4
	}
	return m, 0
}

// randomObjects can mostly be linked; few names and prints, so that those of
// others are met by chance.
func randomObjects(r *rand.Rand) []impl.Object {
	count := 1 + r.Intn(8)
	var l []impl.Object
	for i, name := range r.Perm(12)[:count] {
		o := object(fmt.Sprintf("M%d %d", name, r.Intn(4)*r.Intn(67)))
		for _, j := range r.Perm(5)[:r.Intn(6)] {
			e := impl.Export{Name: []byte(strings.Fields("a ab b c main")[j]), Print: r.Intn(3), At: r.Intn(50)}
			if j == 4 {
				e.Print = mainPrint
			}
			o.Exports = append(o.Exports, e)
		}
		if i == count-1 && !slices.ContainsFunc(o.Exports, func(e impl.Export) bool { return string(e.Name) == "main" }) {
			o.Exports = append(o.Exports, impl.Export{Name: []byte("main"), Print: mainPrint, At: r.Intn(50)})
		}
		for range r.Intn(9) {
			if i == 0 {
				break
			}
			ahead := l[r.Intn(i)]
			if len(ahead.Exports) > 0 {
				e := ahead.Exports[r.Intn(len(ahead.Exports))]
				o.Imports = append(o.Imports, impl.Import{Mod: bytes.Clone(ahead.Name), Name: bytes.Clone(e.Name), Print: e.Print})
			}
		}
		o.Code = letters(r.Intn(30))
		l = append(l, o)
	}
	return l
}

// spoilObjects changes one thing, which may leave them linkable.
func spoilObjects(r *rand.Rand, l []impl.Object) []impl.Object {
	o, other := &l[r.Intn(len(l))], l[r.Intn(len(l))]
	switch r.Intn(10) {
	case 0:
		change := notObjects[[]string{"no Name", "data below 0", "much code", "an import's Mod"}[r.Intn(4)]]
		change(o)
	case 1:
		o.Name = bytes.Clone(other.Name)
	case 2:
		r.Shuffle(len(l), func(i, j int) { l[i], l[j] = l[j], l[i] })
	case 3:
		l = slices.Delete(l, 0, 1)
	case 4:
		o.Imports = append(o.Imports, impl.Import{Mod: bytes.Clone(other.Name), Name: []byte("a"), Print: r.Intn(3)})
	case 5:
		if len(o.Imports) > 0 {
			o.Imports[r.Intn(len(o.Imports))].Print = r.Intn(3)
		}
	case 6:
		if len(o.Exports) > 0 {
			o.Exports[r.Intn(len(o.Exports))].Print = r.Intn(3)
		}
	case 7:
		if len(o.Exports) > 0 {
			o.Exports = slices.Delete(o.Exports, 0, 1)
		}
	case 8:
		l = append(l, object("Last | main"))
	case 9:
		l = append(l, object("Last | f=1, main=2"))
	}
	return l
}

func sameImage(a, b impl.Image) bool {
	return a.Start == b.Start && slices.Equal(a.Words, b.Words) && slices.EqualFunc(a.Mods, b.Mods, func(x, y impl.Region) bool {
		return x.Lo == y.Lo && x.Hi == y.Hi && x.Own == y.Own && bytes.Equal(x.Code, y.Code)
	})
}

func TestLinkByRule(t *testing.T) {
	r := rand.New(rand.NewSource(101))
	told := make([]int, 5)
	for i := range 20000 {
		l := randomObjects(r)
		for range i % 4 {
			if len(l) > 0 {
				l = spoilObjects(r, l)
			}
		}
		m, code := impl.Link(l)
		want, wantCode := imageByRule(l)
		if code != wantCode || !sameImage(m, want) {
			t.Fatalf("Link(%v) = %v, %d, want %v, %d", l, m, code, want, wantCode)
		}
		told[code]++
	}
	for code, count := range told {
		if count < 500 {
			t.Errorf("only %d with %d: %v", count, code, told)
		}
	}
}

// TestPromise8 looks at images alone: which words each object has, and where
// those with Tag lead.
func TestPromise8(t *testing.T) {
	r := rand.New(rand.NewSource(102))
	entries, refused := 0, 0
	for range 5000 {
		l := randomObjects(r)
		m, code := impl.Link(l)
		if code != impl.LoadWell {
			t.Fatalf("Link(%v) = %d", l, code)
		}
		owners := make([]int, len(m.Words))
		for i, region := range m.Mods {
			if region.Lo < 600 || region.Hi-region.Lo != region.Own+l[i].Data {
				t.Fatalf("%+v of %v", region, l[i])
			}
			for at := region.Lo; at < region.Hi; at++ {
				owners[at]++
				w := m.Words[at]
				if w.Tag != (at < region.Lo+region.Own) || !w.Tag && w != (impl.Word{}) {
					t.Fatalf("%+v at %d of %+v", w, at, region)
				}
				if !w.Tag {
					continue
				}
				entries++
				im := l[i].Imports[at-region.Lo]
				if w != entry(w.Seal, w.At, 16) || w.Seal < 1 || w.Seal > i || !bytes.Equal(l[w.Seal-1].Name, im.Mod) {
					t.Fatalf("%+v of %d", w, i)
				}
				if e := l[w.Seal-1].Exports[w.At]; !bytes.Equal(e.Name, im.Name) || e.Print != im.Print {
					t.Fatalf("%v of %v", e, im)
				}
			}
		}
		for at, count := range owners {
			if at < 600 && count != 0 || at >= 600 && count != 1 {
				t.Fatalf("%d have the word %d", count, at)
			}
		}
		o := &l[r.Intn(len(l))]
		if len(o.Imports) > 0 {
			o.Imports[r.Intn(len(o.Imports))].Print ^= 1 << r.Intn(31)
			wantNotLinked(t, "another Print", l, impl.LoadMissing)
			refused++
		}
	}
	if entries < 20000 || refused < 1000 {
		t.Error(entries, refused)
	}
}

// compiledWorld is a world of texts alone, as objects.
func compiledWorld(t *testing.T, w impl.World) []impl.Object {
	t.Helper()
	var l []impl.Object
	for i, m := range w.Mods {
		o, code := impl.Compile(m, w.Faces[:i])
		if code != impl.CompWell {
			t.Fatalf("Compile = %d", code)
		}
		l = append(l, o)
	}
	return l
}

// What is compiled one over the other can be linked, and leads to the
// procedures that were called.
func TestLinkOfWhatIsCompiled(t *testing.T) {
	r := rand.New(rand.NewSource(103))
	entries := 0
	for range 300 {
		var w impl.World
		for len(w.Mods) < 4 {
			m := randomText(r, fmt.Sprintf("M%d", len(w.Mods)), w.Faces, len(w.Mods) == 3)
			if _, code := impl.Compile(m, w.Faces); code == impl.CompWell {
				w.Mods, w.Faces = append(w.Mods, m), append(w.Faces, faceByRule(m))
			}
		}
		l := compiledWorld(t, w)
		m, code := impl.Link(l)
		want, _ := imageByRule(l)
		if code != impl.LoadWell || !sameImage(m, want) {
			t.Fatalf("Link = %v, %d, want %v", m, code, want)
		}
		for i, region := range m.Mods {
			for j, word := range m.Words[region.Lo : region.Lo+region.Own] {
				entries++
				q := w.Faces[word.Seal-1].Procs[word.At]
				if im := l[i].Imports[j]; !bytes.Equal(im.Name, q.Name) || im.Print != fingerByRule(q) {
					t.Fatalf("%v leads to %v", im, q)
				}
			}
		}
	}
	if entries < 300 {
		t.Errorf("only %d", entries)
	}
}

// A module that was made over another face of what it calls is refused.
func TestOtherFacesAreNotLinked(t *testing.T) {
	const user = "MODULE B; IMPORT A; PROC main*(); BEGIN CALL A.f(1); END; END."
	b := compiled(t, user, face("A", "f 0"))
	for text, want := range map[string]int{
		"MODULE A; PROC f*(x); BEGIN END; END.":                                     impl.LoadWell,
		"MODULE A; PROC f*(y); BEGIN RETURN y; END; END.":                           impl.LoadWell,
		"MODULE A; VAR n; PROC g*(); BEGIN END; PROC f*(y); BEGIN OUT n; END; END.": impl.LoadWell,
		"MODULE A; PROC f(x); BEGIN END; END.":                                      impl.LoadMissing,
		"MODULE A; PROC f*(); BEGIN END; END.":                                      impl.LoadMissing,
		"MODULE A; PROC f*(@x); BEGIN END; END.":                                    impl.LoadMissing,
		"MODULE A; PROC f*(x, y); BEGIN END; END.":                                  impl.LoadMissing,
		"MODULE A; PROC g*(x); BEGIN END; END.":                                     impl.LoadMissing,
		"MODULE C; PROC f*(x); BEGIN END; END.":                                     impl.LoadMissing,
		"MODULE A; END.":                                                            impl.LoadMissing,
		"MODULE B; PROC f*(x); BEGIN END; END.":                                     impl.LoadName,
	} {
		a := compiled(t, text)
		if _, code := impl.Link([]impl.Object{a, b}); code != want {
			t.Errorf("%s: Link = %d, want %d", text, code, want)
		}
	}
}

// roomyObjects have room behind the list and behind all that it leads to.
func roomyObjects(l []impl.Object) ([]impl.Object, func() bool) {
	var checks []func() bool
	whole := slices.Concat(l, objects("Room | main", string(l[0].Name)+" | main"))
	for i, o := range whole {
		wide, asItWas := roomyObject(o)
		whole[i] = wide
		checks = append(checks, asItWas)
	}
	kept := slices.Clone(whole)
	return whole[:len(l)], func() bool {
		return slices.EqualFunc(whole, kept, sameObject) && !slices.ContainsFunc(checks, func(check func() bool) bool { return !check() })
	}
}

func TestWhatIsLinkedStays(t *testing.T) {
	r := rand.New(rand.NewSource(104))
	for i := range 600 {
		l := randomObjects(r)
		if i%2 == 1 {
			l = spoilObjects(r, l)
		}
		if len(l) == 0 {
			continue
		}
		want, wantCode := imageByRule(l)
		wide, asItWas := roomyObjects(l)
		for range 2 {
			if m, code := impl.Link(wide); code != wantCode || !sameImage(m, want) {
				t.Fatalf("Link = %v, %d: it looks behind a list's length, or keeps something", m, code)
			}
		}
		if !asItWas() {
			t.Fatal("what was handed in has changed")
		}
	}
}

func TestLinkSharesNothing(t *testing.T) {
	l := objects("A 2 | f=1, g=2", "B | h=3 | A.g=2", "C 3 | main@4 | B.h=3, A.f=1")
	code := []byte("one array")
	l[0].Code, l[1].Code, l[2].Code = code[:3], code[3:6], code
	want, _ := imageByRule(l)
	wide, asItWas := roomyObjects(l)
	one, _ := impl.Link(wide)
	fillRoom(one.Mods)
	fillRoom(one.Words)
	for _, region := range one.Mods {
		fillRoom(region.Code)
	}
	if !sameImage(one, want) || !asItWas() {
		t.Error("what lies behind a list of the answer is another list")
	}
	for i := range l {
		// Codes that share memory when they are handed in share none behind it.
		one, _ = impl.Link(l)
		other, _ := impl.Link(l)
		spoil(one.Mods[i].Code)
		for j, region := range one.Mods {
			if j != i && !bytes.Equal(region.Code, want.Mods[j].Code) {
				t.Error("two lists of one answer share memory")
			}
		}
		one.Mods[i], one.Words[600+i] = impl.Region{}, way(1, 2, 1, 3)
		if !sameImage(other, want) || string(code) != "one array" {
			t.Error("an answer shares memory with another one, or with what was handed in")
		}
	}
}

// A list of length 0 and none are the same, also where they hide something.
func TestEmptyListsOfObjects(t *testing.T) {
	l := objects("A 1", "B | main")
	for i := range l {
		l[i].Imports = []impl.Import{{Mod: []byte("Zz"), Name: []byte("z")}}[:0]
		l[i].Code = []byte{1, 2, 3}[:0]
	}
	l[0].Exports = exports("main", "main")[:0]
	m := wantLinked(t, "empty lists", l, "0; 600-601 0: _1; 601-601 0: ")
	for _, region := range m.Mods {
		region.Code = append(region.Code, 9, 9, 9)
	}
	if !bytes.Equal(l[0].Code[:3], []byte{1, 2, 3}) {
		t.Error("an empty code shares memory")
	}
}
