package tests

import (
	"bytes"
	"fmt"
	"math"
	"math/rand"
	"slices"
	"strings"
	"testing"

	"loop.example/g00335/impl"
)

func textPart(text string) impl.Part { return impl.Part{Text: []byte(text)} }

func bytesPart(o impl.Object, f impl.Face) impl.Part { return impl.Part{Bytes: raw(o), Face: f} }

// partsFrom has a part for each: what wildPart reads, where there is a | in it,
// else a text, whatever it is.
func partsFrom(t *testing.T, texts ...string) []impl.Part {
	t.Helper()
	var l []impl.Part
	var faces []impl.Face
	for _, text := range texts {
		if strings.Contains(text, "|") {
			o, f := wildPart(t, text, faces)
			l, faces = append(l, bytesPart(o, f)), append(faces, f)
			continue
		}
		l = append(l, textPart(text))
		if m, told, _ := impl.Parse([]byte(text)); told == impl.ParseWell {
			faces = append(faces, faceByRule(m))
		}
	}
	return l
}

func partText(p impl.Part) string {
	if len(p.Text) > 0 {
		return strings.ToValidUTF8(fmt.Sprintf("%.300s", p.Text), "?")
	}
	return fmt.Sprintf("%.60q as %v", p.Bytes, p.Face)
}

func partsText(l []impl.Part) string {
	var texts []string
	for _, p := range l {
		texts = append(texts, partText(p))
	}
	return strings.Join(texts, "\n")
}

func sameBuild(a, b impl.Build) bool {
	return a.Code == b.Code && a.Which == b.Which && a.At == b.At && slices.EqualFunc(a.Objs, b.Objs, sameObject)
}

func buildText(b impl.Build) string {
	return fmt.Sprintf("%d, %d, %d and %d objects", b.Code, b.Which, b.At, len(b.Objs))
}

func wantBuild(t *testing.T, what string, parts []impl.Part, want impl.Build) {
	t.Helper()
	if got := impl.Make(parts); !sameBuild(got, want) {
		t.Errorf("%s: Make = %s, want %s of\n%s", what, buildText(got), buildText(want), partsText(parts))
	}
}

// wantPartsRefused is for code, Which and At, and for what RunParts tells of it.
func wantPartsRefused(t *testing.T, what string, parts []impl.Part, code, which, at int) {
	t.Helper()
	wantBuild(t, what, parts, impl.Build{Code: code, Which: which, At: at})
	if r := impl.RunParts(parts, []int{1}, 100); !isZeroResult(r) {
		t.Errorf("%s: RunParts = %+v", what, outcomeOf(r))
	}
}

func wantMade(t *testing.T, what string, parts []impl.Part, objs []impl.Object) {
	t.Helper()
	wantBuild(t, what, parts, impl.Build{Objs: objs})
	if r, want := impl.RunParts(parts, []int{1, 2}, 300), impl.Run(objs, []int{1, 2}, 300); !sameResult(r, want) || r.End == impl.EndRefused {
		t.Errorf("%s: RunParts = %+v, want %+v", what, outcomeOf(r), outcomeOf(want))
	}
}

func TestCodesOfBuild(t *testing.T) {
	codes := []int{impl.BuildWell, impl.BuildLong, impl.BuildByte, impl.BuildForm, impl.BuildName, impl.BuildUse, impl.BuildKind, impl.BuildLarge, impl.BuildObject, impl.BuildLink}
	for want, code := range codes {
		if code != want {
			t.Errorf("%d: %d", want, code)
		}
	}
}

// What Make makes is what Compile makes over the faces ahead, and what the
// bytes are.
func TestPartsThatAreMade(t *testing.T) {
	const user = "MODULE M; IMPORT W; VAR a[3]; PROC main*(); BEGIN OUT W.f(@a, 2); END; END."
	lists := [][]string{
		{mainText("OUT 3;")},
		{"W | main # out A0; back"},
		{"W | main #"},
		{"W 200 | a, b, c, d, e, f, g, main # main: back"},
		{counter, mainText("OUT 3;")},
		{"W 1 | f 1 0 # f: len A0 B0; back", user},
		{"MODULE W; PROC f*(@x, y); BEGIN x[0] := y; RETURN LEN x; END; END.", user},
		{"W 1 | f 1 0 # f: len A0 B0; back", "V | g 0 | W.f # g: back", user},
		{"V | g | # g: back", "W | f 1 0, g, main | V.g # f: back", "U | main | W.g, V.g # load A4 B6; cross A4; back"},
	}
	for _, form := range worldForms {
		lists = append(lists, form.parts)
	}
	for _, l := range lists {
		p := programOf(t, l...)
		wantMade(t, strings.Join(l, "\n"), p.parts, p.objs)
		wantMade(t, strings.Join(l, "\n"), partsFrom(t, l...), p.objs)
	}
}

// From none to more than MaxMods; with too many nothing else is told.
func TestCountsOfParts(t *testing.T) {
	wantPartsRefused(t, "none", nil, impl.BuildLink, impl.LoadForm, 0)
	wantPartsRefused(t, "an empty list", partsFrom(t, mainText(""))[:0], impl.BuildLink, impl.LoadForm, 0)
	for what, form := range map[string]string{
		"texts":   "MODULE M%d; PROC main*(); BEGIN OUT 1; END; END.",
		"objects": "M%d 5 | main # out A1; back",
	} {
		var l []string
		for i := range 12 {
			l = append(l, fmt.Sprintf(form, i))
			switch parts := partsFrom(t, l...); {
			case len(l) <= 8:
				wantMade(t, fmt.Sprint(len(l), " ", what), parts, programOf(t, l...).objs)
			default:
				wantPartsRefused(t, fmt.Sprint(len(l), " ", what), parts, impl.BuildLink, 0, 0)
			}
		}
	}
	wantPartsRefused(t, "nine zero parts", make([]impl.Part, 9), impl.BuildLink, 0, 0)
	wantPartsRefused(t, "eight zero parts", make([]impl.Part, 8), impl.BuildObject, 0, 0)
	wantPartsRefused(t, "many zero parts", make([]impl.Part, 5000), impl.BuildLink, 0, 0)
	for _, wrong := range wrongParts(t) {
		for at := range 9 {
			parts := partsFrom(t, repeated(9, mainText(""))...)
			parts[at] = wrong.part
			wantPartsRefused(t, "nine, "+wrong.what, parts, impl.BuildLink, 0, 0)
		}
	}
}

// wrongPart is refused wherever it stands, whatever else does; its name is
// Wrong, where it has one.
type wrongPart struct {
	what string
	part impl.Part
	code int
	at   int
}

var longText = "MODULE Wrong;" + strings.Repeat(" ", 2984) + "END."

// largeText has a code of so many instructions.
func largeText(count int) string {
	m := codeOfSize(count)
	m.Name = []byte("Wrong")
	return textByRule(m)
}

var wrongTexts = []struct {
	text string
	code int
	at   int
}{
	{longText, impl.BuildLong, 0},
	{"?" + longText, impl.BuildLong, 0},
	{strings.Repeat(" ", 3001), impl.BuildLong, 0},
	{"MODULE Wrong;" + strings.Repeat("VAR x;", 9) + "END.", impl.BuildLong, 0},
	{"MODULE Wrong; PROC f(); BEGIN " + strings.Repeat("TRAP 1;", 251) + "END; END.", impl.BuildLong, 0},
	{"MODULE Wrong; VAR a[21]; END.", impl.BuildLong, 0},
	{"?", impl.BuildByte, 0},
	{"MODULE Wrong; ?", impl.BuildByte, 14},
	{"MODULE Wrong; END.\x00", impl.BuildByte, 18},
	{"MODULE MODULE \xff", impl.BuildByte, 14},
	{"MODULE Wrong; VAR x[0]; :", impl.BuildByte, 24},
	{" ", impl.BuildForm, 1},
	{"\n\n\n", impl.BuildForm, 3},
	{"x", impl.BuildForm, 0},
	{"MODULE", impl.BuildForm, 6},
	{"MODULE wrong; END.", impl.BuildForm, 7},
	{"MODULE Wrong; END", impl.BuildForm, 17},
	{"MODULE Wrong; END. .", impl.BuildForm, 19},
	{"MODULE Wrong; VAR x[0]; END.", impl.BuildForm, 20},
	{"MODULE Wrong; PROC f(); BEGIN TRAP 100; END; END.", impl.BuildForm, 35},
	{"MODULE Wrong; VAR x; VAR x; END.", impl.BuildName, 0},
	{"MODULE Wrong; PROC f(); BEGIN OUT x; END; END.", impl.BuildName, 0},
	{"MODULE Wrong; PROC f(); BEGIN CALL Wrong.f(); END; END.", impl.BuildName, 0},
	{"MODULE Wrong; IMPORT None; END.", impl.BuildUse, 0},
	{"MODULE Wrong; IMPORT Wrong; END.", impl.BuildUse, 0},
	{"MODULE Wrong; PROC f(); BEGIN CALL f(1); END; END.", impl.BuildKind, 0},
	{"MODULE Wrong; VAR a[2]; PROC f(x); BEGIN CALL f(@a); END; END.", impl.BuildKind, 0},
	{largeText(751), impl.BuildLarge, 0},
	// several reasons: the one that Parse or Check tells, then CompLarge
	{"MODULE Wrong; VAR x; VAR x; IMPORT None; END.", impl.BuildForm, 28},
	{"MODULE Wrong; IMPORT None; VAR x; VAR x; END.", impl.BuildName, 0},
	{"MODULE Wrong; IMPORT None; PROC f(); BEGIN OUT x; END; END.", impl.BuildUse, 0},
	{"MODULE Wrong; PROC f(); BEGIN CALL f(1); OUT x; END; END.", impl.BuildName, 0},
	{strings.Replace(largeText(751), "RETURN 1", "CALL p ( 1 )", 1), impl.BuildKind, 0},
	{strings.Replace(largeText(760), "RETURN 1", "RETURN z", 1), impl.BuildName, 0},
	{strings.Replace(largeText(751), "RETURN 1", "RETURN ?", 1), impl.BuildByte, 41},
}

// wrongObjects are changes to an object with a face; each alone is refused.
var wrongObjects = map[string]func(o *impl.Object, f *impl.Face){
	"no Name of the face":             func(o *impl.Object, f *impl.Face) { f.Name = nil },
	"another Name of the face":        func(o *impl.Object, f *impl.Face) { f.Name = []byte("Wrang") },
	"a longer Name of the face":       func(o *impl.Object, f *impl.Face) { f.Name = []byte("Wrong0") },
	"a shorter Name of the face":      func(o *impl.Object, f *impl.Face) { f.Name = []byte("Wron") },
	"another Name of the object":      func(o *impl.Object, f *impl.Face) { o.Name = []byte("Wrang") },
	"small Names of both":             func(o *impl.Object, f *impl.Face) { o.Name, f.Name = []byte("wrong"), []byte("wrong") },
	"no Names of both":                func(o *impl.Object, f *impl.Face) { o.Name, f.Name = nil, nil },
	"no face at all":                  func(o *impl.Object, f *impl.Face) { *f = impl.Face{} },
	"a face of no procedures":         func(o *impl.Object, f *impl.Face) { f.Procs = nil },
	"the last procedure lacks":        func(o *impl.Object, f *impl.Face) { f.Procs = f.Procs[:2] },
	"the first procedure lacks":       func(o *impl.Object, f *impl.Face) { f.Procs = f.Procs[1:] },
	"the last export lacks":           func(o *impl.Object, f *impl.Face) { o.Exports = o.Exports[:2] },
	"the first export lacks":          func(o *impl.Object, f *impl.Face) { o.Exports = o.Exports[1:] },
	"no exports":                      func(o *impl.Object, f *impl.Face) { o.Exports = nil },
	"a procedure too many":            func(o *impl.Object, f *impl.Face) { f.Procs = append(f.Procs, impl.FaceProc{Name: []byte("z")}) },
	"an export too many":              func(o *impl.Object, f *impl.Face) { o.Exports = append(o.Exports, exportsOf(face("Wrong", "z"))...) },
	"two procedures in another order": func(o *impl.Object, f *impl.Face) { f.Procs[0], f.Procs[1] = f.Procs[1], f.Procs[0] },
	"two exports in another order":    func(o *impl.Object, f *impl.Face) { o.Exports[1], o.Exports[2] = o.Exports[2], o.Exports[1] },
	"another Kind":                    func(o *impl.Object, f *impl.Face) { f.Procs[0].Kinds = []int{0, 0} },
	"another first Kind":              func(o *impl.Object, f *impl.Face) { f.Procs[0].Kinds = []int{1, 1} },
	"two Kinds in another order":      func(o *impl.Object, f *impl.Face) { f.Procs[0].Kinds = []int{1, 0} },
	"a Kind too few":                  func(o *impl.Object, f *impl.Face) { f.Procs[0].Kinds = []int{0} },
	"a Kind too many":                 func(o *impl.Object, f *impl.Face) { f.Procs[0].Kinds = []int{0, 1, 0} },
	"no Kinds":                        func(o *impl.Object, f *impl.Face) { f.Procs[0].Kinds = nil },
	"a Kind of the last":              func(o *impl.Object, f *impl.Face) { f.Procs[2].Kinds = []int{0} },
	"a Kind of 2":                     func(o *impl.Object, f *impl.Face) { f.Procs[0].Kinds = []int{0, 2} },
	"a Kind of -1":                    func(o *impl.Object, f *impl.Face) { f.Procs[0].Kinds = []int{0, -1} },
	"another Name of a procedure":     func(o *impl.Object, f *impl.Face) { f.Procs[1].Name = []byte("h") },
	"another Name of an export":       func(o *impl.Object, f *impl.Face) { o.Exports[1].Name = []byte("h") },
	"another Name of both": func(o *impl.Object, f *impl.Face) {
		f.Procs[1].Name, o.Exports[1].Name = []byte("h"), []byte("h")
	},
	"another Print":             func(o *impl.Object, f *impl.Face) { o.Exports[0].Print ^= 1 },
	"another Print of the last": func(o *impl.Object, f *impl.Face) { o.Exports[2].Print ^= 1 << 30 },
	"a Print of 0":              func(o *impl.Object, f *impl.Face) { o.Exports[1].Print = 0 },
	"two Prints in another order": func(o *impl.Object, f *impl.Face) {
		o.Exports[0].Print, o.Exports[1].Print = o.Exports[1].Print, o.Exports[0].Print
	},
	"five Kinds": func(o *impl.Object, f *impl.Face) {
		f.Procs[1].Kinds = make([]int, 5)
		o.Exports[1].Print = fingerByRule(f.Procs[1])
	},
	"a great Name of both":     func(o *impl.Object, f *impl.Face) { renameBoth(o, f, 1, "G") },
	"no Name of both":          func(o *impl.Object, f *impl.Face) { renameBoth(o, f, 1, "") },
	"a Name of nine bytes":     func(o *impl.Object, f *impl.Face) { renameBoth(o, f, 1, "abcdefghi") },
	"two of one Name":          func(o *impl.Object, f *impl.Face) { renameBoth(o, f, 1, "f") },
	"two of one Name and Kind": func(o *impl.Object, f *impl.Face) { f.Procs[1] = f.Procs[0]; o.Exports[1] = o.Exports[0] },
	"nine procedures": func(o *impl.Object, f *impl.Face) {
		f.Procs = face("Wrong", named(9)...).Procs
		o.Exports = exportsOf(*f)
	},
	"too much data":     func(o *impl.Object, f *impl.Face) { o.Data = impl.MaxData + 1 },
	"too much code":     func(o *impl.Object, f *impl.Face) { o.Code = make([]byte, impl.MaxCode+1) },
	"too many imports":  func(o *impl.Object, f *impl.Face) { o.Imports = imports(named(9)...) },
	"a wrong import":    func(o *impl.Object, f *impl.Face) { o.Imports = imports("Z") },
	"an export's place": func(o *impl.Object, f *impl.Face) { o.Exports[0].At = impl.MaxWords + 1 },
}

func renameBoth(o *impl.Object, f *impl.Face, at int, name string) {
	f.Procs[at].Name, o.Exports[at].Name = []byte(name), []byte(name)
	o.Exports[at].Print = fingerByRule(f.Procs[at])
}

// wrongBytes are changes to an object's bytes.
var wrongBytes = map[string]func(b []byte) []byte{
	"no bytes":        func(b []byte) []byte { return nil },
	"empty bytes":     func(b []byte) []byte { return b[:0] },
	"one byte":        func(b []byte) []byte { return b[:1] },
	"two bytes":       func(b []byte) []byte { return b[:2] },
	"a byte too few":  func(b []byte) []byte { return b[:len(b)-1] },
	"a byte too many": func(b []byte) []byte { return join(b, []byte{0}) },
	"a 10 behind":     func(b []byte) []byte { return join(b, []byte{10}) },
	"a blank ahead":   func(b []byte) []byte { return join([]byte{' '}, b) },
	"twice":           func(b []byte) []byte { return join(b, b) },
	"another start":   func(b []byte) []byte { return join([]byte("BI"), b[2:]) },
	"another writing": func(b []byte) []byte { return join([]byte("BH\x85\x00"), b[3:]) },
	"a text":          func(b []byte) []byte { return []byte("MODULE Wrong; END.") },
}

const wrongWild = "Wrong 2 | f 0 1, g 0, main # f: out A0; back; g: back; main: in A0; back"

func wrongParts(t *testing.T) []wrongPart {
	t.Helper()
	var l []wrongPart
	for _, w := range wrongTexts {
		l = append(l, wrongPart{fmt.Sprintf("%.80q", w.text), textPart(w.text), w.code, w.at})
	}
	for what, change := range wrongObjects {
		o, f := wildPart(t, wrongWild, nil)
		change(&o, &f)
		l = append(l, wrongPart{what, bytesPart(o, f), impl.BuildObject, 0})
	}
	for what, change := range wrongBytes {
		o, f := wildPart(t, wrongWild, nil)
		l = append(l, wrongPart{what, impl.Part{Bytes: change(raw(o)), Face: f}, impl.BuildObject, 0})
	}
	return append(l, wrongPart{what: "the zero value", code: impl.BuildObject})
}

// Each at each place, ahead of parts that are as they must be and behind them.
func TestPartsThatAreRefused(t *testing.T) {
	if len(wrongParts(t)) != len(wrongTexts)+len(wrongObjects)+len(wrongBytes)+1 {
		t.Fatal("not all of them")
	}
	good := []string{counter, "V 1 | f 0, g | A.add # f: back; g: back", mainText("OUT 1;")}
	for _, w := range wrongParts(t) {
		wantPartsRefused(t, w.what, []impl.Part{w.part}, w.code, 0, w.at)
		for at := range len(good) + 1 {
			parts := slices.Insert(partsFrom(t, good...), at, w.part)
			wantPartsRefused(t, fmt.Sprintf("%s at %d", w.what, at), parts, w.code, at, w.at)
		}
	}
	// The one that all these are made of is taken.
	p := programOf(t, wrongWild)
	wantMade(t, "none of these", p.parts, p.objs)
}

// Of two parts that are refused the first one counts, whatever both are, and
// whatever Link would tell.
func TestTheFirstPartCounts(t *testing.T) {
	good := partsFrom(t, "MODULE G; END.", "H | f # back")
	l := wrongParts(t)
	for _, one := range l {
		for _, other := range l {
			wantBuild(t, one.what+" and "+other.what, []impl.Part{one.part, other.part}, impl.Build{Code: one.code, At: one.at})
			parts := []impl.Part{good[0], one.part, good[1], other.part}
			wantBuild(t, one.what+" and "+other.what+" among others", parts, impl.Build{Code: one.code, Which: 1, At: one.at})
		}
		missing := partsFrom(t, "MODULE Zz; END.")
		o, f := wildPart(t, "Y | main # back", nil)
		o.Imports = imports("p")
		missing = append(missing, bytesPart(o, f), one.part)
		wantPartsRefused(t, one.what+" behind an import of nothing", missing, one.code, 2, one.at)
	}
}

// A part with Text is that text, whatever Bytes and Face are.
func TestTextsWithBytes(t *testing.T) {
	o, f := wildPart(t, wrongWild, nil)
	own, ownFace := wildPart(t, "M | main # trap", nil)
	rests := map[string]impl.Part{
		"bytes of nothing":     {Bytes: []byte{1, 2, 3}},
		"a face alone":         {Face: f},
		"a face that is none":  {Face: impl.Face{Name: []byte("x"), Procs: make([]impl.FaceProc, 20)}},
		"an object":            bytesPart(o, f),
		"an object of another": bytesPart(o, ownFace),
		"one of its own name":  bytesPart(own, ownFace),
	}
	const text = "MODULE M; PROC main*(); BEGIN OUT 4; END; END."
	for what, rest := range rests {
		p := programOf(t, counter, text)
		parts := p.parts
		parts[1].Bytes, parts[1].Face = rest.Bytes, rest.Face
		wantMade(t, what, parts, p.objs)
		parts[0].Bytes, parts[0].Face = rest.Bytes, rest.Face
		wantMade(t, what+", twice", parts, p.objs)
		for _, w := range wrongTexts {
			wrong := impl.Part{Text: []byte(w.text), Bytes: rest.Bytes, Face: rest.Face}
			wantPartsRefused(t, what+" beside "+w.text[:1], []impl.Part{parts[0], wrong}, w.code, 1, w.at)
		}
	}
	// Others see the text's face, and its name alone.
	user := textPart("MODULE U; IMPORT M; PROC main*(); BEGIN CALL M.main(); END; END.")
	parts := []impl.Part{{Text: []byte(text), Bytes: raw(o), Face: f}, user}
	wantMade(t, "a use of a text with bytes", parts, programOf(t, text, string(user.Text)).objs)
	wrong := textPart("MODULE U; IMPORT Wrong; PROC main*(); BEGIN CALL Wrong.main(); END; END.")
	wantPartsRefused(t, "a use of the bytes", []impl.Part{parts[0], wrong}, impl.BuildUse, 1, 0)
	wantMade(t, "a name that the bytes have alone", []impl.Part{parts[0], bytesPart(o, f)}, programOf(t, text, wrongWild).objs)
}

// What a name that a part ahead has is told as, and what is told ahead of it.
func TestNamesOfPartsAhead(t *testing.T) {
	const text, wild = "MODULE A; PROC main*(); BEGIN END; END.", "A 1 | main # back"
	for _, form := range []struct {
		parts []string
		code  int
		which int
	}{
		{[]string{text, text}, impl.BuildName, 1},
		{[]string{wild, text}, impl.BuildName, 1},
		{[]string{text, wild}, impl.BuildObject, 1},
		{[]string{wild, wild}, impl.BuildObject, 1},
		{[]string{text, "MODULE B; END.", text}, impl.BuildName, 2},
		{[]string{text, "B | f # back", wild}, impl.BuildObject, 2},
		{[]string{"MODULE B; END.", wild, "C | f # back", text}, impl.BuildName, 3},
		{[]string{"MODULE B; END.", text, "C | f # back", wild, text}, impl.BuildObject, 3},
		// other faces, another case, a longer one
		{[]string{"MODULE A; END.", "A | f 0 1, main # back"}, impl.BuildObject, 1},
		{[]string{"A | f 0 1 # back", "MODULE A; END."}, impl.BuildName, 1},
		{[]string{"MODULE Aa; END.", "MODULE A; END.", "MODULE A1; END.", "A2 | f # back", "MODULE Aa; END."}, impl.BuildName, 4},
		// what Compile tells comes first
		{[]string{text, "MODULE A; IMPORT A; END."}, impl.BuildUse, 1},
		{[]string{text, "MODULE A; IMPORT B; END."}, impl.BuildUse, 1},
		{[]string{text, "MODULE A; PROC f(x); BEGIN CALL f(); END; END."}, impl.BuildKind, 1},
		{[]string{text, "MODULE A; PROC f(); BEGIN OUT x; END; END."}, impl.BuildName, 1},
		{[]string{"MODULE Wrong; END.", largeText(751)}, impl.BuildLarge, 1},
		{[]string{"MODULE Wrong; END.", largeText(750)}, impl.BuildName, 1},
		{[]string{text, "MODULE A"}, impl.BuildForm, 1},
	} {
		parts, at := partsFrom(t, form.parts...), 0
		if form.code == impl.BuildForm {
			at = 8
		}
		wantPartsRefused(t, strings.Join(form.parts, "\n"), parts, form.code, form.which, at)
	}
	for _, l := range [][]string{{"MODULE Aa; END.", text}, {"A1 | f # back", wild}, {"Ab | f # back", text}, {"MODULE B; END.", wild}} {
		p := programOf(t, l...)
		wantMade(t, "unlike names", p.parts, p.objs)
	}
}

// What texts see of a part without Text is its Face.
func TestUsesOfBytes(t *testing.T) {
	const wild = "W 1 | f 0 1, g # f: out A0; len A0 B1; back; g: int A0 N7; back"
	body := func(s string) string {
		return "MODULE M; IMPORT W; VAR a[3]; PROC main*(); BEGIN " + s + " END; END."
	}
	for s, code := range map[string]int{
		"OUT W.f(5, @a); OUT W.g();": impl.BuildWell,
		"CALL W.g();":                impl.BuildWell,
		"OUT W.h();":                 impl.BuildName,
		"OUT V.g();":                 impl.BuildName,
		"OUT W.g(1);":                impl.BuildKind,
		"OUT W.f(5);":                impl.BuildKind,
		"OUT W.f(5, 6);":             impl.BuildKind,
		"OUT W.f(@a, 5);":            impl.BuildKind,
		"OUT W.f(5, @a, 5);":         impl.BuildKind,
	} {
		if parts := partsFrom(t, wild, body(s)); code != impl.BuildWell {
			wantPartsRefused(t, s, parts, code, 1, 0)
		} else {
			wantMade(t, s, parts, programOf(t, wild, body(s)).objs)
		}
	}
	r := impl.RunParts(partsFrom(t, wild, body("OUT W.f(5, @a); OUT W.g();")), nil, 500)
	wantSame(t, "calls of bytes", stepless(r), "exit: call 1 0.0 5 @3; out 0 5; back 0 1 3; out 1 3; call 1 0.1; back 0 1 7; out 1 7")
	wantPartsRefused(t, "bytes behind the text", partsFrom(t, body("OUT W.g();"), "W | f 0 1, g # back"), impl.BuildUse, 0, 0)
	wantPartsRefused(t, "a use of bytes that nobody calls", partsFrom(t, body(""), wild), impl.BuildUse, 0, 0)
	wantMade(t, "a use ahead that nobody calls", partsFrom(t, wild, body("")), programOf(t, wild, body("")).objs)
	// A procedure that the object has at the same place, but another face names.
	wantPartsRefused(t, "a text without it", partsFrom(t, "MODULE W; PROC f(); BEGIN END; END.", body("OUT W.f();")), impl.BuildName, 1, 0)
}

// Each of Link's codes; two of one Name are refused ahead of it.
func TestLinkOfParts(t *testing.T) {
	wild := func(change func(o *impl.Object)) []impl.Part {
		l := partsFrom(t, counter, "V | f 0 # back")
		o, f := wildPart(t, "W | g, main # back", nil)
		change(&o)
		l = append(l, bytesPart(o, f))
		return append(l, partsFrom(t, "MODULE U; PROC f*(x); BEGIN END; PROC main*(); BEGIN END; END.")...)
	}
	print := func(name string, kinds ...int) int {
		return fingerByRule(impl.FaceProc{Name: []byte(name), Kinds: kinds})
	}
	importing := func(mod, name string, print int) func(o *impl.Object) {
		return func(o *impl.Object) {
			o.Imports = append(o.Imports, impl.Import{Mod: []byte(mod), Name: []byte(name), Print: print})
		}
	}
	for what, change := range map[string]func(o *impl.Object){
		"nothing": func(o *impl.Object) {}, "of a text": importing("A", "add", print("add", 0)), "of bytes": importing("V", "f", print("f", 0)),
	} {
		if b := impl.Make(wild(change)); b.Code != impl.BuildWell || len(b.Objs) != 4 {
			t.Errorf("an import %s: %s", what, buildText(b))
		}
	}
	for what, change := range map[string]func(o *impl.Object){
		"of nobody":         importing("Z", "f", print("f", 0)),
		"of another name":   importing("A", "adx", print("adx", 0)),
		"of another print":  importing("A", "add", print("add", 1)),
		"of a print of 0":   importing("V", "f", 0),
		"of itself":         importing("W", "g", print("g")),
		"of one behind":     importing("U", "f", print("f", 0)),
		"that is no export": importing("A", "n", print("n")),
	} {
		wantPartsRefused(t, "an import "+what, wild(change), impl.BuildLink, impl.LoadMissing, 0)
	}
	for _, last := range []string{
		"MODULE M; END.", "MODULE M; PROC main(); BEGIN END; END.", "MODULE M; PROC main*(x); BEGIN END; END.", "MODULE M; PROC main*(@x); BEGIN END; END.",
		"MODULE M; PROC mai*(); BEGIN END; END.", "MODULE M; VAR main; END.", "M | f # back", "M | main 0 # back", "M | main 1 # back", "M | # back",
	} {
		wantPartsRefused(t, last, partsFrom(t, last), impl.BuildLink, impl.LoadMain, 0)
		wantPartsRefused(t, last+" behind main", partsFrom(t, mainText("OUT 1;"), "W | main # back", last), impl.BuildLink, impl.LoadMain, 0)
		missing := wild(importing("Z", "f", 1))
		missing = append(missing, partsFrom(t, last)...)
		wantPartsRefused(t, last+", and an import of nobody", missing, impl.BuildLink, impl.LoadMissing, 0)
	}
	wantPartsRefused(t, "one Name", partsFrom(t, "W | main # back", "W | main # back"), impl.BuildObject, 1, 0)
	wantPartsRefused(t, "no parts", nil, impl.BuildLink, impl.LoadForm, 0)
}

// Each limit is met exactly, and passed by one.
func TestLimitsOfParts(t *testing.T) {
	const head, tail = "MODULE M; PROC main*(); BEGIN OUT 1;", "END; END."
	want := programOf(t, head+tail).objs
	for _, count := range []int{0, 1, 2999 - len(head+tail), 3000 - len(head+tail)} {
		for _, blank := range []string{" ", "\n"} {
			for _, text := range []string{head + strings.Repeat(blank, count) + tail, strings.Repeat(blank, count) + head + tail, head + tail + strings.Repeat(blank, count)} {
				wantMade(t, fmt.Sprint(len(text), " bytes"), []impl.Part{textPart(text)}, want)
				if count > 0 && len(text) == impl.MaxProgram {
					wantPartsRefused(t, "one more", []impl.Part{textPart(text + " ")}, impl.BuildLong, 0, 0)
				}
			}
		}
	}
	if len(longText) != impl.MaxProgram+1 || len(textByRule(parsed(t, longText[:len(longText)-5]+"END."))) > 3000 {
		t.Error(len(longText))
	}
	for _, count := range []int{734, 735, 744, 745, 746, 750} {
		m := codeOfSize(count)
		m.Procs[0].Open, m.Procs[0].Name = true, []byte("main")
		parts := []impl.Part{textPart(textByRule(m))}
		if size := 12 * (count + 5); size <= impl.MaxCode {
			o, _ := objectOfModule(m, nil)
			wantMade(t, fmt.Sprint(size, " bytes of code"), parts, []impl.Object{o})
		} else {
			wantPartsRefused(t, fmt.Sprint(size, " bytes of code"), parts, impl.BuildLarge, 0, 0)
		}
	}
	calls := func(count int) string {
		text := "MODULE M; IMPORT A; IMPORT B; PROC main*(); BEGIN "
		for i := range count {
			text += fmt.Sprintf("CALL %c.%s();", 'A'+i/8, named(8)[i%8])
		}
		return text + "END; END."
	}
	procs := strings.Join(named(8), ", ")
	for count := range 12 {
		l := []string{"A | " + procs + " # back", "B 200 | " + procs + " # back", calls(count)}
		if count <= impl.MaxImports {
			wantMade(t, fmt.Sprint(count, " imports"), partsFrom(t, l...), programOf(t, l...).objs)
		} else {
			wantPartsRefused(t, fmt.Sprint(count, " imports"), partsFrom(t, l...), impl.BuildLarge, 2, 0)
		}
	}
	full := fullObject()
	full.Imports, full.Exports[7] = nil, impl.Export{Name: []byte("main"), Print: mainPrint, At: impl.MaxWords}
	f := impl.Face{Name: full.Name}
	for i, e := range full.Exports {
		f.Procs = append(f.Procs, impl.FaceProc{Name: e.Name, Kinds: make([]int, 4*truthByRule(i < 7))})
		full.Exports[i].Print = fingerByRule(f.Procs[i])
	}
	wantMade(t, "the largest object", []impl.Part{bytesPart(full, f)}, []impl.Object{full})
}

// makeByRule goes by the words of the chapter, with what the tests have of the
// chapters ahead.
func makeByRule(parts []impl.Part) impl.Build {
	if len(parts) > 8 {
		return impl.Build{Code: 9}
	}
	var objs []impl.Object
	var faces []impl.Face
	for i, p := range parts {
		if len(p.Text) == 0 {
			o, ok := objectByRule(p.Bytes)
			ok = ok && faceOkByRule(p.Face) && string(o.Name) == string(p.Face.Name) && len(o.Exports) == len(p.Face.Procs)
			for j := 0; ok && j < len(o.Exports); j++ {
				e, q := o.Exports[j], p.Face.Procs[j]
				ok = string(e.Name) == string(q.Name) && e.Print == fingerByRule(q)
			}
			if _, taken := faceByName(faces, p.Face.Name); !ok || taken {
				return impl.Build{Code: 8, Which: i}
			}
			objs, faces = append(objs, o), append(faces, p.Face)
			continue
		}
		m, told, at := impl.Parse(p.Text)
		if told != 0 {
			return impl.Build{Code: told, Which: i, At: at}
		}
		o, told := objectOfModule(m, faces)
		if told != 0 {
			return impl.Build{Code: []int{0, 0, 4, 5, 6, 7}[told], Which: i}
		}
		if _, taken := faceByName(faces, m.Name); taken {
			return impl.Build{Code: 4, Which: i}
		}
		objs, faces = append(objs, o), append(faces, faceByRule(m))
	}
	if _, told := imageByRule(objs); told != 0 {
		return impl.Build{Code: 9, Which: told}
	}
	return impl.Build{Objs: objs}
}

// randomParts are texts and objects over each other, arrays between them, too.
func randomParts(r *rand.Rand) []impl.Part {
	var p program
	count := 1 + r.Intn(5)
	for len(p.objs) < count {
		name, last := fmt.Sprintf("M%d", len(p.objs)), len(p.objs) == count-1
		if r.Intn(3) > 0 {
			p.addText(randomText(r, name, p.world.Faces, last))
			continue
		}
		o, f := randomWildObject(r, name, p.world.Faces, last)
		f = randomFace(r, name, last)
		o.Exports = exportsOf(f)
		p.addWild(o, f)
	}
	return p.parts
}

// spoilText changes a text somewhere, so that it is perhaps none.
func spoilText(r *rand.Rand, text []byte) []byte {
	at := r.Intn(len(text))
	switch r.Intn(9) {
	case 0:
		return text[:at+1]
	case 1:
		return join(text[:at], []byte{byte(r.Intn(256))}, text[at:])
	case 2:
		return join(text[:at], text[at+1:], []byte{' '})
	case 3:
		return join(text, bytes.Repeat([]byte{' '}, max(2999+r.Intn(4)-len(text), 0)))
	case 4:
		return bytes.Replace(text, []byte("MODULE M"), []byte("MODULE N"), 1)
	case 5:
		return bytes.Replace(text, []byte("MODULE M"+string('0'+rune(r.Intn(5)))), []byte("MODULE M"+string('0'+rune(r.Intn(5)))), 1)
	case 6:
		words := bytes.Split(text, []byte(" "))
		i, j := r.Intn(len(words)), r.Intn(len(words))
		words[i] = words[j]
		return bytes.Join(words, []byte(" "))
	}
	return bytes.Replace(text, []byte("END ."), []byte("PROC zz ( ) ; BEGIN CALL "+oneOf(r, []string{"zz ( 1 )", "zz ( 1 )", "yy ( )", "zz ( )", "M0 . f ( )", "f ( )"})+" ; END ; END ."), 1)
}

func spoilFace(r *rand.Rand, f impl.Face) impl.Face {
	f.Procs = slices.Clone(f.Procs)
	if len(f.Procs) == 0 {
		f.Procs = append(f.Procs, impl.FaceProc{Name: []byte("zz")})
		return f
	}
	at := r.Intn(len(f.Procs))
	switch q := &f.Procs[at]; r.Intn(5) {
	case 0:
		q.Kinds = append(slices.Clone(q.Kinds), r.Intn(3))
	case 1:
		q.Kinds = q.Kinds[:len(q.Kinds)/2]
	case 2:
		f.Procs = slices.Delete(f.Procs, at, at+1)
	case 3:
		f.Procs[0], f.Procs[at] = f.Procs[at], f.Procs[0]
	case 4:
		f.Name = []byte("N")
	}
	return f
}

// spoilPart changes a part somehow; some changes leave it as it must be.
func spoilPart(r *rand.Rand, p impl.Part) impl.Part {
	if len(p.Text) > 0 {
		p.Text = spoilText(r, p.Text)
		return p
	}
	if len(p.Bytes) == 0 {
		return p
	}
	o, _ := objectByRule(p.Bytes)
	switch r.Intn(7) {
	case 0:
		p.Bytes = bytes.Clone(p.Bytes)
		p.Bytes[r.Intn(len(p.Bytes))] ^= 1 << r.Intn(8)
	case 1:
		p.Bytes = join(p.Bytes, []byte{byte(r.Intn(3))})
	case 2:
		p.Bytes = p.Bytes[:r.Intn(len(p.Bytes))]
	case 3:
		p.Face = spoilFace(r, p.Face)
	case 4:
		o.Name = fmt.Appendf(nil, "M%d", r.Intn(5))
		p.Bytes, p.Face.Name = raw(o), o.Name
	case 5:
		if len(o.Imports) > 0 {
			o.Imports[r.Intn(len(o.Imports))].Print ^= 1
			p.Bytes = raw(o)
		}
	case 6:
		p.Text = []byte(oneOf(r, []string{" ", "MODULE N; END.", "?"}))
	}
	return p
}

// spoilParts changes one of them or two, how many there are, or their order.
func spoilParts(r *rand.Rand, l []impl.Part) []impl.Part {
	l = slices.Clone(l)
	at, other := r.Intn(len(l)), r.Intn(len(l))
	switch r.Intn(10) {
	case 0:
		l[at], l[other] = l[other], l[at]
	case 1:
		l = slices.Delete(l, at, at+1)
	case 2:
		l = slices.Insert(l, at, l[other])
	case 3:
		l[at] = impl.Part{}
	case 4:
		l = append(l, repeated(r.Intn(8), l[other])...)
	case 5, 6, 7:
		l[at] = spoilPart(r, l[at])
	default:
		l[at] = spoilPart(r, l[at])
		l[other] = spoilPart(r, l[other])
	}
	return l
}

func TestMakeByRule(t *testing.T) {
	t.Parallel()
	r := rand.New(rand.NewSource(127))
	codes, places, links := map[int]int{}, map[int]int{}, map[int]int{}
	for i := range 2500 {
		parts := randomParts(r)
		if i%5 > 0 {
			parts = spoilParts(r, parts)
		}
		got, want := impl.Make(parts), makeByRule(parts)
		if !sameBuild(got, want) {
			t.Fatalf("Make = %s, want %s of\n%s", buildText(got), buildText(want), partsText(parts))
		}
		codes[got.Code]++
		if got.Code == impl.BuildLink {
			links[got.Which]++
		} else {
			places[got.Which]++
		}
	}
	for code := range impl.BuildLink + 1 {
		if codes[code] < 20 && code != impl.BuildLarge {
			t.Errorf("only %d of the code %d: %v", codes[code], code, codes)
		}
	}
	for place := range 5 {
		if places[place] < 50 {
			t.Errorf("only %d at %d", places[place], place)
		}
	}
	for _, told := range []int{0, impl.LoadForm, impl.LoadMissing, impl.LoadMain} {
		if links[told] < 10 {
			t.Errorf("only %d of Link's code %d: %v", links[told], told, links)
		}
	}
}

// TestPromise16 asks Make itself: parts ahead of one that is refused are never
// told as refused, those behind it play no part; what is made is linked.
func TestPromise16(t *testing.T) {
	t.Parallel()
	r := rand.New(rand.NewSource(128))
	refused, made := 0, 0
	for i := range 1500 {
		parts := randomParts(r)
		if i%4 > 0 {
			parts = spoilParts(r, spoilParts(r, append(parts, parts[0])))
		}
		if len(parts) > impl.MaxMods {
			parts = parts[:impl.MaxMods]
		}
		got := impl.Make(parts)
		switch got.Code {
		case impl.BuildWell:
			made++
			if _, told := impl.Link(got.Objs); told != impl.LoadWell || len(got.Objs) != len(parts) || got.Which != 0 || got.At != 0 {
				t.Fatalf("%s, which Link refuses with %d", buildText(got), told)
			}
			for i, o := range got.Objs {
				if !impl.ObjectOk(o) || len(parts[i].Text) == 0 && !bytes.Equal(raw(o), parts[i].Bytes) {
					t.Fatalf("%v is made of\n%s", o, partText(parts[i]))
				}
			}
		case impl.BuildLink:
			for count := range parts {
				if b := impl.Make(parts[:count+1]); b.Code != impl.BuildWell && b.Code != impl.BuildLink {
					t.Fatalf("%s, but of fewer %s", buildText(got), buildText(b))
				}
			}
		default:
			refused++
			for count := range got.Which {
				if b := impl.Make(parts[:count+1]); b.Code != impl.BuildWell && b.Code != impl.BuildLink {
					t.Fatalf("%s, but of the first %d %s", buildText(got), count+1, buildText(b))
				}
			}
			for _, rest := range [][]impl.Part{nil, {{}}, {parts[0]}, {textPart("?")}} {
				if b := impl.Make(slices.Concat(parts[:got.Which+1], rest)); len(rest)+got.Which < 8 && !sameBuild(b, got) {
					t.Fatalf("%s, but with others behind it %s", buildText(got), buildText(b))
				}
			}
		}
	}
	if refused < 300 || made < 300 {
		t.Error(refused, made)
	}
}

// What RunParts takes of input and fuel is what Run takes.
func TestInputAndFuelOfParts(t *testing.T) {
	loop := partsFrom(t, "MODULE A; PROC f*(); BEGIN WHILE 1 DO OUT IN; END; END; END.", "W | main | A.f # load A4 B6; cross A4; back")
	objs := impl.Make(loop).Objs
	for _, fuel := range []int{0, 1, 2, 3, 50, impl.MaxFuel - 1, impl.MaxFuel} {
		r := impl.RunParts(loop, []int{4}, fuel)
		if r.End != impl.EndFuel || r.Steps != fuel || !sameResult(r, impl.Run(objs, []int{4}, fuel)) {
			t.Errorf("fuel %d: %d after %d steps", fuel, r.End, r.Steps)
		}
	}
	for _, fuel := range []int{-1, impl.MaxFuel + 1, math.MinInt, math.MaxInt, -impl.MaxFuel} {
		if r := impl.RunParts(loop, nil, fuel); !isZeroResult(r) {
			t.Errorf("fuel %d: %+v", fuel, outcomeOf(r))
		}
	}
	echo := partsFrom(t, "MODULE M; PROC main*(); BEGIN OUT IN; OUT IN; END; END.")
	for _, form := range []struct {
		input []int
		want  string
	}{
		{nil, "exit: in 0 0; out 0 0; in 0 0; out 0 0"},
		{[]int{}, "exit: in 0 0; out 0 0; in 0 0; out 0 0"},
		{[]int{7}, "exit: in 0 7; out 0 7; in 0 0; out 0 0"},
		{[]int{7, -8}, "exit: in 0 7; out 0 7; in 0 -8; out 0 -8"},
		{[]int{7, -8, 9, 10}, "exit: in 0 7; out 0 7; in 0 -8; out 0 -8"},
		{append([]int{math.MaxInt32, math.MinInt32}, make([]int, 98)...), "exit: in 0 2147483647; out 0 2147483647; in 0 -2147483648; out 0 -2147483648"},
	} {
		wantSame(t, fmt.Sprint(form.input), stepless(impl.RunParts(echo, form.input, 100)), form.want)
	}
	for _, input := range [][]int{make([]int, 101), make([]int, 5000), {math.MaxInt32 + 1}, {1, 2, 3, math.MinInt32 - 1}, {math.MaxInt}} {
		if r := impl.RunParts(echo, input, 100); !isZeroResult(r) {
			t.Errorf("%d numbers: %+v", len(input), outcomeOf(r))
		}
	}
	for _, w := range wrongParts(t) {
		for _, fuel := range []int{-1, 0, 100, impl.MaxFuel} {
			if r := impl.RunParts([]impl.Part{echo[0], w.part}, []int{1}, fuel); !isZeroResult(r) {
				t.Errorf("%s: %+v", w.what, outcomeOf(r))
			}
		}
	}
	if r := impl.RunParts(nil, nil, 100); !isZeroResult(r) {
		t.Error(outcomeOf(r))
	}
}

func (w *watcher) parts(l []impl.Part) []impl.Part {
	out := slices.Clone(l)
	for i, p := range out {
		text := widened(w, p.Text, []byte(" PROC zz ( ) ; BEGIN END ; END .")...)
		out[i] = impl.Part{Text: text, Bytes: widened(w, p.Bytes, 0, 0, 255), Face: w.face(p.Face)}
	}
	return widened(w, out, textPart("MODULE Room; PROC main*(); BEGIN OUT 99; END; END."), impl.Part{})
}

func TestPartsHandedInStay(t *testing.T) {
	r := rand.New(rand.NewSource(129))
	for i := range 600 {
		parts, numbers := randomParts(r), randomInput(r)
		if i%3 > 0 {
			parts = spoilParts(r, parts)
		}
		var w watcher
		wide, input := w.parts(parts), widened(&w, numbers, 99, -1, math.MaxInt)
		want := makeByRule(parts)
		result := impl.Run(want.Objs, numbers, 200)
		for range 2 {
			if got := impl.Make(wide); !sameBuild(got, want) {
				t.Fatalf("Make = %s, want %s: it looks behind a list's length, or keeps something", buildText(got), buildText(want))
			}
			if got := impl.RunParts(wide, input, 200); !sameResult(got, result) {
				t.Fatalf("RunParts = %+v: it looks behind a list's length, or keeps something", outcomeOf(got))
			}
		}
		if !w.asItWas() {
			t.Fatal("what was handed in has changed")
		}
	}
}

func buildLists(b impl.Build) [][]byte {
	var l [][]byte
	for _, o := range b.Objs {
		l = append(l, listsOf(o)...)
	}
	return l
}

// spoilAround writes behind all lists of an answer but those of bytes.
func spoilAround(b impl.Build) {
	fillRoom(b.Objs)
	for _, o := range b.Objs {
		fillRoom(o.Exports)
		fillRoom(o.Imports)
	}
}

func TestMakeSharesNothing(t *testing.T) {
	p := programOf(t, counter, "W 2 | f 0, g | A.add, A.sum # f: back; g: back", "V | h | W.f, W.g, A.add # h: back",
		"MODULE M; IMPORT A; IMPORT W; PROC p*(); BEGIN CALL W.f(1); CALL A.add(2); END; PROC main*(); BEGIN CALL W.g(); CALL p(); END; END.")
	var w watcher
	parts := w.parts(p.parts)
	want := impl.Build{Objs: p.objs}
	kept := p.parts
	for i := range buildLists(want) {
		one, other := impl.Make(parts), impl.Make(parts)
		spoilAround(one)
		spoil(buildLists(one)[i])
		for j, l := range buildLists(one) {
			if j != i && !bytes.Equal(l, buildLists(want)[j]) {
				t.Fatal("two lists of one answer share memory")
			}
		}
		if !sameBuild(other, want) || !w.asItWas() || partsText(parts) != partsText(kept) {
			t.Fatal("an answer shares memory with another one, or with what was handed in")
		}
	}
	one, other := impl.Make(parts), impl.Make(parts)
	for _, o := range one.Objs {
		fillAll(o.Exports, impl.Export{Print: 5})
		fillAll(o.Imports, impl.Import{Print: 6})
	}
	fillAll(one.Objs, impl.Object{Data: 7})
	if !sameBuild(other, want) || !w.asItWas() {
		t.Fatal("an answer shares memory with another one, or with what was handed in")
	}
}

func TestRunPartsSharesNothing(t *testing.T) {
	r := rand.New(rand.NewSource(130))
	for range 150 {
		var w watcher
		parts, numbers := w.parts(randomParts(r)), randomInput(r)
		input := widened(&w, numbers, 5)
		one, other := impl.RunParts(parts, input, 200), impl.RunParts(parts, input, 200)
		want := copied(one)
		for _, write := range writings(one) {
			write()
		}
		fillAll(one.Events, impl.Event{Kind: 9})
		if !sameResult(other, want) || !w.asItWas() {
			t.Fatal("an answer shares memory with another one, or with what was handed in")
		}
	}
}
