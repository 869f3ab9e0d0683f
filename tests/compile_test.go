package tests

import (
	"bytes"
	"fmt"
	"math/rand"
	"slices"
	"strconv"
	"strings"
	"testing"

	"loop.example/g00335/impl"
)

// opNames stand at the places that their ops have, from 1 on.
const opNames = "- int copy arith load store loadat storeat part len index shift room jump if goto out in trap cross back num arr"

// backText is how each procedure goes back; "+2" is the place two behind its own.
const backText = "load A5 B7; int A4 N-1; arith A4 B5 C4 N5; if A4 +2; back; load A4 B7 N1; shift A7 B7 C4 M1; goto A5"

// insOfText reads instructions as they are written here: "load A4 B6 N2;",
// fields that are 0 left out. A word with a colon names the place that it
// stands at, and "=name" is an N that leads there.
func insOfText(t *testing.T, text string) []impl.Ins {
	t.Helper()
	var l []impl.Ins
	places, leads := map[string]int{}, map[int]string{}
	for _, item := range strings.Split(text, ";") {
		var n impl.Ins
		for _, word := range strings.Fields(item) {
			if name, isPlace := strings.CutSuffix(word, ":"); isPlace {
				places[name] = len(l)
				continue
			}
			if n.Op == 0 {
				n.Op = slices.Index(strings.Fields(opNames), word)
				continue
			}
			number, _ := strconv.Atoi(word[1:])
			switch word[0] {
			case 'A':
				n.A = number
			case 'B':
				n.B = number
			case 'C':
				n.C = number
			case 'N':
				n.N = number
			case 'M':
				n.M = number
			case '+':
				n.N = len(l) + number
			case '=':
				leads[len(l)] = word[1:]
			}
		}
		if n.Op != 0 {
			l = append(l, n)
		}
	}
	for at, name := range leads {
		place, known := places[name]
		if !known {
			t.Fatalf("%q is no place of %s", name, text)
		}
		l[at].N = place
	}
	return l
}

func insText(n impl.Ins) string {
	text := strings.Fields(opNames)[n.Op]
	for i, field := range []int{n.A, n.B, n.C, n.N, n.M} {
		if field != 0 {
			text += fmt.Sprintf(" %c%d", "ABCNM"[i], field)
		}
	}
	return text
}

// decoded is told by the bytes' own rule, not by Decode.
func decoded(t *testing.T, code []byte) []impl.Ins {
	t.Helper()
	if len(code)%12 != 0 {
		t.Fatalf("%d bytes are no whole instructions", len(code))
	}
	var l []impl.Ins
	for b := range slices.Chunk(code, 12) {
		n := insByRule(b)
		if n.Op < 1 || n.Op > 22 {
			t.Fatalf("%v is no instruction", b)
		}
		l = append(l, n)
	}
	return l
}

func wantCode(t *testing.T, what string, code []byte, text string) {
	t.Helper()
	wantSameCode(t, what, decoded(t, code), insOfText(t, text))
}

func wantSameCode(t *testing.T, what string, got, want []impl.Ins) {
	t.Helper()
	for i := range max(len(got), len(want)) {
		one, other := "nothing", "nothing"
		if i < len(got) {
			one = insText(got[i])
		}
		if i < len(want) {
			other = insText(want[i])
		}
		if one != other {
			t.Errorf("%s: at %d: %s, want %s", what, i, one, other)
			return
		}
	}
}

func compiled(t *testing.T, text string, faces ...impl.Face) impl.Object {
	t.Helper()
	o, code := impl.Compile(parsed(t, text), faces)
	if code != impl.CompWell {
		t.Fatalf("Compile(%s) = %d", text, code)
	}
	return o
}

// wantNoCode wants that code, and nothing beside it.
func wantNoCode(t *testing.T, what string, m impl.Module, faces []impl.Face, want int) {
	t.Helper()
	o, code := impl.Compile(m, faces)
	if code != want {
		t.Errorf("%s: Compile = %d, want %d", what, code, want)
	}
	if !isZeroObject(o) {
		t.Errorf("%s: beside %d stands %v", what, code, o)
	}
}

func TestCodesOfCompile(t *testing.T) {
	codes := []int{impl.CompWell, impl.CompForm, impl.CompName, impl.CompUse, impl.CompKind, impl.CompLarge}
	if !slices.Equal(codes, []int{0, 1, 2, 3, 4, 5}) {
		t.Error(codes)
	}
}

func TestOpNames(t *testing.T) {
	ops := strings.Fields(opNames)
	if len(ops) != impl.InArr+1 || ops[impl.InInt] != "int" || ops[impl.InShift] != "shift" || ops[impl.InBack] != "back" {
		t.Error(ops)
	}
	for _, text := range []string{"load A1 B2 C3 N4 M5", "int N-7", "back"} {
		if l := insOfText(t, text); len(l) != 1 || insText(l[0]) != text {
			t.Errorf("%s: %v", text, l)
		}
	}
}

// What Check refuses is refused with its code, whatever else is wrong.
func TestWhatIsNotCompiled(t *testing.T) {
	for what, m := range notModules() {
		for _, faces := range [][]impl.Face{nil, facesOf(face("B", "f 0 1"), face("Cc", "g 0")), facesOf(face("b"))} {
			wantNoCode(t, what, m, faces, impl.CompForm)
		}
	}
	for _, group := range faults {
		want := []int{impl.CompWell, impl.CompForm, impl.CompName, impl.CompUse, impl.CompKind}[group.code]
		for what, change := range group.changes {
			m, faces := manyProcs(t)
			change(&m, &faces)
			wantNoCode(t, what, m, faces, want)
		}
	}
	m, faces := manyProcs(t)
	if o, code := impl.Compile(m, faces); code != impl.CompWell || !impl.ObjectOk(o) {
		t.Errorf("Compile = %v, %d", o, code)
	}
}

func TestTreesWithinThemselvesCompiled(t *testing.T) {
	e := impl.Expr{Kind: impl.ExCall, Name: []byte("p"), Kids: make([]impl.Expr, 4)}
	for i := range e.Kids {
		e.Kids[i] = e
	}
	s := stWhile(e, make([]impl.Stmt, 2)...)
	s.Body[0], s.Body[1] = s, s
	wantNoCode(t, "an expression", bodied(stCall(e)), nil, impl.CompForm)
	wantNoCode(t, "a statement", bodied(s), nil, impl.CompForm)
}

func TestFacesThatAreNone(t *testing.T) {
	m := parsed(t, "MODULE A; IMPORT B; PROC p(); BEGIN CALL B.f(); END; END.")
	for what, faces := range map[string][]impl.Face{
		"a small Name":       {face("B", "f"), face("c")},
		"no Name":            {face(""), face("B", "f")},
		"a great Name in it": {face("B", "f"), face("C", "G")},
		"two alike in it":    {face("B", "f", "f")},
		"a Kind above":       {face("B", "f"), face("C", "f 2")},
		"five Kinds":         {face("B", "f"), face("C", "f 0 0 0 0 0")},
		"nine Procs":         {face("B", "f"), face("C", named(9)...)},
		"one Name twice":     {face("B", "f"), face("B", "f")},
		"another one twice":  {face("C"), face("B", "f"), face("C")},
		"nine faces":         append(facesOf(face("B", "f")), manyFaces(8)...),
	} {
		wantNoCode(t, what, m, faces, impl.CompForm)
	}
	wantNoCode(t, "no faces", m, nil, impl.CompUse)
	wantNoCode(t, "another face", m, facesOf(face("C", "f")), impl.CompUse)
	wantNoCode(t, "a face without it", m, facesOf(face("B", "g")), impl.CompName)
	wantNoCode(t, "with other Kinds", m, facesOf(face("B", "f 0")), impl.CompKind)
	if _, code := impl.Compile(m, append(facesOf(face("B", "f")), manyFaces(7)...)); code != impl.CompWell {
		t.Errorf("over eight faces: %d", code)
	}
}

// manyFaces are so many that nobody uses.
func manyFaces(count int) []impl.Face {
	var l []impl.Face
	for i := range count {
		l = append(l, face(fmt.Sprintf("Z%d", i), "f 1", "g"))
	}
	return l
}

// wholeForms: modules with all of their objects, written out by hand. Exports
// are written as "p 0 1 @3" with where they begin, imports as "B.f 0 1".
var wholeForms = []struct {
	text    string
	faces   []impl.Face
	exports string
	imports string
	data    int
	code    string
}{
	{text: "MODULE A; END."},
	{text: "MODULE Zz09abcd; VAR x; END.", data: 1},
	{text: "MODULE A; VAR x; VAR a[20]; VAR y; VAR b[1]; END.", data: 23},
	{text: "MODULE A; IMPORT B; END.", faces: facesOf(face("B", "f"))},
	{
		text: "MODULE A; PROC p(); BEGIN END; END.",
		code: "room A7 N2; int; int; load A5 B7; int A4 N-1; arith A4 B5 C4 N5; if A4 N8; back; load A4 B7 N1; shift A7 B7 C4 M1; goto A5",
	},
	{
		text:    "MODULE A; PROC p*(); BEGIN END; END.",
		exports: "p @0",
		code: "room A7 N2; int A4 N-1; store A4 B7; int A4; store A4 B7 N1; room A7 N2; int; int;" +
			"load A5 B7; int A4 N-1; arith A4 B5 C4 N5; if A4 N13; back; load A4 B7 N1; shift A7 B7 C4 M1; goto A5",
	},
	{
		text: "MODULE A; PROC p(x, @v); VAR i; VAR j; BEGIN END; END.",
		code: "room A7 N6; int; store B7 N4; store B7 N5; int; " + backText,
	},
	{
		text:    "MODULE A; PROC p*(x, @v); VAR i; VAR j; BEGIN END; END.",
		exports: "p 0 1 @0",
		code: "room A7 N6; num; store B7 N2; arr A1; store A1 B7 N3; int A4 N-1; store A4 B7; int A4; store A4 B7 N1;" +
			"room A7 N6; int; store B7 N4; store B7 N5; int; " + backText,
	},
	{
		text:    "MODULE A; PROC p*(@u, x, @v, y); VAR i0; VAR i1; VAR i2; VAR i3; VAR i4; VAR i5; VAR i6; VAR i7; BEGIN END; END.",
		exports: "p 1 0 1 0 @0",
		code: "room A7 N14; arr; store B7 N2; num A1; store A1 B7 N3; arr A2; store A2 B7 N4; num A3; store A3 B7 N5;" +
			"int A4 N-1; store A4 B7; int A4; store A4 B7 N1; room A7 N14; int;" +
			"store B7 N6; store B7 N7; store B7 N8; store B7 N9; store B7 N10; store B7 N11; store B7 N12; store B7 N13; int; " + backText,
	},
	{ // the frame of what comes from outside has room for temps, too
		text:    "MODULE A; VAR n; PROC p*(x); BEGIN n := (x + (n - 1)); END; END.",
		exports: "p 0 @0",
		data:    1,
		code: "room A7 N5; num; store B7 N2; int A4 N-1; store A4 B7; int A4; store A4 B7 N1; room A7 N5; int;" +
			"load B7 N2; store B7 N3; load B6; store B7 N4; int N1; load A1 B7 N4; arith B1 N1; load A1 B7 N3; arith B1; store B6; int; " + backText,
	},
	{ // own calls lead to bodies, exports to where what comes from outside begins
		text:    "MODULE A; PROC p*(); BEGIN CALL q(); END; PROC q(); BEGIN CALL p(); END; PROC r*(); BEGIN CALL r(); END; END.",
		exports: "p @0, r @41",
		code: "room A7 N2; int A4 N-1; store A4 B7; int A4; store A4 B7 N1;" +
			"room A7 N2; int; room A7 N4; int A4 N14; store A4 B7 N2; int A4 N2; store A4 B7 N3; shift A7 B7 N2; jump N23; int; " + backText + ";" +
			"room A7 N2; int; room A7 N4; int A4 N32; store A4 B7 N2; int A4 N2; store A4 B7 N3; shift A7 B7 N2; jump N5; int; " + backText + ";" +
			"room A7 N2; int A4 N-1; store A4 B7; int A4; store A4 B7 N1;" +
			"room A7 N2; int; room A7 N4; int A4 N55; store A4 B7 N2; int A4 N2; store A4 B7 N3; shift A7 B7 N2; jump N46; int; " + backText,
	},
	{ // data lie behind the imports, even in code ahead of the calls
		text: "MODULE A; IMPORT C; IMPORT B; VAR n; VAR a[3]; VAR k; PROC p(); BEGIN OUT n; k := LEN a; END;" +
			" PROC q*(); BEGIN k := B.f(n, @a); OUT C.g(); OUT n; END; END.",
		faces:   facesOf(face("B", "h", "f 0 1"), face("C", "g")),
		exports: "q @16",
		imports: "B.f 0 1, C.g",
		data:    5,
		code: "room A7 N2; int; load B6 N2; out; part A1 B6 N3 M3; len B1; store B6 N6; int; " + backText + ";" +
			"room A7 N4; int A4 N-1; store A4 B7; int A4; store A4 B7 N1; room A7 N4; int;" +
			"load B6 N2; store B7 N2; part B6 N3 M3; store B7 N3; load B7 N2; load A1 B7 N3; load A4 B6; cross A4 N4 M2; store B6 N6;" +
			"load A4 B6 N1; cross A4 N4; out; load B6 N2; out; int; " + backText,
	},
	{ // temps and names are each procedure's own
		text: "MODULE A; VAR n; PROC p(x); BEGIN RETURN (x + n); END; PROC q(@x); VAR y; BEGIN RETURN x[y]; END; PROC r(); VAR x; BEGIN x := n; END; END.",
		data: 1,
		code: "room A7 N4; int; load B7 N2; store B7 N3; load B6; load A1 B7 N3; arith B1; " + backText + "; int; " + backText + ";" +
			"room A7 N4; int; store B7 N3; load B7 N3; load A1 B7 N2; index A1; loadat B1; " + backText + "; int; " + backText + ";" +
			"room A7 N3; int; store B7 N2; load B6; store B7 N2; int; " + backText,
	},
}

// partsOf cuts at commas; there are none in nothing.
func partsOf(text string) []string {
	if text == "" {
		return nil
	}
	return strings.Split(text, ", ")
}

func exportsOfText(text string) []impl.Export {
	var l []impl.Export
	for _, part := range partsOf(text) {
		head, at, _ := strings.Cut(part, " @")
		q := face("A", head).Procs[0]
		place, _ := strconv.Atoi(at)
		l = append(l, impl.Export{Name: q.Name, Print: fingerByRule(q), At: place})
	}
	return l
}

func importsOfText(text string) []impl.Import {
	var l []impl.Import
	for _, part := range partsOf(text) {
		mod, head, _ := strings.Cut(part, ".")
		q := face("A", head).Procs[0]
		l = append(l, impl.Import{Mod: []byte(mod), Name: q.Name, Print: fingerByRule(q)})
	}
	return l
}

func fingerByRule(q impl.FaceProc) int {
	b := bytes.Clone(q.Name)
	for _, kind := range q.Kinds {
		b = append(b, byte(kind))
	}
	return sumByRule(b)
}

func TestWholeModules(t *testing.T) {
	for _, form := range wholeForms {
		o := compiled(t, form.text, form.faces...)
		wantCode(t, form.text, o.Code, form.code)
		want := impl.Object{
			Name:    parsed(t, form.text).Name,
			Exports: exportsOfText(form.exports),
			Imports: importsOfText(form.imports),
			Data:    form.data,
			Code:    o.Code,
		}
		if !sameObject(o, want) {
			t.Errorf("%s:\n%v, want\n%v", form.text, o, want)
		}
	}
}

// bodyForms: bodies within bodyText, with how many temps their frame has and
// their code. Names: x is at 2, @v at 3, i at 4 and j at 5, temps from 6 on;
// behind the imports n, a[3], k and b[20].
var bodyForms = []struct {
	body  string
	temps int
	code  string
}{
	{"", 0, ""},
	{"OUT 5;", 0, "int N5; out"},
	{"OUT 0;", 0, "int; out"},
	{"OUT -2147483648; OUT 2147483647;", 0, "int N-2147483648; out; int N2147483647; out"},
	{"OUT x;", 0, "load B7 N2; out"},
	{"OUT i; OUT j;", 0, "load B7 N4; out; load B7 N5; out"},
	{"OUT n; OUT k;", 0, "load B6; out; load B6 N4; out"},
	{"OUT IN;", 0, "in; out"},
	{"OUT LEN v;", 0, "load A1 B7 N3; len B1; out"},
	{"OUT LEN a; OUT LEN b;", 0, "part A1 B6 N1 M3; len B1; out; part A1 B6 N5 M20; len B1; out"},
	{"OUT v[7];", 0, "int N7; load A1 B7 N3; index A1; loadat B1; out"},
	{"OUT a[x];", 0, "load B7 N2; part A1 B6 N1 M3; index A1; loadat B1; out"},
	{"OUT b[v[a[IN]]];", 0, "in; part A1 B6 N1 M3; index A1; loadat B1; load A1 B7 N3; index A1; loadat B1; part A1 B6 N5 M20; index A1; loadat B1; out"},

	{"OUT (1 + 2);", 1, "int N1; store B7 N6; int N2; load A1 B7 N6; arith B1; out"},
	{"OUT (x - n);", 1, "load B7 N2; store B7 N6; load B6; load A1 B7 N6; arith B1 N1; out"},
	{"OUT (x * n);", 1, "load B7 N2; store B7 N6; load B6; load A1 B7 N6; arith B1 N2; out"},
	{"OUT (x / n);", 1, "load B7 N2; store B7 N6; load B6; load A1 B7 N6; arith B1 N3; out"},
	{"OUT (x < n);", 1, "load B7 N2; store B7 N6; load B6; load A1 B7 N6; arith B1 N4; out"},
	{"OUT (x = n);", 1, "load B7 N2; store B7 N6; load B6; load A1 B7 N6; arith B1 N5; out"},
	{"OUT (1 + (2 - 3));", 2, "int N1; store B7 N6; int N2; store B7 N7; int N3; load A1 B7 N7; arith B1 N1; load A1 B7 N6; arith B1; out"},
	{"OUT ((1 + 2) - 3);", 1, "int N1; store B7 N6; int N2; load A1 B7 N6; arith B1; store B7 N6; int N3; load A1 B7 N6; arith B1 N1; out"},
	{"OUT a[(1 + b[(2 + 3)])];", 2, "int N1; store B7 N6; int N2; store B7 N7; int N3; load A1 B7 N7; arith B1;" +
		"part A1 B6 N5 M20; index A1; loadat B1; load A1 B7 N6; arith B1; part A1 B6 N1 M3; index A1; loadat B1; out"},

	{"x := 1;", 0, "int N1; store B7 N2"},
	{"i := j;", 0, "load B7 N5; store B7 N4"},
	{"n := k; k := x;", 0, "load B6 N4; store B6; load B7 N2; store B6 N4"},
	{"a[1] := 2;", 1, "int N1; store B7 N6; int N2; part A1 B6 N1 M3; load A2 B7 N6; index A1 B2; storeat B1 C2"},
	{"v[x] := n;", 1, "load B7 N2; store B7 N6; load B6; load A1 B7 N3; load A2 B7 N6; index A1 B2; storeat B1 C2"},
	{"b[(1 + 2)] := (3 + 4);", 2, "int N1; store B7 N6; int N2; load A1 B7 N6; arith B1; store B7 N6;" +
		"int N3; store B7 N7; int N4; load A1 B7 N7; arith B1; part A1 B6 N5 M20; load A2 B7 N6; index A1 B2; storeat B1 C2"},
	{"v[a[0]] := v[1];", 1, "int; part A1 B6 N1 M3; index A1; loadat B1; store B7 N6; int N1; load A1 B7 N3; index A1; loadat B1;" +
		"load A1 B7 N3; load A2 B7 N6; index A1 B2; storeat B1 C2"},
	{"TRAP 0; TRAP 99;", 0, "trap; trap N99"},
	{"OUT 1; RETURN x; OUT 2;", 0, "int N1; out; load B7 N2; " + backText + "; int N2; out"},
	{"RETURN (x + 1);", 1, "load B7 N2; store B7 N6; int N1; load A1 B7 N6; arith B1; " + backText},

	{"IF x THEN ELSE END;", 0, "load B7 N2; if N18; jump N18"},
	{"IF x THEN OUT 1; ELSE END;", 0, "load B7 N2; if N20; int N1; out; jump N20"},
	{"IF x THEN ELSE OUT 1; END;", 0, "load B7 N2; if N18; jump N20; int N1; out"},
	{"IF x THEN OUT 1; ELSE OUT 2; OUT 3; END; OUT 4;", 0, "load B7 N2; if =else; int N1; out; jump =behind; else: int N2; out; int N3; out; behind: int N4; out"},
	{"WHILE x DO END;", 0, "load B7 N2; if N18; jump N15"},
	{"WHILE x DO OUT 1; END; OUT 2;", 0, "load B7 N2; if N20; int N1; out; jump N15; int N2; out"},
	{"OUT 1; WHILE (x < 2) DO x := 1; OUT 3; END;", 1, "int N1; out; again: load B7 N2; store B7 N6; int N2; load A1 B7 N6; arith B1 N4; if =behind;" +
		"int N1; store B7 N2; int N3; out; jump =again; behind:"},
	{"IF 1 THEN IF 2 THEN OUT 3; ELSE OUT 4; END; ELSE IF 5 THEN OUT 6; ELSE OUT 7; END; END;", 0,
		"int N1; if =e1; int N2; if =e2; int N3; out; jump =b2; e2: int N4; out; b2: jump =b1;" +
			"e1: int N5; if =e3; int N6; out; jump =b3; e3: int N7; out; b3: b1:"},
	{"WHILE 1 DO WHILE 2 DO OUT 3; END; OUT 4; END; OUT 5;", 0,
		"one: int N1; if =end1; two: int N2; if =end2; int N3; out; jump =two; end2: int N4; out; jump =one; end1: int N5; out"},
	{"WHILE 1 DO IF 2 THEN RETURN 3; ELSE END; END;", 0,
		"one: int N1; if =end; int N2; if =else; int N3; " + backText + "; jump =else; else: jump =one; end:"},
	{"IF 1 THEN WHILE 2 DO TRAP 3; END; ELSE WHILE 4 DO TRAP 5; END; TRAP 6; END; TRAP 7;", 0,
		"int N1; if =else; w1: int N2; if =e1; trap N3; jump =w1; e1: jump =behind;" +
			"else: w2: int N4; if =e2; trap N5; jump =w2; e2: trap N6; behind: trap N7"},

	{"CALL q();", 0, "room A7 N8; int A4 N22; store A4 B7 N6; int A4 N6; store A4 B7 N7; shift A7 B7 N6; jump =q"},
	{"CALL r(9);", 1, "int N9; store B7 N6; room A7 N10; load B7 N6; store B7 N9; int A4 N26; store A4 B7 N7; int A4 N7; store A4 B7 N8; shift A7 B7 N7; jump =r"},
	{"CALL o(@v);", 1, "load B7 N3; store B7 N6; room A7 N10; load B7 N6; store B7 N9; int A4 =b; store A4 B7 N7; int A4 N7; store A4 B7 N8; shift A7 B7 N7; jump =o; b:"},
	{"CALL p(x, @a);", 2, "load B7 N2; store B7 N6; part B6 N1 M3; store B7 N7; room A7 N12; load B7 N6; store B7 N10; load B7 N7; store B7 N11;" +
		"int A4 =b; store A4 B7 N8; int A4 N8; store A4 B7 N9; shift A7 B7 N8; jump =p; b:"},
	{"CALL s(1, @a, 2, @v);", 4, "int N1; store B7 N6; part B6 N1 M3; store B7 N7; int N2; store B7 N8; load B7 N3; store B7 N9;" +
		"room A7 N16; load B7 N6; store B7 N12; load B7 N7; store B7 N13; load B7 N8; store B7 N14; load B7 N9; store B7 N15;" +
		"int A4 =b; store A4 B7 N10; int A4 N10; store A4 B7 N11; shift A7 B7 N10; jump =s; b:"},

	{"OUT r(r(1));", 1, "int N1; store B7 N6; " + ownCall(7, 0, 1, "r", "b1") + "store B7 N6; " + ownCall(7, 0, 1, "r", "b2") + "out"},
	{"OUT (q() + q());", 1, ownCall(7, 0, 0, "q", "b1") + "store B7 N6; " + ownCall(7, 0, 0, "q", "b2") + "load A1 B7 N6; arith B1; out"},
	{"OUT (r(1) - r(2));", 2, "int N1; store B7 N6; " + ownCall(8, 0, 1, "r", "b1") + "store B7 N6; int N2; store B7 N7; " + ownCall(8, 1, 1, "r", "b2") +
		"load A1 B7 N6; arith B1 N1; out"},
	{"OUT r((1 + r(2)));", 2, "int N1; store B7 N6; int N2; store B7 N7; " + ownCall(8, 1, 1, "r", "b1") + "load A1 B7 N6; arith B1; store B7 N6; " +
		ownCall(8, 0, 1, "r", "b2") + "out"},
	{"CALL s(r(1), @b, (2 + 3), @v);", 4, "int N1; store B7 N6; " + ownCall(10, 0, 1, "r", "b1") + "store B7 N6; part B6 N5 M20; store B7 N7;" +
		"int N2; store B7 N8; int N3; load A1 B7 N8; arith B1; store B7 N8; load B7 N3; store B7 N9; " + ownCall(10, 0, 4, "s", "b2")},
	{"OUT (1 + s(2, @v, (3 + (4 + 5)), @v));", 5, "int N1; store B7 N6; int N2; store B7 N7; load B7 N3; store B7 N8;" +
		"int N3; store B7 N9; int N4; store B7 N10; int N5; load A1 B7 N10; arith B1; load A1 B7 N9; arith B1; store B7 N9;" +
		"load B7 N3; store B7 N10; " + ownCall(11, 1, 4, "s", "b") + "load A1 B7 N6; arith B1; out"},
	{"a[r(1)] := r(2);", 2, "int N1; store B7 N6; " + ownCall(8, 0, 1, "r", "b1") + "store B7 N6; int N2; store B7 N7; " + ownCall(8, 1, 1, "r", "b2") +
		"part A1 B6 N1 M3; load A2 B7 N6; index A1 B2; storeat B1 C2"},
	{"i := q(); RETURN q();", 0, ownCall(6, 0, 0, "q", "b1") + "store B7 N4; " + ownCall(6, 0, 0, "q", "b2") + backText},
	{"IF q() THEN CALL q(); ELSE CALL o(@v); END; WHILE r(1) DO CALL p(1, @v); END;", 2,
		ownCall(8, 0, 0, "q", "b1") + "if =else; " + ownCall(8, 0, 0, "q", "b2") + "jump =behind;" +
			"else: load B7 N3; store B7 N6; " + ownCall(8, 0, 1, "o", "b3") + "behind: again: int N1; store B7 N6; " + ownCall(8, 0, 1, "r", "b4") +
			"if =over; int N1; store B7 N6; load B7 N3; store B7 N7; " + ownCall(8, 0, 2, "p", "b5") + "jump =again; over:"},

	{"CALL B.f();", 0, "load A4 B6; cross A4 N6"},
	{"CALL B.g(7);", 1, "int N7; store B7 N6; load B7 N6; load A4 B6; cross A4 N7 M1"},
	{"OUT B.h(1, @a, n, @v);", 4, "int N1; store B7 N6; part B6 N2 M3; store B7 N7; load B6 N1; store B7 N8; load B7 N3; store B7 N9;" +
		"load B7 N6; load A1 B7 N7; load A2 B7 N8; load A3 B7 N9; load A4 B6; cross A4 N10 M4; out"},
	{"OUT n; CALL B.f(); CALL C.f(1); CALL B.f(); OUT k;", 1, "load B6 N2; out; load A4 B6; cross A4 N7;" +
		"int N1; store B7 N6; load B7 N6; load A4 B6 N1; cross A4 N7 M1; load A4 B6; cross A4 N7; load B6 N6; out"},
	{"OUT B.g(C.f(1));", 1, "int N1; store B7 N6; load B7 N6; load A4 B6; cross A4 N7 M1; store B7 N6; load B7 N6; load A4 B6 N1; cross A4 N7 M1; out"},
	{"OUT (B.f() + (C.f(1) + B.f()));", 2, "load A4 B6; cross A4 N8; store B7 N6; int N1; store B7 N7; load B7 N7; load A4 B6 N1; cross A4 N8 M1;" +
		"store B7 N7; load A4 B6; cross A4 N8; load A1 B7 N7; arith B1; load A1 B7 N6; arith B1; out"},
	{"OUT r(B.g(r(1)));", 1, "int N1; store B7 N6; " + ownCall(7, 0, 1, "r", "b1") + "store B7 N6; load B7 N6; load A4 B6; cross A4 N7 M1; store B7 N6; " +
		ownCall(7, 0, 1, "r", "b2") + "out"},
}

// ownCall is the call of an own procedure behind its k Kids, in a frame of f.
func ownCall(f, t, k int, to, behind string) string {
	text := fmt.Sprintf("room A7 N%d; ", f+2+k)
	for i := range k {
		text += fmt.Sprintf("load B7 N%d; store B7 N%d; ", 6+t+i, f+2+i)
	}
	return text + fmt.Sprintf("int A4 =%s; store A4 B7 N%d; int A4 N%d; store A4 B7 N%d; shift A7 B7 N%d; jump =%s; %s: ", behind, f, f, f+1, f, to, behind)
}

func bodyText(body string) string {
	return "MODULE A; IMPORT B; IMPORT C; VAR n; VAR a[3]; VAR k; VAR b[20]; PROC o(@w); BEGIN END;" +
		" PROC p(x, @v); VAR i; VAR j; BEGIN " + body + " END;" +
		" PROC q(); BEGIN END; PROC r(y); BEGIN END; PROC s(y, @w, z, @u); BEGIN END; END."
}

func TestBodies(t *testing.T) {
	empty := "room A7 N%d; int; int; " + backText + ";"
	for _, form := range bodyForms {
		text := fmt.Sprintf("o: "+empty+"p: room A7 N%d; int; store B7 N4; store B7 N5; ", 3, 6+form.temps) +
			form.code + "; int; " + backText + ";" +
			fmt.Sprintf("q: "+empty+"r: "+empty+"s: "+empty, 2, 3, 6)
		o := compiled(t, bodyText(form.body), face("B", "f", "g 0", "h 0 1 0 1"), face("C", "f 0"))
		wantCode(t, form.body, o.Code, text)
		if o.Data != 25 || len(o.Exports) != 0 {
			t.Errorf("%s: %v", form.body, o)
		}
	}
}

// Each kind stands in bodyForms, so that none is held against nothing.
func TestAllKindsAreInBodies(t *testing.T) {
	var sts, exs [8]int
	for _, form := range bodyForms {
		for _, s := range stmtsOf(parsed(t, bodyText(form.body)).Procs[1].Body) {
			sts[s.Kind]++
			for _, e := range exprsOf(s.Kids) {
				exs[e.Kind]++
			}
		}
	}
	if slices.Contains(sts[:], 0) || slices.Contains(exs[:], 0) {
		t.Error(sts, exs)
	}
}

// An open procedure is one that is not with something ahead.
func TestOpenOrNot(t *testing.T) {
	faces := facesOf(face("B", "f", "g 0", "h 0 1 0 1"), face("C", "f 0"))
	for _, form := range bodyForms {
		m := parsed(t, bodyText(form.body))
		shut, _ := impl.Compile(m, faces)
		m.Procs[1].Open = true
		open, code := impl.Compile(m, faces)
		if code != impl.CompWell || len(open.Exports) != 1 || open.Exports[0].At != 11 {
			t.Fatalf("%s: %v, %d", form.body, open, code)
		}
		ahead := insOfText(t, fmt.Sprintf("room A7 N%d; num; store B7 N2; arr A1; store A1 B7 N3; int A4 N-1; store A4 B7; int A4; store A4 B7 N1", 6+form.temps))
		want := slices.Insert(moved(decoded(t, shut.Code), 11, len(ahead)), 11, ahead...)
		wantSameCode(t, form.body, decoded(t, open.Code), want)
	}
}

// moved lets all that leads to a place from there on lead further.
func moved(l []impl.Ins, from, by int) []impl.Ins {
	l = slices.Clone(l)
	for i, n := range l {
		goesOn := n.Op == impl.InInt && n.A == 4 && i+4 < len(l) && l[i+4].Op == impl.InShift
		if (goesOn || n.Op == impl.InJump || n.Op == impl.InIf) && n.N >= from {
			l[i].N += by
		}
	}
	return l
}

// importForms: statements of two procedures, with the imports in their order.
var importForms = []struct {
	first, last string
	want        string
}{
	{"", "", ""},
	{"CALL own();", "OUT own();", ""},
	{"CALL B.f();", "", "B.f"},
	{"", "CALL B.f();", "B.f"},
	{"CALL B.f();", "CALL B.f();", "B.f"},
	{"CALL B.f(); CALL B.f();", "OUT (B.f() + B.f());", "B.f"},
	{"CALL B.g(1);", "CALL B.f();", "B.g 0, B.f"},
	{"CALL C.f(@a);", "CALL B.f();", "C.f 1, B.f"},
	{"CALL B.f();", "CALL C.f(@a);", "B.f, C.f 1"},
	{"OUT (B.f() + C.g());", "", "B.f, C.g"},
	{"OUT (C.g() + B.f());", "", "C.g, B.f"},
	{"OUT (C.g() + (B.f() + C.f(@a)));", "", "C.g, B.f, C.f 1"},
	{"OUT ((C.g() + B.f()) + C.f(@a));", "", "C.g, B.f, C.f 1"},
	{"OUT B.g(C.g());", "", "C.g, B.g 0"},
	{"OUT B.g(B.g(B.f()));", "", "B.f, B.g 0"},
	{"OUT B.h(C.g(), B.f(), @a, B.g(C.k(@a, 1)));", "", "C.g, B.f, C.k 1 0, B.g 0, B.h 0 0 1 0"},
	{"OUT C.k(@a, B.h(C.g(), B.g(B.f()), @a, C.f(@a)));", "", "C.g, B.f, B.g 0, C.f 1, B.h 0 0 1 0, C.k 1 0"},
	{"CALL two(B.f(), C.g());", "CALL two(C.f(@a), B.f());", "B.f, C.g, C.f 1"},
	{"OUT a[B.f()];", "OUT a[C.g()];", "B.f, C.g"},
	{"n := C.g();", "n := B.f();", "C.g, B.f"},
	{"a[C.g()] := B.f();", "", "C.g, B.f"},
	{"RETURN C.g(); OUT B.f();", "", "C.g, B.f"},
	{"IF C.g() THEN CALL B.f(); ELSE CALL C.f(@a); END; CALL B.g(1);", "", "C.g, B.f, C.f 1, B.g 0"},
	{"IF 1 THEN ELSE CALL C.f(@a); END; IF C.g() THEN CALL B.f(); ELSE END;", "", "C.f 1, C.g, B.f"},
	{"WHILE C.g() DO CALL B.f(); END; CALL B.g(1);", "", "C.g, B.f, B.g 0"},
	{"WHILE C.g() DO IF B.g(C.g()) THEN OUT B.f(); ELSE END; END;", "OUT C.f(@a);", "C.g, B.g 0, B.f, C.f 1"},
	{"IF 1 THEN CALL B.f(); ELSE CALL C.g(); END;", "IF B.g(1) THEN CALL C.g(); ELSE CALL B.f(); END;", "B.f, C.g, B.g 0"},
	{"CALL own(); CALL D1.f(); CALL B.f();", "CALL C.f(@a); CALL D1.f();", "D1.f, B.f, C.f 1"},
}

func importText(first, last string) string {
	return "MODULE A; IMPORT C; IMPORT B; IMPORT D1; VAR n; VAR a[3]; PROC first(); BEGIN " + first + " END;" +
		" PROC own(); BEGIN END; PROC two(x, y); BEGIN END; PROC last*(); BEGIN " + last + " END; END."
}

func TestOrderOfImports(t *testing.T) {
	faces := facesOf(face("B", "f", "g 0", "h 0 0 1 0"), face("D1", "g", "f"), face("C", "k 1 0", "f 1", "g"), face("E", "f"))
	for _, form := range importForms {
		text := importText(form.first, form.last)
		for range 2 {
			o := compiled(t, text, faces...)
			if want := importsOfText(form.want); !sameObject(impl.Object{Imports: o.Imports}, impl.Object{Imports: want}) {
				t.Errorf("%s: Imports %v, want %v", text, o.Imports, want)
			}
			if o.Data != 4 {
				t.Errorf("%s: Data %d", text, o.Data)
			}
			slices.Reverse(faces)
		}
	}
}

// Of each procedure of a face, whatever its Kinds, the Finger is told.
func TestFingersOfImports(t *testing.T) {
	for kinds := range lists(impl.MaxParams) {
		f := face("Bb", "g", "f9")
		f.Procs[1].Kinds = kinds
		e := exCall("Bb", "f9")
		for _, kind := range kinds {
			e.Kids = append(e.Kids, []impl.Expr{exInt(1), exArr("a")}[kind])
		}
		m := bodied(stCall(e))
		m.Uses, m.Vars = words("Bb"), []impl.Var{{Name: []byte("a"), Size: 1}}
		o, code := impl.Compile(m, facesOf(f))
		want := []impl.Import{{Mod: []byte("Bb"), Name: []byte("f9"), Print: fingerByRule(f.Procs[1])}}
		if code != impl.CompWell || !sameObject(impl.Object{Imports: o.Imports}, impl.Object{Imports: want}) {
			t.Errorf("%v: %v, %d", kinds, o.Imports, code)
		}
	}
}

func TestOffsetsOfVars(t *testing.T) {
	sizes := []int{0, 3, 0, 1, 20, 0, 2, 0}
	for calls := range 4 {
		for turn := range sizes {
			sizes := append(slices.Clone(sizes[turn:]), sizes[:turn]...)
			m := bodied(repeated(calls, stTrap(1))...)
			m.Uses = words("B")
			want, at := "room A7 N2; int; ", calls
			for i := range calls {
				m.Procs[0].Body[i] = stCall(exCall("B", named(calls)[i]))
				want += fmt.Sprintf("load A4 B6 N%d; cross A4 N2; ", i)
			}
			for i, size := range sizes {
				name := named(8)[i]
				m.Vars = append(m.Vars, impl.Var{Name: []byte(name), Size: size})
				if size == 0 {
					m.Procs[0].Body = append(m.Procs[0].Body, stOut(exVar(name)))
					want += fmt.Sprintf("load B6 N%d; out; ", at)
				} else {
					m.Procs[0].Body = append(m.Procs[0].Body, stOut(exLen(name)))
					want += fmt.Sprintf("part A1 B6 N%d M%d; len B1; out; ", at, size)
				}
				at += max(size, 1)
			}
			o, code := impl.Compile(m, facesOf(face("B", named(8)...)))
			if code != impl.CompWell || o.Data != 30 || len(o.Imports) != calls {
				t.Fatalf("%v, %d", o, code)
			}
			wantCode(t, "Vars", o.Code, want+"int; "+backText)
		}
	}
}

func TestOrderOfExports(t *testing.T) {
	for bits := range 1 << impl.MaxProcs {
		m := impl.Module{Name: []byte("A")}
		var want []impl.Export
		at := 0
		for i, name := range named(impl.MaxProcs) {
			q := impl.Proc{Name: []byte(name), Open: bits>>i&1 == 1, Body: repeated(i%3, stTrap(i))}
			kinds := []int{0, 1, 1, 0}[:i%5]
			for j, kind := range kinds {
				q.Params = append(q.Params, impl.Param{Name: fmt.Appendf(nil, "v%d", j), Arr: kind == 1})
			}
			m.Procs = append(m.Procs, q)
			if q.Open {
				want = append(want, impl.Export{Name: q.Name, Print: fingerByRule(impl.FaceProc{Name: q.Name, Kinds: kinds}), At: at})
				at += 5 + 2*len(kinds)
			}
			at += 11 + len(q.Body)
		}
		o, code := impl.Compile(m, nil)
		if code != impl.CompWell || len(o.Code) != 12*at || !sameObject(impl.Object{Exports: o.Exports}, impl.Object{Exports: want}) {
			t.Fatalf("%b: %v, %d; want %v", bits, o.Exports, code, want)
		}
	}
}

// deepest has as many temps as may be: each call but the innermost adds three,
// that one four, and the second Kid of a StPut begins with one.
func deepest(mod string) impl.Module {
	e := exCall(mod, "p", exIn(), exIn(), exIn(), exIn())
	for range impl.MaxDeep - 3 {
		e = exCall(mod, "p", exIn(), exIn(), exIn(), e)
	}
	m := bodied(stPut("a", exIn(), e))
	m.Vars = []impl.Var{{Name: []byte("a"), Size: 1}}
	q := &m.Procs[0]
	for i := range impl.MaxParams {
		q.Params = append(q.Params, impl.Param{Name: fmt.Appendf(nil, "v%d", i)})
	}
	for i := range impl.MaxLocals {
		q.Locals = append(q.Locals, fmt.Appendf(nil, "i%d", i))
	}
	if mod != "" {
		m.Uses = words(mod)
	}
	return m
}

func TestMostTemps(t *testing.T) {
	for _, mod := range []string{"", "B"} {
		for _, open := range []bool{false, true} {
			m := deepest(mod)
			m.Procs[0].Open = open
			o, code := impl.Compile(m, facesOf(face("B", "p 0 0 0 0")))
			want, wantCode := objectOfModule(m, facesOf(face("B", "p 0 0 0 0")))
			if code != impl.CompWell || wantCode != code || !sameObject(o, want) {
				t.Fatalf("Compile = %v, %d", o, code)
			}
			if n := decoded(t, o.Code)[0]; n.Op != impl.InRoom || n.N != 2+4+8+1+13*3+4 {
				t.Errorf("the frame: %v", n)
			}
		}
	}
}

// codeOfSize has a code of so many instructions, at least 11, in one procedure.
func codeOfSize(count int) impl.Module {
	returns := min((count-11)/9, 120)
	m := bodied(repeated(returns, stReturn(exInt(1)))...)
	m.Procs[0].Body = append(m.Procs[0].Body, repeated(count-11-9*returns, stTrap(2))...)
	return m
}

func TestLargeCode(t *testing.T) {
	for _, count := range []int{11, 12, 100, 749, 750} {
		o, code := impl.Compile(codeOfSize(count), nil)
		if code != impl.CompWell || len(o.Code) != 12*count {
			t.Errorf("%d instructions: %d bytes, %d", count, len(o.Code), code)
		}
	}
	for _, count := range []int{751, 752, 760, 800, 1000, 1091} {
		wantNoCode(t, fmt.Sprint(count), codeOfSize(count), nil, impl.CompLarge)
	}
	// An Open procedure has five more; a Local has one more.
	for count, change := range map[int]func(q *impl.Proc){
		5: func(q *impl.Proc) { q.Open = true },
		1: func(q *impl.Proc) { q.Locals = words("i") },
		7: func(q *impl.Proc) { q.Open, q.Params = true, []impl.Param{{Name: []byte("x")}} },
	} {
		m, larger := codeOfSize(750-count), codeOfSize(751-count)
		change(&m.Procs[0])
		change(&larger.Procs[0])
		if o, code := impl.Compile(m, nil); code != impl.CompWell || len(o.Code) != impl.MaxCode {
			t.Errorf("%d bytes, %d", len(o.Code), code)
		}
		wantNoCode(t, "one more", larger, nil, impl.CompLarge)
	}
}

// All procedures together are the code.
func TestLargeCodeOfMore(t *testing.T) {
	m := codeOfSize(739)
	m.Procs = append(m.Procs, impl.Proc{Name: []byte("q")})
	if o, code := impl.Compile(m, nil); code != impl.CompWell || len(o.Code) != impl.MaxCode {
		t.Errorf("%d bytes, %d", len(o.Code), code)
	}
	m.Procs[1].Body = stmts(stTrap(1))
	wantNoCode(t, "one more", m, nil, impl.CompLarge)
	m.Procs[1].Body = stmts(stOut(exVar("z")))
	wantNoCode(t, "a wrong name in code that is too large", m, nil, impl.CompName)
}

func TestLargeImports(t *testing.T) {
	faces := facesOf(face("B", named(8)...), face("C", named(8)...))
	calls := func(count int) impl.Module {
		m := impl.Module{Name: []byte("A"), Uses: words("C", "B"), Vars: []impl.Var{{Name: []byte("n")}}}
		var body []impl.Stmt
		for i := range count {
			mod := []string{"B", "C"}[i%2]
			body = append(body, stOut(exCall(mod, named(8)[i/2])))
		}
		m.Procs = []impl.Proc{{Name: []byte("p"), Body: append(body, body...)}, {Name: []byte("main"), Body: stmts(stOut(exVar("n")))}}
		return m
	}
	for count := range 17 {
		if count > impl.MaxImports {
			wantNoCode(t, fmt.Sprint(count, " imports"), calls(count), faces, impl.CompLarge)
			continue
		}
		o, code := impl.Compile(calls(count), faces)
		if code != impl.CompWell || len(o.Imports) != count {
			t.Errorf("%d imports: %v, %d", count, o.Imports, code)
		}
	}
	m := calls(9)
	m.Procs[1].Body = append(m.Procs[1].Body, stCall(exCall("", "p", exInt(1))))
	wantNoCode(t, "a wrong kind beside too many imports", m, faces, impl.CompKind)
}

// A module's Vars can't be as much data as an object may have.
func TestMostData(t *testing.T) {
	m := impl.Module{Name: []byte("A"), Uses: words("B"), Procs: []impl.Proc{{Name: []byte("p")}}}
	for _, name := range named(impl.MaxVars) {
		m.Vars = append(m.Vars, impl.Var{Name: []byte(name), Size: impl.MaxArray})
		m.Procs[0].Body = append(m.Procs[0].Body, stOut(exCall("B", name)), stOut(exLen(name)))
	}
	o, code := impl.Compile(m, facesOf(face("B", named(8)...)))
	if code != impl.CompWell || o.Data != 160 || len(o.Imports) != 8 {
		t.Fatalf("%v, %d", o, code)
	}
	if n := decoded(t, o.Code)[2+7*6+3]; n != (impl.Ins{Op: impl.InPart, A: 1, B: 6, N: 8 + 140, M: 20}) {
		t.Error(n)
	}
}

// rule is a second compiler: all sizes and places are known to it ahead, by
// counting, so that it writes each instruction once and as it is.
type rule struct {
	m      impl.Module
	faces  []impl.Face
	uses   []impl.Expr
	bodies map[string]int
	q      impl.Proc
	f      int
	l      []impl.Ins
}

func objectOfModule(m impl.Module, faces []impl.Face) (impl.Object, int) {
	if code := checkByRule(m, faces); code != impl.CheckWell {
		return impl.Object{}, code
	}
	c := rule{m: m, faces: faces, bodies: map[string]int{}}
	o := impl.Object{Name: m.Name}
	for _, v := range m.Vars {
		o.Data += max(v.Size, 1)
	}
	at := 0
	for _, q := range m.Procs {
		c.findCalls(q.Body)
		if q.Open {
			kinds := faceOfAll(impl.Module{Name: m.Name, Procs: []impl.Proc{{Name: q.Name, Params: q.Params}}}).Procs[0]
			o.Exports = append(o.Exports, impl.Export{Name: q.Name, Print: fingerByRule(kinds), At: at})
			at += 5 + 2*len(q.Params)
		}
		c.bodies[string(q.Name)] = at
		at += 11 + len(q.Locals) + stmtsSize(q.Body)
	}
	for _, e := range c.uses {
		f, _ := faceByName(faces, e.Mod)
		i := slices.IndexFunc(f.Procs, func(q impl.FaceProc) bool { return string(q.Name) == string(e.Name) })
		o.Imports = append(o.Imports, impl.Import{Mod: e.Mod, Name: e.Name, Print: fingerByRule(f.Procs[i])})
	}
	for _, q := range m.Procs {
		c.proc(q)
	}
	for _, n := range c.l {
		o.Code = append(o.Code, byte(n.Op), byte(n.A), byte(n.B), byte(n.C))
		for _, k := range []int{n.N, n.M} {
			o.Code = append(o.Code, byte(k), byte(k>>8), byte(k>>16), byte(k>>24))
		}
	}
	if !objectOkByRule(o) {
		return impl.Object{}, impl.CompLarge
	}
	return o, impl.CompWell
}

func (c *rule) findCalls(l []impl.Stmt) {
	for _, s := range l {
		c.findCallsIn(s.Kids)
		c.findCalls(s.Body)
		c.findCalls(s.Else)
	}
}

func (c *rule) findCallsIn(l []impl.Expr) {
	for _, e := range l {
		c.findCallsIn(e.Kids)
		if e.Kind == impl.ExCall && len(e.Mod) > 0 && c.useOf(e) < 0 {
			c.uses = append(c.uses, e)
		}
	}
}

func (c *rule) useOf(e impl.Expr) int {
	return slices.IndexFunc(c.uses, func(other impl.Expr) bool { return callKey(other.Mod, other.Name) == callKey(e.Mod, e.Name) })
}

func exprSize(e impl.Expr) int {
	size := 0
	for _, kid := range e.Kids {
		size += exprSize(kid)
	}
	switch k := len(e.Kids); e.Kind {
	case impl.ExLen:
		return 2
	case impl.ExIndex, impl.ExBin:
		return size + 3
	case impl.ExCall:
		if len(e.Mod) > 0 {
			return size + 2*k + 2
		}
		return size + 3*k + 7
	}
	return 1
}

func stmtsSize(l []impl.Stmt) int {
	size := 0
	for _, s := range l {
		for _, kid := range s.Kids {
			size += exprSize(kid)
		}
		size += stmtsSize(s.Body) + stmtsSize(s.Else) + []int{1, 5, 2, 2, 8, 1, 1, 0}[s.Kind]
	}
	return size
}

// tempsIn are how many there must be for an expression with those from t on.
func tempsIn(e impl.Expr, t int) int {
	most := 0
	for i, kid := range e.Kids {
		at := t
		if e.Kind != impl.ExIndex {
			at += i
		}
		most = max(most, tempsIn(kid, at))
	}
	switch e.Kind {
	case impl.ExBin:
		return max(most, t+1)
	case impl.ExCall:
		if len(e.Kids) > 0 {
			return max(most, t+len(e.Kids))
		}
	}
	return most
}

func tempsOf(l []impl.Stmt) int {
	most := 0
	for _, s := range l {
		for i, kid := range s.Kids {
			most = max(most, tempsIn(kid, i))
		}
		if s.Kind == impl.StPut {
			most = max(most, 1)
		}
		most = max(most, tempsOf(s.Body), tempsOf(s.Else))
	}
	return most
}

func (c *rule) ins(op, a, b, third, n, m int) {
	c.l = append(c.l, impl.Ins{Op: op, A: a, B: b, C: third, N: n, M: m})
}

func (c *rule) proc(q impl.Proc) {
	c.q, c.f = q, 2+len(q.Params)+len(q.Locals)+tempsOf(q.Body)
	if q.Open {
		c.ins(impl.InRoom, 7, 0, 0, c.f, 0)
		for i, p := range q.Params {
			if p.Arr {
				c.ins(impl.InArr, i, 0, 0, 0, 0)
			} else {
				c.ins(impl.InNum, i, 0, 0, 0, 0)
			}
			c.ins(impl.InStore, i, 7, 0, 2+i, 0)
		}
		c.ins(impl.InInt, 4, 0, 0, -1, 0)
		c.ins(impl.InStore, 4, 7, 0, 0, 0)
		c.ins(impl.InInt, 4, 0, 0, 0, 0)
		c.ins(impl.InStore, 4, 7, 0, 1, 0)
	}
	c.ins(impl.InRoom, 7, 0, 0, c.f, 0)
	c.ins(impl.InInt, 0, 0, 0, 0, 0)
	for i := range q.Locals {
		c.ins(impl.InStore, 0, 7, 0, 2+len(q.Params)+i, 0)
	}
	c.stmts(q.Body)
	c.ins(impl.InInt, 0, 0, 0, 0, 0)
	c.goBack()
}

func (c *rule) goBack() {
	c.ins(impl.InLoad, 5, 7, 0, 0, 0)
	c.ins(impl.InInt, 4, 0, 0, -1, 0)
	c.ins(impl.InArith, 4, 5, 4, impl.ArSame, 0)
	c.ins(impl.InIf, 4, 0, 0, len(c.l)+2, 0)
	c.ins(impl.InBack, 0, 0, 0, 0, 0)
	c.ins(impl.InLoad, 4, 7, 0, 1, 0)
	c.ins(impl.InShift, 7, 7, 4, 0, 1)
	c.ins(impl.InGoto, 5, 0, 0, 0, 0)
}

func (c *rule) temp(t int) int { return 2 + len(c.q.Params) + len(c.q.Locals) + t }

// lies tells the register and the place of a name, and of a Var the Size.
func (c *rule) lies(name []byte) (int, int, int) {
	for i, p := range c.q.Params {
		if bytes.Equal(p.Name, name) {
			return 7, 2 + i, 0
		}
	}
	for i, local := range c.q.Locals {
		if bytes.Equal(local, name) {
			return 7, 2 + len(c.q.Params) + i, 0
		}
	}
	at := len(c.uses)
	for _, v := range c.m.Vars {
		if bytes.Equal(v.Name, name) {
			return 6, at, v.Size
		}
		at += max(v.Size, 1)
	}
	return -1, -1, -1
}

func (c *rule) array(r int, name []byte) {
	reg, at, size := c.lies(name)
	if reg == 7 {
		c.ins(impl.InLoad, r, 7, 0, at, 0)
	} else {
		c.ins(impl.InPart, r, 6, 0, at, size)
	}
}

func (c *rule) stmts(l []impl.Stmt) {
	for _, s := range l {
		c.stmt(s)
	}
}

func (c *rule) stmt(s impl.Stmt) {
	begin := len(c.l)
	if len(s.Kids) > 0 {
		c.expr(s.Kids[0], 0)
	}
	switch s.Kind {
	case impl.StSet:
		reg, at, _ := c.lies(s.Name)
		c.ins(impl.InStore, 0, reg, 0, at, 0)
	case impl.StPut:
		c.ins(impl.InStore, 0, 7, 0, c.temp(0), 0)
		c.expr(s.Kids[1], 1)
		c.array(1, s.Name)
		c.ins(impl.InLoad, 2, 7, 0, c.temp(0), 0)
		c.ins(impl.InIndex, 1, 2, 0, 0, 0)
		c.ins(impl.InStoreAt, 0, 1, 2, 0, 0)
	case impl.StIf:
		c.ins(impl.InIf, 0, 0, 0, len(c.l)+stmtsSize(s.Body)+2, 0)
		c.stmts(s.Body)
		c.ins(impl.InJump, 0, 0, 0, len(c.l)+stmtsSize(s.Else)+1, 0)
		c.stmts(s.Else)
	case impl.StWhile:
		c.ins(impl.InIf, 0, 0, 0, len(c.l)+stmtsSize(s.Body)+2, 0)
		c.stmts(s.Body)
		c.ins(impl.InJump, 0, 0, 0, begin, 0)
	case impl.StReturn:
		c.goBack()
	case impl.StOut:
		c.ins(impl.InOut, 0, 0, 0, 0, 0)
	case impl.StTrap:
		c.ins(impl.InTrap, 0, 0, 0, s.N, 0)
	}
}

func (c *rule) expr(e impl.Expr, t int) {
	switch e.Kind {
	case impl.ExInt:
		c.ins(impl.InInt, 0, 0, 0, e.N, 0)
	case impl.ExVar:
		reg, at, _ := c.lies(e.Name)
		c.ins(impl.InLoad, 0, reg, 0, at, 0)
	case impl.ExIndex:
		c.expr(e.Kids[0], t)
		c.array(1, e.Name)
		c.ins(impl.InIndex, 1, 0, 0, 0, 0)
		c.ins(impl.InLoadAt, 0, 1, 0, 0, 0)
	case impl.ExBin:
		c.expr(e.Kids[0], t)
		c.ins(impl.InStore, 0, 7, 0, c.temp(t), 0)
		c.expr(e.Kids[1], t+1)
		c.ins(impl.InLoad, 1, 7, 0, c.temp(t), 0)
		c.ins(impl.InArith, 0, 1, 0, e.N, 0)
	case impl.ExIn:
		c.ins(impl.InIn, 0, 0, 0, 0, 0)
	case impl.ExLen:
		c.array(1, e.Name)
		c.ins(impl.InLen, 0, 1, 0, 0, 0)
	case impl.ExArr:
		c.array(0, e.Name)
	case impl.ExCall:
		c.call(e, t)
	}
}

func (c *rule) call(e impl.Expr, t int) {
	k := len(e.Kids)
	for i, kid := range e.Kids {
		c.expr(kid, t+i)
		c.ins(impl.InStore, 0, 7, 0, c.temp(t+i), 0)
	}
	if len(e.Mod) > 0 {
		for i := range k {
			c.ins(impl.InLoad, i, 7, 0, c.temp(t+i), 0)
		}
		c.ins(impl.InLoad, 4, 6, 0, c.useOf(e), 0)
		c.ins(impl.InCross, 4, 0, 0, c.f, k)
		return
	}
	c.ins(impl.InRoom, 7, 0, 0, c.f+2+k, 0)
	for i := range k {
		c.ins(impl.InLoad, 0, 7, 0, c.temp(t+i), 0)
		c.ins(impl.InStore, 0, 7, 0, c.f+2+i, 0)
	}
	c.ins(impl.InInt, 4, 0, 0, len(c.l)+6, 0)
	c.ins(impl.InStore, 4, 7, 0, c.f, 0)
	c.ins(impl.InInt, 4, 0, 0, c.f, 0)
	c.ins(impl.InStore, 4, 7, 0, c.f+1, 0)
	c.ins(impl.InShift, 7, 7, 0, c.f, 0)
	c.ins(impl.InJump, 0, 0, 0, c.bodies[string(e.Name)], 0)
}

// largerWorld is well, with more statements than wellWorld: an object may be
// too small for it.
func largerWorld(r *rand.Rand) (impl.Module, []impl.Face) {
	for {
		faces := randomFaces(r)
		m := impl.Module{Name: []byte("A")}
		for range 1 + r.Intn(impl.MaxProcs) {
			l := []impl.Param{{Name: []byte("v")}, {Name: []byte("v"), Arr: true}, {Name: []byte("v")}}
			m.Procs = append(m.Procs, impl.Proc{Name: []byte("p"), Open: r.Intn(2) == 0, Params: l[r.Intn(4):]})
		}
		for range 28 {
			nodes := 15
			q := &m.Procs[r.Intn(len(m.Procs))]
			q.Body = append(q.Body, randomStmts(r, &nodes, 1)...)
		}
		if m = mended(r, m, faces); moduleOkByRule(m) {
			return m, faces
		}
	}
}

func wantByCounting(t *testing.T, m impl.Module, faces []impl.Face) (impl.Object, int) {
	t.Helper()
	o, code := impl.Compile(m, faces)
	want, wantCode := objectOfModule(m, faces)
	if code != wantCode {
		t.Fatalf("Compile(%v, %v) = %d, want %d", m, faces, code, wantCode)
	}
	if !sameObject(o, want) {
		wantSameCode(t, "the code", decoded(t, o.Code), decoded(t, want.Code))
		t.Fatalf("Compile(%v, %v) = %v, want %v", m, faces, o, want)
	}
	return o, code
}

// TestPromise7 holds what is compiled against Check, the exports against the
// face, and all of it against the second compiler.
func TestPromise7(t *testing.T) {
	r := rand.New(rand.NewSource(91))
	told := make([]int, 6)
	for i := range 2500 {
		m, faces := wellWorld(r)
		switch {
		case i%10 == 0:
			m, faces = largerWorld(r)
		case i%3 > 0:
			spoilOne(r, &m, &faces)
		}
		o, code := wantByCounting(t, m, faces)
		told[code]++
		check := impl.Check(m, faces)
		if check != impl.CheckWell && code != check || check == impl.CheckWell && code != impl.CompWell && code != impl.CompLarge {
			t.Fatalf("Check = %d, Compile = %d", check, code)
		}
		if code != impl.CompWell {
			continue
		}
		f := impl.FaceOf(m)
		if len(o.Exports) != len(f.Procs) || !impl.ObjectOk(o) {
			t.Fatalf("%v of %v", o, f)
		}
		for j, e := range o.Exports {
			if !bytes.Equal(e.Name, f.Procs[j].Name) || e.Print != impl.Finger(e.Name, f.Procs[j].Kinds) {
				t.Fatalf("%v of %v", o.Exports, f)
			}
		}
	}
	for code, count := range told {
		if count < 20 {
			t.Errorf("only %d with %d: %v", count, code, told)
		}
	}
}

// All that leads somewhere within the code leads to an instruction.
func TestWhereJumpsLead(t *testing.T) {
	r := rand.New(rand.NewSource(92))
	jumps := 0
	for range 1000 {
		m, faces := wellWorld(r)
		o, _ := impl.Compile(m, faces)
		l := decoded(t, o.Code)
		for i, n := range l {
			goesOn := n.Op == impl.InInt && n.A == 4 && i+4 < len(l) && l[i+4].Op == impl.InShift
			if !goesOn && n.Op != impl.InJump && n.Op != impl.InIf {
				continue
			}
			jumps++
			if n.N < 0 || n.N >= len(l) || goesOn && n.N != i+6 {
				t.Fatalf("at %d %s, of %d", i, insText(n), len(l))
			}
		}
		for _, e := range o.Exports {
			if n := l[e.At]; n.Op != impl.InRoom {
				t.Fatalf("%v begins with %s", e, insText(n))
			}
		}
	}
	if jumps < 5000 {
		t.Errorf("only %d", jumps)
	}
}

// TestFacesOfOthers: faces that are not used, and procedures of used ones that
// are not called, play no part.
func TestFacesOfOthers(t *testing.T) {
	r := rand.New(rand.NewSource(93))
	crossing := 0
	for range 2000 {
		m, faces := wellWorld(r)
		want, wantCode := impl.Compile(m, faces)
		crossing += len(want.Imports)
		var fewer, others []impl.Face
		for _, f := range faces {
			if slices.ContainsFunc(m.Uses, func(use []byte) bool { return bytes.Equal(use, f.Name) }) {
				fewer, others = append(fewer, f), append(others, lessCalled(f, want.Imports))
			} else {
				others = append(others, face(string(f.Name), "p0 1 1", "n", "zz"))
			}
		}
		shuffled := slices.Clone(faces)
		r.Shuffle(len(shuffled), func(i, j int) { shuffled[i], shuffled[j] = shuffled[j], shuffled[i] })
		more := append(facesOf(face(string(m.Name)+"q", "f 1", "p1")), faces...)
		for what, l := range map[string][]impl.Face{"fewer": fewer, "others": others, "shuffled": shuffled, "more": more} {
			if o, code := impl.Compile(m, l); wantCode == impl.CompWell && (code != wantCode || !sameObject(o, want)) {
				t.Fatalf("%s: Compile(%v) over %v = %v, %d, over %v = %v", what, m, l, o, code, faces, want)
			}
		}
	}
	if crossing < 1000 {
		t.Errorf("only %d imports", crossing)
	}
}

// lessCalled is a face with what is imported alone, and one more ahead.
func lessCalled(f impl.Face, l []impl.Import) impl.Face {
	out := face(string(f.Name), "zz 1 1")
	for _, q := range f.Procs {
		if slices.ContainsFunc(l, func(im impl.Import) bool { return bytes.Equal(im.Mod, f.Name) && bytes.Equal(im.Name, q.Name) }) {
			out.Procs = append(out.Procs, q)
		}
	}
	return out
}

// Modules that are unlike, but for their faces.
func TestSameFacesSameObject(t *testing.T) {
	user := parsed(t, "MODULE A; IMPORT B; VAR n; PROC main*(); BEGIN n := B.f(1); CALL B.g(); END; END.")
	var want impl.Object
	for i, text := range []string{
		"MODULE B; PROC f*(x); BEGIN END; PROC g*(); BEGIN END; END.",
		"MODULE B; VAR a[9]; PROC f*(y); VAR i; BEGIN RETURN a[(y + i)]; END; PROC h(); BEGIN END; PROC g*(); BEGIN TRAP 1; END; END.",
		"MODULE B; VAR n; PROC h(@v); BEGIN n := LEN v; END; PROC f*(z); BEGIN OUT z; END; PROC g*(); BEGIN CALL g(); END; END.",
	} {
		o, code := impl.Compile(user, facesOf(impl.FaceOf(parsed(t, text))))
		if i == 0 {
			want = o
		}
		if code != impl.CompWell || !sameObject(o, want) {
			t.Errorf("beside %s: %v, %d", text, o, code)
		}
	}
	other, code := impl.Compile(user, facesOf(face("B", "f 0", "g")))
	if code != impl.CompWell || !sameObject(other, want) {
		t.Errorf("%v, %d", other, code)
	}
}

func TestWhatIsCompiledStays(t *testing.T) {
	r := rand.New(rand.NewSource(94))
	for i := range 300 {
		m, faces := wellWorld(r)
		if i%3 == 0 {
			spoilOne(r, &m, &faces)
		}
		var w watcher
		wide, wideFaces := w.module(m), w.faces(faces)
		want, wantCode := objectOfModule(m, faces)
		for range 2 {
			if o, code := impl.Compile(wide, wideFaces); code != wantCode || !sameObject(o, want) {
				t.Fatalf("Compile = %v, %d: it looks behind a list's length, or keeps something", o, code)
			}
		}
		if !w.asItWas() {
			t.Fatal("what was handed in has changed")
		}
	}
}

func TestCompileSharesNothing(t *testing.T) {
	m := parsed(t, importText("CALL D1.f(); CALL C.f(@a);", "OUT (B.f() + C.g());"))
	m.Procs[1].Open = true
	faces := facesOf(face("B", "f"), face("D1", "f"), face("C", "f 1", "g"))
	want, code := objectOfModule(m, faces)
	if code != impl.CompWell {
		t.Fatal(code)
	}
	var w watcher
	wide, wideFaces := w.module(m), w.faces(faces)
	o, _ := impl.Compile(wide, wideFaces)
	for _, l := range listsOf(o) {
		fillRoom(l)
	}
	fillRoom(o.Exports)
	fillRoom(o.Imports)
	if !sameObject(o, want) || !w.asItWas() {
		t.Error("what lies behind a list of the answer is another list")
	}
	for i := range listsOf(want) {
		one, _ := impl.Compile(wide, wideFaces)
		other, _ := impl.Compile(wide, wideFaces)
		spoil(listsOf(one)[i])
		for j, l := range listsOf(one) {
			if j != i && !bytes.Equal(l, listsOf(want)[j]) {
				t.Error("two lists of one answer share memory")
			}
		}
		one.Exports[0].At, one.Imports[0].Print = 77, 78
		if !sameObject(other, want) || !w.asItWas() {
			t.Error("an answer shares memory with another one, or with what was handed in")
		}
	}
}
