package tests

import (
	"bytes"
	"fmt"
	"math"
	"math/rand"
	"slices"
	"strings"
	"testing"

	"loop.example/g00335/impl"
)

// face has procedures that are written as a name and kinds behind it: "f 0 1".
func face(name string, procs ...string) impl.Face {
	f := impl.Face{Name: []byte(name)}
	for _, text := range procs {
		l := strings.Fields(text)
		q := impl.FaceProc{Name: []byte(l[0])}
		for _, kind := range l[1:] {
			q.Kinds = append(q.Kinds, int(kind[0]-'0'))
		}
		f.Procs = append(f.Procs, q)
	}
	return f
}

func facesOf(l ...impl.Face) []impl.Face { return l }

// sameFace takes an empty list for nil, as the document does.
func sameFace(a, b impl.Face) bool { return fmt.Sprint(a) == fmt.Sprint(b) }

func parsed(t *testing.T, text string) impl.Module {
	t.Helper()
	m, code, at := impl.Parse([]byte(text))
	if code != impl.ParseWell {
		t.Fatalf("Parse(%q) = %d, %d", text, code, at)
	}
	return m
}

func wantCheck(t *testing.T, text string, want int, faces ...impl.Face) {
	t.Helper()
	if got := impl.Check(parsed(t, text), faces); got != want {
		t.Errorf("Check(%s) = %d, want %d", text, got, want)
	}
}

func wantFaceOk(t *testing.T, what string, f impl.Face, want bool) {
	t.Helper()
	if got := impl.FaceOk(f); got != want {
		t.Errorf("%s: FaceOk(%v) = %v", what, f, got)
	}
	wanted := impl.CheckWell
	if !want {
		wanted = impl.CheckForm
	}
	m := impl.Module{Name: []byte("Main")}
	if got := impl.Check(m, facesOf(face("Other", "f"), f)); got != wanted {
		t.Errorf("%s: Check beside %v, which is not used, = %d, want %d", what, f, got, wanted)
	}
}

func TestCodesOfCheck(t *testing.T) {
	codes := []int{impl.CheckWell, impl.CheckForm, impl.CheckName, impl.CheckUse, impl.CheckKind}
	if !slices.Equal(codes, []int{0, 1, 2, 3, 4}) {
		t.Error(codes)
	}
}

func TestCountsInFaces(t *testing.T) {
	wantFaceOk(t, "no Procs", face("B"), true)
	for count := range 12 {
		wantFaceOk(t, "Procs", face("B", named(count)...), count <= 8)
		f := face("B", "f", "g", "h")
		for i := range f.Procs {
			f.Procs[i].Kinds = make([]int, count)
			wantFaceOk(t, "Kinds", f, count <= 4)
			f.Procs[i].Kinds = repeated(count, 1)
			wantFaceOk(t, "Kinds", f, count <= 4)
			f.Procs[i].Kinds = nil
		}
	}
	full := face("Abcdefg9", named(impl.MaxExports)...)
	for i := range full.Procs {
		full.Procs[i].Kinds = repeated(impl.MaxParams, i%2)
	}
	wantFaceOk(t, "as much as may be", full, true)
	many := face("B")
	many.Procs = make([]impl.FaceProc, 100000)
	wantFaceOk(t, "very many Procs", many, false)
	wantFaceOk(t, "very many Kinds", impl.Face{Name: []byte("B"), Procs: []impl.FaceProc{{Name: []byte("f"), Kinds: make([]int, 1000000)}}}, false)
}

func TestKindsInFaces(t *testing.T) {
	for _, kind := range []int{-1, 0, 1, 2, 3, -2, 256, 257, 1 << 32, 1<<32 + 1, math.MinInt, math.MaxInt} {
		for at := range 4 {
			f := face("B", "f 0 1", "g 0 1 0 1")
			f.Procs[1].Kinds[at] = kind
			wantFaceOk(t, "a Kind", f, kind == 0 || kind == 1)
		}
	}
}

func TestNamesInFaces(t *testing.T) {
	wantFaceOk(t, "the zero value", impl.Face{}, false)
	for _, name := range slices.Concat(goodGreat, badGreat, goodSmall) {
		wantFaceOk(t, "Name", face(name), isName([]byte(name), 'A'))
		f := face("B", "f")
		f.Name = []byte(name)
		wantFaceOk(t, "Name of one with Procs", f, isName([]byte(name), 'A'))
	}
	for _, name := range slices.Concat(goodSmall, badSmall, goodGreat) {
		for at := range 3 {
			f := face("B", "p", "q", "r")
			f.Procs[at].Name = []byte(name)
			wantFaceOk(t, "Name of a Proc", f, isName([]byte(name), 'a'))
		}
	}
}

func TestNamesInFacesAreUnlike(t *testing.T) {
	for i := range impl.MaxExports {
		for j := range i {
			f := face("B", named(impl.MaxExports)...)
			f.Procs[i].Name = bytes.Clone(f.Procs[j].Name)
			f.Procs[i].Kinds = []int{1}
			wantFaceOk(t, "two of one Name", f, false)
		}
	}
	wantFaceOk(t, "names that begin alike", face("B", "f", "ff", "f1", "f11"), true)
	wantFaceOk(t, "a Proc with the Name of the face in small", face("B", "b"), true)
}

func faceOkByRule(f impl.Face) bool {
	seen := map[string]int{}
	ok := isName(f.Name, 'A') && len(f.Procs) <= 8
	for _, q := range f.Procs {
		seen[string(q.Name)]++
		ok = ok && isName(q.Name, 'a') && seen[string(q.Name)] == 1 && len(q.Kinds) <= 4
		for _, kind := range q.Kinds {
			ok = ok && (kind == 0 || kind == 1)
		}
	}
	return ok
}

func faceByRule(m impl.Module) impl.Face {
	if !moduleOkByRule(m) {
		return impl.Face{}
	}
	return openProcs(m)
}

// openProcs are the face of a module that may be.
func openProcs(m impl.Module) impl.Face {
	f := impl.Face{Name: m.Name}
	for _, q := range m.Procs {
		if !q.Open {
			continue
		}
		kinds := make([]int, len(q.Params))
		for i := range kinds {
			if q.Params[i].Arr {
				kinds[i] = 1
			}
		}
		f.Procs = append(f.Procs, impl.FaceProc{Name: q.Name, Kinds: kinds})
	}
	return f
}

func wantFaceOf(t *testing.T, m impl.Module, want impl.Face) {
	t.Helper()
	if got := impl.FaceOf(m); !sameFace(got, want) {
		t.Errorf("FaceOf(%v) = %v, want %v", m, got, want)
	}
}

func TestFaceOf(t *testing.T) {
	for _, x := range []struct {
		text string
		want impl.Face
	}{
		{"MODULE A; END.", face("A")},
		{"MODULE Abcdefg9; IMPORT B; VAR x; VAR a[3]; END.", face("Abcdefg9")},
		{"MODULE A; PROC p(x); BEGIN END; PROC q(@x); BEGIN END; END.", face("A")},
		{"MODULE A; PROC p*(); BEGIN END; END.", face("A", "p")},
		{"MODULE A; PROC p(x); BEGIN END; PROC q*(@x, y, z, @w); BEGIN END; PROC r*(x); BEGIN END; PROC s(); BEGIN END; END.", face("A", "q 1 0 0 1", "r 0")},
		{"MODULE A; PROC z*(@a); VAR x; BEGIN TRAP 1; END; PROC y*(); BEGIN END; PROC x*(a); BEGIN END; END.", face("A", "z 1", "y", "x 0")},
		// Whether it is CheckWell plays no part.
		{"MODULE A; IMPORT A; PROC p*(x, @x); BEGIN CALL z(); END; PROC p*(); BEGIN END; END.", face("A", "p 0 1", "p")},
	} {
		wantFaceOf(t, parsed(t, x.text), x.want)
	}
	wantFaceOf(t, mixedModule(), face("Main", "p 1 0"))
	for _, x := range moduleForms {
		wantFaceOf(t, x.m, faceByRule(x.m))
	}
}

func TestFaceOfAllProcs(t *testing.T) {
	for open := range 1 << impl.MaxProcs {
		m := impl.Module{Name: []byte("A")}
		for i, name := range named(impl.MaxProcs) {
			q := impl.Proc{Name: []byte(name), Open: open>>i&1 == 1}
			for j := range i % 5 {
				q.Params = append(q.Params, impl.Param{Name: []byte(named(20)[10+j]), Arr: (open+i+j)%3 == 0})
			}
			m.Procs = append(m.Procs, q)
		}
		wantFaceOf(t, m, faceByRule(m))
		if !impl.FaceOk(impl.FaceOf(m)) {
			t.Fatalf("FaceOf(%v) is no face", m)
		}
	}
}

func notModules() map[string]impl.Module {
	l := map[string]impl.Module{"the zero value": {}}
	for what, m := range counts(9) {
		l[what] = m
	}
	for what, change := range map[string]func(*impl.Module){
		"Name":                  func(m *impl.Module) { m.Name = []byte("a") },
		"no Name":               func(m *impl.Module) { m.Name = nil },
		"a Use":                 func(m *impl.Module) { m.Uses[1] = []byte("b") },
		"a Var's Size":          func(m *impl.Module) { m.Vars[1].Size = 21 },
		"a Param":               func(m *impl.Module) { m.Procs[0].Params[1].Name = nil },
		"a Kind":                func(m *impl.Module) { m.Procs[0].Body[3].Kind = 8 },
		"a Kind below":          func(m *impl.Module) { m.Procs[0].Body[3].Kids[0].Kind = -1 },
		"a call of a small Mod": func(m *impl.Module) { m.Procs[0].Body[3].Kids[0].Mod = []byte("cc") },
	} {
		m := mixedModule()
		change(&m)
		l[what] = m
	}
	l["too many bytes"] = moduleOfBytes(impl.MaxProgram + 1)
	for what, m := range nested(impl.MaxDeep + 1) {
		l["too deep: "+what] = m
	}
	return l
}

func TestWhatIsNoModule(t *testing.T) {
	for what, m := range notModules() {
		if impl.ModuleOk(m) {
			t.Fatalf("%s: it is a module", what)
		}
		wantFaceOf(t, m, impl.Face{})
		for _, faces := range [][]impl.Face{nil, facesOf(face("B", "f 0 1"), face("Cc", "g 0")), facesOf(face("b"))} {
			if got := impl.Check(m, faces); got != impl.CheckForm {
				t.Errorf("%s: Check = %d", what, got)
			}
		}
	}
}

func TestTreesWithinThemselvesChecked(t *testing.T) {
	e := impl.Expr{Kind: impl.ExCall, Name: []byte("p"), Kids: make([]impl.Expr, 4)}
	for i := range e.Kids {
		e.Kids[i] = e
	}
	s := stWhile(e, make([]impl.Stmt, 2)...)
	s.Body[0], s.Body[1] = s, s
	for _, m := range []impl.Module{bodied(stCall(e)), bodied(s)} {
		wantFaceOf(t, m, impl.Face{})
		if got := impl.Check(m, nil); got != impl.CheckForm {
			t.Errorf("Check = %d", got)
		}
	}
}

func TestCountsOfFaces(t *testing.T) {
	for count := range 12 {
		var faces []impl.Face
		for _, name := range named(count) {
			faces = append(faces, face(strings.ToUpper(name[:1])+name[1:], "f"))
		}
		want := impl.CheckWell
		if count > 8 {
			want = impl.CheckForm
		}
		wantCheck(t, "MODULE Main; END.", want, faces...)
		for i := range count {
			for j := range i {
				like := slices.Clone(faces)
				like[i] = face(string(faces[j].Name), "g", "h 1")
				wantCheck(t, "MODULE Main; END.", impl.CheckForm, like...)
			}
		}
	}
	wantCheck(t, "MODULE Main; END.", impl.CheckForm, make([]impl.Face, 100000)...)
	wantCheck(t, "MODULE Main; END.", impl.CheckWell, face("B"), face("Bb"), face("B1"), face("Main", "f"))
}

func TestNamesOfVarsAndProcs(t *testing.T) {
	for text, want := range map[string]int{
		"VAR x; VAR y; VAR z[2];":                                          impl.CheckWell,
		"VAR x; VAR x;":                                                    impl.CheckName,
		"VAR x; VAR x[1];":                                                 impl.CheckName,
		"VAR x[2]; VAR y; VAR x[2];":                                       impl.CheckName,
		"VAR x; VAR xx; VAR x1;":                                           impl.CheckWell,
		"PROC p(); BEGIN END; PROC q(); BEGIN END;":                        impl.CheckWell,
		"PROC p(); BEGIN END; PROC p(); BEGIN END;":                        impl.CheckName,
		"PROC p*(); BEGIN END; PROC p(x); BEGIN END;":                      impl.CheckName,
		"PROC p*(); BEGIN END; PROC q(); BEGIN END; PROC p*(); BEGIN END;": impl.CheckName,
		"VAR p; PROC p(); BEGIN END;":                                      impl.CheckName,
		"VAR p[3]; PROC q(); BEGIN END; PROC p*(); BEGIN END;":             impl.CheckName,
		"VAR x; VAR p; PROC q(); BEGIN END; PROC pp(); BEGIN END;":         impl.CheckWell,
	} {
		wantCheck(t, "MODULE A; "+text+" END.", want)
		wantCheck(t, "MODULE A; IMPORT B; "+text+" END.", want, face("B", "x", "p", "q"))
	}
}

func TestNamesWithinProcedures(t *testing.T) {
	for head, want := range map[string]int{
		"r(a, b, @c, @d); VAR e; VAR f;":  impl.CheckWell,
		"r(a, a);":                        impl.CheckName,
		"r(a, @a);":                       impl.CheckName,
		"r(@a, b, c, @a);":                impl.CheckName,
		"r(); VAR a; VAR a;":              impl.CheckName,
		"r(); VAR a; VAR b; VAR a;":       impl.CheckName,
		"r(a); VAR a;":                    impl.CheckName,
		"r(b, @a); VAR c; VAR a;":         impl.CheckName,
		"r(n);":                           impl.CheckName,
		"r(@n);":                          impl.CheckName,
		"r(x, m);":                        impl.CheckName,
		"r(); VAR n;":                     impl.CheckName,
		"r(); VAR x; VAR m;":              impl.CheckName,
		"r(p);":                           impl.CheckName,
		"r(@s);":                          impl.CheckName,
		"r(r);":                           impl.CheckName,
		"r(); VAR p;":                     impl.CheckName,
		"r(); VAR s;":                     impl.CheckName,
		"r(); VAR r;":                     impl.CheckName,
		"r(nn, @mm, ss); VAR pp; VAR n1;": impl.CheckWell,
		// What is another procedure's own may be this one's, too.
		"r(a, u);":                         impl.CheckWell,
		"r(@a, @u); VAR k;":                impl.CheckWell,
		"r(); VAR a; VAR u; VAR k; VAR l;": impl.CheckWell,
		"r(l, @k); VAR u; VAR w;":          impl.CheckWell,
		// Names of others are no names of the module.
		"r(f, @g); VAR h;": impl.CheckWell,
	} {
		text := "MODULE A; IMPORT B; VAR n; VAR m[2]; PROC p(a, @u); VAR k; BEGIN END; PROC " + head +
			" BEGIN END; PROC s(@a, u, w); VAR k; VAR l; BEGIN END; END."
		wantCheck(t, text, want, face("B", "f", "g 1", "h"))
	}
}

// TestOwnNamesEndWithTheProcedure: what is one procedure's own is nothing
// behind it and ahead of it, and what it is there plays no part elsewhere.
func TestOwnNamesEndWithTheProcedure(t *testing.T) {
	for body, want := range map[string]int{
		"OUT i;":         impl.CheckName,
		"OUT j;":         impl.CheckName,
		"OUT w[0];":      impl.CheckName,
		"OUT LEN w;":     impl.CheckName,
		"i := 1;":        impl.CheckName,
		"j := 1;":        impl.CheckName,
		"OUT x; x := 2;": impl.CheckWell,
		"OUT x[0];":      impl.CheckName,
		"OUT y[0];":      impl.CheckWell,
		"y := 0;":        impl.CheckName,
	} {
		own := "(i, @w, @x, y); VAR j; BEGIN OUT i; OUT j; OUT w[0]; OUT x[0]; OUT y; END;"
		wantCheck(t, "MODULE A; PROC p"+own+" PROC q(x, @y); BEGIN "+body+" END; END.", want)
		wantCheck(t, "MODULE A; PROC q(x, @y); BEGIN "+body+" END; PROC p"+own+" END.", want)
		wantCheck(t, "MODULE A; PROC p"+own+" PROC q(x, @y); BEGIN "+body+" END; PROC r"+own+" END.", want)
	}
}

func TestUses(t *testing.T) {
	faces := facesOf(face("B", "f"), face("C"), face("A", "f"), face("Dd", "g 1"))
	for text, want := range map[string]int{
		"":                               impl.CheckWell,
		"IMPORT B;":                      impl.CheckWell,
		"IMPORT Dd; IMPORT C; IMPORT B;": impl.CheckWell,
		"IMPORT A;":                      impl.CheckUse,
		"IMPORT B; IMPORT A;":            impl.CheckUse,
		"IMPORT B; IMPORT B;":            impl.CheckUse,
		"IMPORT B; IMPORT C; IMPORT B;":  impl.CheckUse,
		"IMPORT C; IMPORT B; IMPORT B;":  impl.CheckUse,
		"IMPORT E;":                      impl.CheckUse,
		"IMPORT D;":                      impl.CheckUse,
		"IMPORT Ddd;":                    impl.CheckUse,
		"IMPORT B; IMPORT Bb;":           impl.CheckUse,
		"IMPORT E; IMPORT B; IMPORT C;":  impl.CheckUse,
	} {
		wantCheck(t, "MODULE A; "+text+" END.", want, faces...)
	}
	wantCheck(t, "MODULE A; IMPORT A; END.", impl.CheckUse)
	wantCheck(t, "MODULE A; IMPORT B; END.", impl.CheckUse)
	wantCheck(t, "MODULE A; IMPORT B; END.", impl.CheckUse, face("A", "f"))
	full := facesOf(face("B"), face("C"), face("D"), face("E"), face("F"), face("G"), face("H"), face("I"))
	wantCheck(t, "MODULE A; IMPORT I; IMPORT B; IMPORT H; IMPORT C; IMPORT G; IMPORT D; END.", impl.CheckWell, full...)
	wantCheck(t, "MODULE A; IMPORT I; IMPORT B; IMPORT H; IMPORT C; IMPORT G; IMPORT I; END.", impl.CheckUse, full...)
}

// What names may be used within the procedure p of inProc, by what they are.
var usable = map[string]string{
	"int":     "n i l o",
	"array":   "a v b",
	"proc":    "p q r",
	"nothing": "z nn f g u w k t",
}

func inProc(body string) string {
	return "MODULE A; IMPORT B; VAR n; VAR a[2]; VAR o; VAR b[20];" +
		" PROC q(w, @u); VAR k; BEGIN END;" +
		" PROC p*(i, @v); VAR l; BEGIN " + body + " END;" +
		" PROC r(u, @w); VAR t; BEGIN END; END."
}

// wantAllNames puts each name in the place of each ?.
func wantAllNames(t *testing.T, body, wanted string) {
	t.Helper()
	for what, names := range usable {
		want := impl.CheckName
		if what == wanted {
			want = impl.CheckWell
		}
		for _, name := range strings.Fields(names) {
			wantCheck(t, inProc(strings.ReplaceAll(body, "?", name)), want, face("B", "f 0 1", "g"), face("C", "z"))
		}
	}
}

func TestWhatNamesMustBe(t *testing.T) {
	ofExprs := map[string]string{
		"?": "int", "?[0]": "array", "LEN ?": "array", "?(1, @a)": "proc", "B.f(1, @?)": "array",
	}
	ofStmts := map[string]string{"? := 1;": "int", "?[0] := 1;": "array", "CALL ?(IN, @v);": "proc"}
	aroundExprs := []string{
		"OUT #;", "RETURN #;", "n := #;", "a[#] := 1;", "a[0] := #;", "IF # THEN ELSE END;", "WHILE # DO END;",
		"OUT a[#];", "OUT (# + 1);", "OUT (1 = #);", "CALL q(#, @a);", "CALL B.f(#, @v);", "OUT p(#, @a);",
		"OUT (1 + (2 + (b[q((#*2), @a)] - 3)));", "IF 1 THEN WHILE IN DO IF 0 THEN ELSE OUT a[a[a[#]]]; END; END; ELSE END;",
		"OUT 1; TRAP 2; n := (n + 1); OUT #; OUT 2;",
	}
	aroundStmts := []string{
		"#", "OUT 1; # OUT 2;", "IF 1 THEN # ELSE END;", "IF 1 THEN ELSE # END;", "WHILE 1 DO # END;",
		"IF 1 THEN TRAP 1; ELSE WHILE 1 DO IF n THEN OUT 1; # ELSE TRAP 2; END; OUT 3; END; END; RETURN 1;",
		"RETURN 1; #", "TRAP 1; #",
	}
	for hole, wanted := range ofExprs {
		for _, around := range aroundExprs {
			wantAllNames(t, strings.ReplaceAll(around, "#", hole), wanted)
			for _, further := range aroundStmts {
				wantAllNames(t, strings.ReplaceAll(further, "#", strings.ReplaceAll(around, "#", hole)), wanted)
			}
		}
	}
	for hole, wanted := range ofStmts {
		for _, around := range aroundStmts {
			wantAllNames(t, strings.ReplaceAll(around, "#", hole), wanted)
		}
	}
	// At the greatest depth and among the most parts that there may be.
	deep := strings.Repeat("a[", impl.MaxDeep-2) + "?" + strings.Repeat("]", impl.MaxDeep-2)
	wantAllNames(t, "OUT "+deep+";", "int")
	wantAllNames(t, strings.Repeat("OUT 1;", impl.MaxNodes/2-1)+"OUT ?;", "int")
}

func TestCallsWithinTheModule(t *testing.T) {
	text := "MODULE A; IMPORT B; VAR n; VAR a[2]; PROC p(x, @y); VAR k; BEGIN # END; PROC q(); BEGIN END; PROC r*(@x); BEGIN # END; END."
	for body, want := range map[string]int{
		"CALL p(1, @a);":          impl.CheckWell,
		"CALL q();":               impl.CheckWell,
		"CALL r(@a);":             impl.CheckWell,
		"CALL n();":               impl.CheckName,
		"CALL a();":               impl.CheckName,
		"CALL x();":               impl.CheckName,
		"CALL x(1);":              impl.CheckName,
		"CALL z();":               impl.CheckName,
		"CALL f();":               impl.CheckName,
		"CALL A.q();":             impl.CheckName,
		"CALL A.r(@a);":           impl.CheckName,
		"OUT (q() + p(q(), @a));": impl.CheckWell,
	} {
		wantCheck(t, strings.ReplaceAll(text, "#", body), want, face("B", "f"))
		wantCheck(t, strings.ReplaceAll(text, "#", body), want, face("A", "q", "r 1"), face("B", "f"))
	}
}

func TestCallsOfOthers(t *testing.T) {
	faces := facesOf(face("B", "f", "g 0 1"), face("C", "f 0", "h", "p"), face("D", "f", "k"), face("A", "p", "f"))
	text := "MODULE A; IMPORT C; IMPORT B; VAR a[1]; VAR n; PROC p(); BEGIN # END; END."
	for body, want := range map[string]int{
		"CALL B.f();":              impl.CheckWell,
		"CALL B.g(1, @a);":         impl.CheckWell,
		"CALL C.f(1);":             impl.CheckWell,
		"CALL C.h();":              impl.CheckWell,
		"CALL C.p();":              impl.CheckWell,
		"OUT B.g(C.f(C.h()), @a);": impl.CheckWell,
		"CALL B.h();":              impl.CheckName,
		"CALL C.g(1, @a);":         impl.CheckName,
		"CALL B.p();":              impl.CheckName,
		"CALL B.a();":              impl.CheckName,
		"CALL B.n();":              impl.CheckName,
		"CALL D.f();":              impl.CheckName,
		"CALL D.k();":              impl.CheckName,
		"CALL A.p();":              impl.CheckName,
		"CALL A.f();":              impl.CheckName,
		"CALL E.f();":              impl.CheckName,
		"CALL Bf.f();":             impl.CheckName,
		"CALL B.ff();":             impl.CheckName,
		"CALL h();":                impl.CheckName,
		"CALL B.f(1);":             impl.CheckKind,
		"CALL C.f();":              impl.CheckKind,
		"CALL C.f(@a);":            impl.CheckKind,
	} {
		wantCheck(t, strings.ReplaceAll(text, "#", body), want, faces...)
		slices.Reverse(faces)
	}
	// Two names that make the same bytes one behind the other.
	for _, use := range []string{"", "IMPORT Bc; "} {
		text := "MODULE A; IMPORT B; " + use + "PROC p(); BEGIN CALL Bc.d(); END; END."
		wantCheck(t, text, impl.CheckName, face("B", "cd"), face("Bc", "e"))
	}
	for _, empty := range []impl.Face{face("B"), face("B", "f1"), face("B", "a")} {
		wantCheck(t, "MODULE A; IMPORT B; PROC p(); BEGIN CALL B.f(); END; END.", impl.CheckName, empty)
	}
}

// TestKidsOfCalls holds every list of parameters against every list of Kids.
func TestKidsOfCalls(t *testing.T) {
	for params := range lists(impl.MaxParams) {
		f := face("B", "f")
		f.Procs[0].Kinds = params
		var heads []string
		for i, kind := range params {
			heads = append(heads, []string{"", "@"}[kind]+named(9)[5+i])
		}
		for kids := range lists(impl.MaxParams) {
			want := impl.CheckWell
			if !slices.Equal(params, kids) {
				want = impl.CheckKind
			}
			var args []string
			for i, kind := range kids {
				args = append(args, []string{[]string{"1", "n", "IN", "LEN a"}[i], []string{"@a", "@v", "@a", "@a"}[i]}[kind])
			}
			call := "f(" + strings.Join(args, ", ") + ")"
			own := " PROC f(" + strings.Join(heads, ", ") + "); BEGIN END;"
			for _, body := range []string{"CALL #;", "IF 1 THEN ELSE WHILE 0 DO OUT (1 + a[#]); END; END;"} {
				begin := "MODULE A; IMPORT B; VAR n; VAR a[2];"
				proc := " PROC p(@v); BEGIN " + body + " END;"
				wantCheck(t, begin+strings.ReplaceAll(proc, "#", "B."+call)+" END.", want, f)
				wantCheck(t, begin+strings.ReplaceAll(proc, "#", call)+own+" END.", want, f)
				wantCheck(t, begin+own+strings.ReplaceAll(proc, "#", call)+" END.", want, f)
			}
		}
	}
}

// lists are all lists of 0 and 1 with at most so many in them.
func lists(most int) func(yield func([]int) bool) {
	return func(yield func([]int) bool) {
		for size := range most + 1 {
			for bits := range 1 << size {
				var l []int
				for i := range size {
					l = append(l, bits>>i&1)
				}
				if !yield(l) {
					return
				}
			}
		}
	}
}

// What a Kid is within itself plays no part in its kind.
func TestWhatIsAnInt(t *testing.T) {
	for _, kid := range []string{"1", "n", "a[0]", "(1 + n)", "IN", "LEN a", "f(1, @a)", "B.g()"} {
		begin := "MODULE A; IMPORT B; VAR n; VAR a[2]; PROC f(x, @y); BEGIN "
		wantCheck(t, begin+"CALL f("+kid+", @a); END; END.", impl.CheckWell, face("B", "g"))
		wantCheck(t, begin+"CALL f(1, "+kid+"); END; END.", impl.CheckKind, face("B", "g"))
	}
}

// faults are in the order of the document's list: of two, that of the earlier
// group is told. Each changes its own part of manyProcs.
var faults = []struct {
	code    int
	changes map[string]func(m *impl.Module, faces *[]impl.Face)
}{
	{impl.CheckForm, map[string]func(*impl.Module, *[]impl.Face){
		"Name of the module": func(m *impl.Module, _ *[]impl.Face) { m.Name = []byte("a") },
		"a Var's Size":       func(m *impl.Module, _ *[]impl.Face) { m.Vars[0].Size = -1 },
		"a trap at the end": func(m *impl.Module, _ *[]impl.Face) {
			m.Procs[3].Body = append(m.Procs[3].Body, stTrap(100))
		},
		"a face too many": func(_ *impl.Module, faces *[]impl.Face) {
			*faces = append(*faces, face("U"), face("V"), face("W"), face("X"), face("Y"), face("Z"))
		},
		"a face that may not be": func(_ *impl.Module, faces *[]impl.Face) { *faces = append(*faces, face("Z", "f 2")) },
		"a face with no Name":    func(_ *impl.Module, faces *[]impl.Face) { *faces = append(facesOf(face("")), *faces...) },
		"two faces of one Name":  func(_ *impl.Module, faces *[]impl.Face) { *faces = append(*faces, face("D", "g")) },
	}},
	{impl.CheckName, map[string]func(*impl.Module, *[]impl.Face){
		"two Vars": func(m *impl.Module, _ *[]impl.Face) {
			m.Vars = append(m.Vars, impl.Var{Name: []byte("n"), Size: 3})
		},
		"two Procs":      func(m *impl.Module, _ *[]impl.Face) { m.Procs[3].Name = []byte("q") },
		"Var and Proc":   func(m *impl.Module, _ *[]impl.Face) { m.Procs[3].Name = []byte("a") },
		"Param and Proc": func(m *impl.Module, _ *[]impl.Face) { m.Procs[3].Params[0].Name = []byte("s") },
		"Param and Var":  func(m *impl.Module, _ *[]impl.Face) { m.Procs[3].Params[0].Name = []byte("a") },
		"two Locals":     func(m *impl.Module, _ *[]impl.Face) { m.Procs[3].Locals = words("l", "l") },
		"two Params":     func(m *impl.Module, _ *[]impl.Face) { m.Procs[0].Params[1].Name = []byte("i") },
		"Param and Local": func(m *impl.Module, _ *[]impl.Face) {
			m.Procs[0].Locals = append(m.Procs[0].Locals, []byte("v"))
		},
		"Local and Var": func(m *impl.Module, _ *[]impl.Face) {
			m.Procs[0].Locals = append(m.Procs[0].Locals, []byte("n"))
		},
	}},
	{impl.CheckUse, map[string]func(*impl.Module, *[]impl.Face){
		"itself": func(m *impl.Module, _ *[]impl.Face) { m.Uses = append(m.Uses, []byte("A")) },
		"twice":  func(m *impl.Module, _ *[]impl.Face) { m.Uses = append(m.Uses, []byte("B")) },
		"none":   func(m *impl.Module, _ *[]impl.Face) { m.Uses = append(words("E"), m.Uses...) },
	}},
	{impl.CheckName, map[string]func(*impl.Module, *[]impl.Face){
		"first":      atBodies(stOut(exVar("z")), 0, false),
		"last":       atBodies(stSet("a", exInt(1)), 3, true),
		"in a block": atBodies(stIf(exIn(), nil, stmts(stWhile(exIn(), stPut("n", exInt(1), exInt(2))))), 2, true),
		"in a kind":  atBodies(stCall(exCall("", "q", exVar("zz"))), 3, true),
		"a call":     atBodies(stCall(exCall("", "n", exVar("n"))), 3, true),
		"a face's":   atBodies(stCall(exCall("B", "h", exArr("a"))), 0, true),
		"not used":   atBodies(stCall(exCall("D", "f", exArr("a"))), 3, true),
		"an array":   atBodies(stCall(exCall("B", "f", exArr("n"))), 3, true),
	}},
	{impl.CheckKind, map[string]func(*impl.Module, *[]impl.Face){
		"first":      atBodies(stCall(exCall("", "q", exInt(1))), 0, false),
		"last":       atBodies(stOut(exCall("B", "f", exInt(1), exInt(1))), 3, true),
		"in a block": atBodies(stWhile(exIn(), stIf(exIn(), stmts(stCall(exCall("B", "f"))), nil)), 1, false),
		"in a kid":   atBodies(stOut(exIndex("a", exBin(exInt(1), impl.ArAdd, exCall("", "p", exArr("a"), exInt(1))))), 2, true),
	}},
}

// atBodies puts a statement ahead of or behind those of a procedure.
func atBodies(s impl.Stmt, proc int, behind bool) func(*impl.Module, *[]impl.Face) {
	return func(m *impl.Module, _ *[]impl.Face) {
		at := 0
		if behind {
			at = len(m.Procs[proc].Body)
		}
		m.Procs[proc].Body = slices.Insert(m.Procs[proc].Body, at, s)
	}
}

func manyProcs(t *testing.T) (impl.Module, []impl.Face) {
	text := "MODULE A; IMPORT B; VAR n; VAR a[2];" +
		" PROC p(i, @v); VAR l; BEGIN OUT i; CALL B.f(1, @v); END;" +
		" PROC q*(); BEGIN OUT n; END;" +
		" PROC r*(@w); BEGIN WHILE LEN w DO CALL q(); END; END;" +
		" PROC s(k); VAR l; BEGIN CALL p((k + l), @a); END; END."
	return parsed(t, text), facesOf(face("B", "f 0 1"), face("C", "h"), face("D", "f 1"))
}

func TestWhichCodeIsTold(t *testing.T) {
	m, faces := manyProcs(t)
	if got := impl.Check(m, faces); got != impl.CheckWell {
		t.Fatal(got)
	}
	for i, group := range faults {
		for what, change := range group.changes {
			m, faces := manyProcs(t)
			change(&m, &faces)
			if got := impl.Check(m, faces); got != group.code {
				t.Errorf("%s: Check = %d, want %d", what, got, group.code)
			}
			for _, later := range faults[i+1:] {
				for further, other := range later.changes {
					wantFirst(t, what+", "+further, group.code, change, other)
					wantFirst(t, further+", "+what, group.code, other, change)
				}
			}
		}
	}
}

func wantFirst(t *testing.T, what string, want int, changes ...func(*impl.Module, *[]impl.Face)) {
	t.Helper()
	m, faces := manyProcs(t)
	for _, change := range changes {
		change(&m, &faces)
	}
	if got := impl.Check(m, faces); got != want {
		t.Errorf("%s: Check = %d, want %d", what, got, want)
	}
}

// checkByRule says the document's list over again, item by item.
func checkByRule(m impl.Module, faces []impl.Face) int {
	switch {
	case !formByTheList(m, faces):
		return impl.CheckForm
	case !ownByTheList(m):
		return impl.CheckName
	case !usesByTheList(m, faces):
		return impl.CheckUse
	case !partsByTheList(m, faces, nameByTheList):
		return impl.CheckName
	case !partsByTheList(m, faces, kindByTheList):
		return impl.CheckKind
	}
	return impl.CheckWell
}

func formByTheList(m impl.Module, faces []impl.Face) bool {
	seen := map[string]int{}
	ok := moduleOkByRule(m) && len(faces) <= 8
	for _, f := range faces {
		seen[string(f.Name)]++
		ok = ok && faceOkByRule(f) && seen[string(f.Name)] == 1
	}
	return ok
}

func ownByTheList(m impl.Module) bool {
	var all [][]byte
	for _, v := range m.Vars {
		all = append(all, v.Name)
	}
	for _, q := range m.Procs {
		all = append(all, q.Name)
	}
	if !unlike(all) {
		return false
	}
	for _, q := range m.Procs {
		within := slices.Concat(all, q.Locals)
		for _, a := range q.Params {
			within = append(within, a.Name)
		}
		if !unlike(within) {
			return false
		}
	}
	return true
}

func unlike(l [][]byte) bool {
	for i := range l {
		for j := range i {
			if bytes.Equal(l[i], l[j]) {
				return false
			}
		}
	}
	return true
}

func usesByTheList(m impl.Module, faces []impl.Face) bool {
	if !unlike(append(slices.Clone(m.Uses), m.Name)) {
		return false
	}
	for _, use := range m.Uses {
		if _, ok := faceByName(faces, use); !ok {
			return false
		}
	}
	return true
}

func faceByName(faces []impl.Face, name []byte) (impl.Face, bool) {
	for _, f := range faces {
		if bytes.Equal(f.Name, name) {
			return f, true
		}
	}
	return impl.Face{}, false
}

// place is where a part stands: what it may mean hangs on it alone.
type place struct {
	m     impl.Module
	q     impl.Proc
	faces []impl.Face
}

// partsByTheList asks for each part; a statement is asked for as an
// expression that needs the same.
func partsByTheList(m impl.Module, faces []impl.Face, ok func(place, impl.Expr) bool) bool {
	for _, q := range m.Procs {
		at := place{m, q, faces}
		for _, s := range stmtsOf(q.Body) {
			if s.Kind == impl.StSet && !ok(at, exVar(string(s.Name))) || s.Kind == impl.StPut && !ok(at, exLen(string(s.Name))) {
				return false
			}
			for _, e := range exprsOf(s.Kids) {
				if !ok(at, *e) {
					return false
				}
			}
		}
	}
	return true
}

func nameByTheList(at place, e impl.Expr) bool {
	switch e.Kind {
	case impl.ExVar:
		return at.what(e.Name) == "int"
	case impl.ExIndex, impl.ExLen, impl.ExArr:
		return at.what(e.Name) == "array"
	case impl.ExCall:
		_, ok := at.callee(e)
		return ok
	}
	return true
}

func kindByTheList(at place, e impl.Expr) bool {
	if e.Kind != impl.ExCall {
		return true
	}
	kinds, _ := at.callee(e)
	if len(kinds) != len(e.Kids) {
		return false
	}
	for i, kid := range e.Kids {
		if (kinds[i] != 0) != (kid.Kind == impl.ExArr) {
			return false
		}
	}
	return true
}

func (at place) what(name []byte) string {
	for _, a := range at.q.Params {
		if bytes.Equal(a.Name, name) {
			return map[bool]string{false: "int", true: "array"}[a.Arr]
		}
	}
	for _, local := range at.q.Locals {
		if bytes.Equal(local, name) {
			return "int"
		}
	}
	for _, v := range at.m.Vars {
		if bytes.Equal(v.Name, name) {
			return map[bool]string{true: "int", false: "array"}[v.Size == 0]
		}
	}
	return ""
}

func (at place) callee(e impl.Expr) ([]int, bool) {
	procs := faceOfAll(at.m).Procs
	if len(e.Mod) > 0 {
		f, ok := faceByName(at.faces, e.Mod)
		used := slices.ContainsFunc(at.m.Uses, func(use []byte) bool { return bytes.Equal(use, e.Mod) })
		if !ok || !used {
			return nil, false
		}
		procs = f.Procs
	}
	for _, q := range procs {
		if bytes.Equal(q.Name, e.Name) {
			return q.Kinds, true
		}
	}
	return nil, false
}

// faceOfAll is what the face would be, were all procedures Open.
func faceOfAll(m impl.Module) impl.Face {
	m.Procs = slices.Clone(m.Procs)
	for i := range m.Procs {
		m.Procs[i].Open = true
	}
	return openProcs(m)
}

// randomFaces have unlike names; each has some procedures.
func randomFaces(r *rand.Rand) []impl.Face {
	var faces []impl.Face
	for _, i := range r.Perm(5)[:r.Intn(6)] {
		f := face(strings.Fields("B Cc D1 Ee F")[i])
		for _, j := range r.Perm(4)[:r.Intn(5)] {
			q := impl.FaceProc{Name: []byte(strings.Fields("f g p q")[j])}
			for range r.Intn(4) {
				q.Kinds = append(q.Kinds, r.Intn(2))
			}
			f.Procs = append(f.Procs, q)
		}
		faces = append(faces, f)
	}
	return faces
}

// mender knows what may be named where it has come to.
type mender struct {
	r      *rand.Rand
	ints   []string
	arrays []string
	calls  []impl.Expr
	kinds  map[string][]int
}

func callKey(mod, name []byte) string { return string(mod) + "." + string(name) }

// mended makes a module well: names are unlike, each name that is used is one
// of what it must be, and calls have the Kids that they need.
func mended(r *rand.Rand, m impl.Module, faces []impl.Face) impl.Module {
	d := mender{r: r, ints: []string{"n"}, arrays: []string{"a"}, kinds: map[string][]int{}}
	m.Uses = nil
	for _, f := range faces {
		if !bytes.Equal(f.Name, m.Name) && r.Intn(3) > 0 && len(m.Uses) < impl.MaxUses {
			m.Uses = append(m.Uses, f.Name)
			d.callable(f.Name, f.Procs)
		}
	}
	m.Vars = append([]impl.Var{{Name: []byte("n")}, {Name: []byte("a"), Size: 3}}, m.Vars...)
	for i := 2; i < len(m.Vars); i++ {
		m.Vars[i].Name = fmt.Appendf(nil, "x%d", i)
		if m.Vars[i].Size == 0 {
			d.ints = append(d.ints, string(m.Vars[i].Name))
		} else {
			d.arrays = append(d.arrays, string(m.Vars[i].Name))
		}
	}
	for i := range m.Procs {
		m.Procs[i].Name = fmt.Appendf(nil, "p%d", i)
	}
	d.callable(nil, faceOfAll(impl.Module{Name: []byte("A"), Procs: bare(m.Procs)}).Procs)
	for i := range m.Procs {
		d.proc(&m.Procs[i])
	}
	return m
}

// bare are the procedures without what is within them.
func bare(l []impl.Proc) []impl.Proc {
	l = slices.Clone(l)
	for i := range l {
		l[i].Body = nil
	}
	return l
}

func (d *mender) callable(mod []byte, procs []impl.FaceProc) {
	for _, q := range procs {
		d.calls = append(d.calls, impl.Expr{Mod: mod, Name: q.Name})
		d.kinds[callKey(mod, q.Name)] = q.Kinds
	}
}

func (d *mender) proc(q *impl.Proc) {
	ints, arrays := len(d.ints), len(d.arrays)
	for i := range q.Params {
		name := fmt.Sprintf("v%d", i)
		q.Params[i].Name = []byte(name)
		if q.Params[i].Arr {
			d.arrays = append(d.arrays, name)
		} else {
			d.ints = append(d.ints, name)
		}
	}
	for i := range q.Locals {
		q.Locals[i] = fmt.Appendf(nil, "i%d", i)
		d.ints = append(d.ints, string(q.Locals[i]))
	}
	for _, s := range stmtsOf(q.Body) {
		switch s.Kind {
		case impl.StSet:
			s.Name = d.one(d.ints)
		case impl.StPut:
			s.Name = d.one(d.arrays)
		}
		for i := range s.Kids {
			d.expr(&s.Kids[i])
		}
	}
	d.ints, d.arrays = d.ints[:ints], d.arrays[:arrays]
}

func (d *mender) one(names []string) []byte { return []byte(names[d.r.Intn(len(names))]) }

func (d *mender) expr(e *impl.Expr) {
	switch e.Kind {
	case impl.ExVar:
		e.Name = d.one(d.ints)
	case impl.ExIndex, impl.ExLen, impl.ExArr:
		e.Name = d.one(d.arrays)
	case impl.ExCall:
		d.call(e)
	}
	for i := range e.Kids {
		d.expr(&e.Kids[i])
	}
}

func (d *mender) call(e *impl.Expr) {
	c := d.calls[d.r.Intn(len(d.calls))]
	e.Mod, e.Name = c.Mod, c.Name
	kinds := d.kinds[callKey(c.Mod, c.Name)]
	kids := make([]impl.Expr, len(kinds))
	for i, kind := range kinds {
		switch {
		case kind == 1:
			kids[i] = exArr("a")
		case i < len(e.Kids) && e.Kids[i].Kind != impl.ExArr:
			kids[i] = e.Kids[i]
		default:
			kids[i] = exVar("n")
		}
	}
	e.Kids = kids
}

// wellWorld is a module that is well over its faces; what is drawn may break a
// limit and is drawn again then.
func wellWorld(r *rand.Rand) (impl.Module, []impl.Face) {
	for {
		faces := randomFaces(r)
		m := mended(r, randomModule(r, 5+r.Intn(80)), faces)
		if moduleOkByRule(m) {
			return m, faces
		}
	}
}

// TestModulesThatAreWell holds promise 6.
func TestModulesThatAreWell(t *testing.T) {
	r := rand.New(rand.NewSource(71))
	own, crossing := 0, 0
	for range 1500 {
		m, faces := wellWorld(r)
		if got := impl.Check(m, faces); got != impl.CheckWell || checkByRule(m, faces) != got {
			t.Fatalf("Check(%v, %v) = %d", m, faces, got)
		}
		f := impl.FaceOf(m)
		if !impl.FaceOk(f) || !sameFace(f, faceByRule(m)) {
			t.Fatalf("FaceOf(%v) = %v", m, f)
		}
		for _, q := range m.Procs {
			for _, s := range stmtsOf(q.Body) {
				for _, e := range exprsOf(s.Kids) {
					if e.Kind == impl.ExCall && len(e.Mod) > 0 {
						crossing++
					} else if e.Kind == impl.ExCall {
						own++
					}
				}
			}
		}
		if got := impl.Check(m, append(facesOf(face("Zz", "f", "p")), faces...)); got != impl.CheckWell {
			t.Fatalf("beside a face that is not used: Check = %d", got)
		}
	}
	if own < 1000 || crossing < 1000 {
		t.Errorf("only %d and %d calls were in it", own, crossing)
	}
}

// TestFacesThatAreNotUsed: with them, without them and with others in their
// place the same is told, whatever it is.
func TestFacesThatAreNotUsed(t *testing.T) {
	r := rand.New(rand.NewSource(72))
	told := make([]int, 5)
	for range 3000 {
		m, faces := wellWorld(r)
		spoilOne(r, &m, &faces)
		want := impl.Check(m, faces)
		if want == impl.CheckForm {
			continue
		}
		told[want]++
		var fewer, others []impl.Face
		for _, f := range faces {
			if slices.ContainsFunc(m.Uses, func(use []byte) bool { return bytes.Equal(use, f.Name) }) {
				fewer, others = append(fewer, f), append(others, f)
			} else {
				others = append(others, face(string(f.Name), "p0 1 1", "n", "zz"))
			}
		}
		more := append(slices.Clone(faces), face(string(m.Name)+"q", "f 1", "p1"))
		for _, l := range [][]impl.Face{fewer, others, more} {
			if got := impl.Check(m, l); got != want {
				t.Fatalf("Check(%v) over %v = %d, over %v = %d", m, faces, want, l, got)
			}
		}
	}
	for code, count := range told {
		if code != impl.CheckForm && count < 50 {
			t.Errorf("only %d modules with %d", count, code)
		}
	}
}

// spoilOne changes something at random; mostly it is wrong then.
func spoilOne(r *rand.Rand, m *impl.Module, faces *[]impl.Face) {
	var ss []*impl.Stmt
	var es, calls []*impl.Expr
	for i := range m.Procs {
		ss = append(ss, stmtsOf(m.Procs[i].Body)...)
	}
	for _, s := range ss {
		es = append(es, exprsOf(s.Kids)...)
	}
	for _, e := range es {
		if e.Kind == impl.ExCall {
			calls = append(calls, e)
		}
	}
	name := pick(r, "n a x2 x3 v0 v1 i0 i1 p0 p1 f g p z")
	switch choice := r.Intn(12); {
	case choice == 0 && len(ss) > 0:
		if s := ss[r.Intn(len(ss))]; len(s.Name) > 0 {
			s.Name = name
		}
	case choice <= 2 && len(es) > 0:
		if e := es[r.Intn(len(es))]; len(e.Name) > 0 {
			e.Name = name
		}
	case choice <= 4 && len(calls) > 0:
		e := calls[r.Intn(len(calls))]
		e.Kids = append(slices.Clone(e.Kids), []impl.Expr{exInt(1), exArr("a")}[r.Intn(2)])
	case choice <= 6 && len(calls) > 0:
		if e := calls[r.Intn(len(calls))]; len(e.Kids) > 0 {
			e.Kids = slices.Clone(e.Kids[1:])
		}
	case choice == 7 && len(calls) > 0:
		calls[r.Intn(len(calls))].Mod = pick(r, "B Cc D1 Ee A Zz")
	case choice == 8:
		m.Uses = append(m.Uses, pick(r, "B Cc D1 Ee F A Main Zz9"))
	case choice == 9 && len(m.Procs) > 0:
		q := &m.Procs[r.Intn(len(m.Procs))]
		q.Locals = append(q.Locals, name)
	case choice == 10:
		m.Vars[r.Intn(len(m.Vars))].Name = name
	case choice == 11 && len(m.Procs) > 0:
		m.Procs[r.Intn(len(m.Procs))].Name = name
	default:
		*faces = append(*faces, face(string(pick(r, "B Cc G H")), "f"))
	}
}

func TestCheckByRule(t *testing.T) {
	r := rand.New(rand.NewSource(73))
	told := make([]int, 5)
	for i := range 6000 {
		m, faces := wellWorld(r)
		for range 1 + i%3 {
			spoilOne(r, &m, &faces)
		}
		want := checkByRule(m, faces)
		told[want]++
		if got := impl.Check(m, faces); got != want {
			t.Fatalf("Check(%v, %v) = %d, want %d", m, faces, got, want)
		}
		wantFaceOf(t, m, faceByRule(m))
	}
	for code, count := range told {
		if count < 100 {
			t.Errorf("only %d modules with %d", count, code)
		}
	}
}

func TestRandomModulesByRule(t *testing.T) {
	r := rand.New(rand.NewSource(74))
	for range 4000 {
		m, faces := randomModule(r, r.Intn(9)), randomFaces(r)
		if got, want := impl.Check(m, faces), checkByRule(m, faces); got != want {
			t.Fatalf("Check(%v, %v) = %d, want %d", m, faces, got, want)
		}
	}
}

func (w *watcher) face(f impl.Face) impl.Face {
	procs := slices.Clone(f.Procs)
	for i, q := range procs {
		procs[i] = impl.FaceProc{Name: w.name(q.Name), Kinds: widened(w, q.Kinds, 1, 77)}
	}
	return impl.Face{Name: w.name(f.Name), Procs: widened(w, procs, impl.FaceProc{Name: []byte("room")}, impl.FaceProc{})}
}

func (w *watcher) faces(l []impl.Face) []impl.Face {
	out := slices.Clone(l)
	for i := range out {
		out[i] = w.face(out[i])
	}
	return widened(w, out, face("Room", "f"), impl.Face{})
}

func TestFacesHandedInStay(t *testing.T) {
	full := face("B", named(impl.MaxExports)...)
	full.Procs[7].Kinds = []int{1, 0, 1, 0}
	for _, f := range []impl.Face{{}, face("B"), face("B", "f 0 1", "g"), face("B", "f", "f"), face("B", "f 3"), full} {
		var w watcher
		if got := impl.FaceOk(w.face(f)); got != faceOkByRule(f) {
			t.Errorf("FaceOk(%v) = %v: it looks behind a list's length", f, got)
		}
		if !w.asItWas() {
			t.Errorf("FaceOk has changed %v", f)
		}
	}
}

func TestWhatIsCheckedStays(t *testing.T) {
	r := rand.New(rand.NewSource(75))
	for i := range 300 {
		m, faces := wellWorld(r)
		if i%3 > 0 {
			spoilOne(r, &m, &faces)
		}
		var w watcher
		wide, wideFaces := w.module(m), w.faces(faces)
		want := checkByRule(m, faces)
		for range 2 {
			if got := impl.Check(wide, wideFaces); got != want {
				t.Fatalf("Check = %d, want %d: it looks behind a list's length, or keeps something", got, want)
			}
		}
		if f := impl.FaceOf(wide); !sameFace(f, faceByRule(m)) {
			t.Fatalf("FaceOf = %v: it looks behind a list's length", f)
		}
		if !w.asItWas() {
			t.Fatal("what was handed in has changed")
		}
	}
}

func faceLists(f impl.Face) [][]byte {
	l := [][]byte{f.Name}
	for _, q := range f.Procs {
		l = append(l, q.Name)
	}
	return l
}

func TestFaceOfSharesNothing(t *testing.T) {
	m := parsed(t, "MODULE Abc; PROC pq*(x, @y); BEGIN END; PROC rs*(@x, y); BEGIN END; PROC tu*(); BEGIN END; END.")
	want := face("Abc", "pq 0 1", "rs 1 0", "tu")
	var w watcher
	wide := w.module(m)
	f := impl.FaceOf(wide)
	for _, l := range faceLists(f) {
		fillRoom(l)
	}
	for _, q := range f.Procs {
		fillRoom(q.Kinds)
	}
	fillRoom(f.Procs)
	if !sameFace(f, want) {
		t.Error("what lies behind a list of the answer is another list")
	}
	for i := range faceLists(f) {
		one, other := impl.FaceOf(wide), impl.FaceOf(wide)
		spoil(faceLists(one)[i])
		for j, l := range faceLists(one) {
			if j != i && !bytes.Equal(l, faceLists(want)[j]) {
				t.Error("two lists of one answer share memory")
			}
		}
		if !sameFace(other, want) || !w.asItWas() {
			t.Error("an answer shares memory with another one, or with the module")
		}
	}
	one, other := impl.FaceOf(wide), impl.FaceOf(wide)
	for _, kinds := range [][]int{one.Procs[0].Kinds, one.Procs[1].Kinds} {
		for i := range kinds {
			kinds[i] += 7
		}
	}
	if !slices.Equal(one.Procs[0].Kinds, []int{7, 8}) || !slices.Equal(one.Procs[1].Kinds, []int{8, 7}) || !sameFace(other, want) {
		t.Error("Kinds share memory")
	}
}
