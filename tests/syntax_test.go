package tests

import (
	"bytes"
	"fmt"
	"math"
	"math/rand"
	"regexp"
	"slices"
	"strconv"
	"strings"
	"testing"

	"loop.example/g00335/impl"
)

// Trees, written shortly.

func exInt(n int) impl.Expr { return impl.Expr{Kind: impl.ExInt, N: n} }

func exVar(name string) impl.Expr { return impl.Expr{Kind: impl.ExVar, Name: []byte(name)} }

func exIndex(name string, k impl.Expr) impl.Expr {
	return impl.Expr{Kind: impl.ExIndex, Name: []byte(name), Kids: []impl.Expr{k}}
}

func exBin(a impl.Expr, op int, b impl.Expr) impl.Expr {
	return impl.Expr{Kind: impl.ExBin, N: op, Kids: []impl.Expr{a, b}}
}

func exIn() impl.Expr { return impl.Expr{Kind: impl.ExIn} }

func exLen(name string) impl.Expr { return impl.Expr{Kind: impl.ExLen, Name: []byte(name)} }

func exCall(mod, name string, kids ...impl.Expr) impl.Expr {
	return impl.Expr{Kind: impl.ExCall, Mod: []byte(mod), Name: []byte(name), Kids: kids}
}

func exArr(name string) impl.Expr { return impl.Expr{Kind: impl.ExArr, Name: []byte(name)} }

func stSet(name string, k impl.Expr) impl.Stmt {
	return impl.Stmt{Kind: impl.StSet, Name: []byte(name), Kids: []impl.Expr{k}}
}

func stPut(name string, at, k impl.Expr) impl.Stmt {
	return impl.Stmt{Kind: impl.StPut, Name: []byte(name), Kids: []impl.Expr{at, k}}
}

func stIf(k impl.Expr, body, other []impl.Stmt) impl.Stmt {
	return impl.Stmt{Kind: impl.StIf, Kids: []impl.Expr{k}, Body: body, Else: other}
}

func stWhile(k impl.Expr, body ...impl.Stmt) impl.Stmt {
	return impl.Stmt{Kind: impl.StWhile, Kids: []impl.Expr{k}, Body: body}
}

func stReturn(k impl.Expr) impl.Stmt {
	return impl.Stmt{Kind: impl.StReturn, Kids: []impl.Expr{k}}
}

func stOut(k impl.Expr) impl.Stmt { return impl.Stmt{Kind: impl.StOut, Kids: []impl.Expr{k}} }

func stTrap(n int) impl.Stmt { return impl.Stmt{Kind: impl.StTrap, N: n} }

func stCall(k impl.Expr) impl.Stmt { return impl.Stmt{Kind: impl.StCall, Kids: []impl.Expr{k}} }

func stmts(l ...impl.Stmt) []impl.Stmt { return l }

// bodied is the module A whose one procedure p has these statements.
func bodied(l ...impl.Stmt) impl.Module {
	return impl.Module{Name: []byte("A"), Procs: []impl.Proc{{Name: []byte("p"), Body: l}}}
}

// inBody is the text of bodied around the text of statements.
func inBody(text string) string {
	return "MODULE A ;\nPROC p ( ) ;\nBEGIN\n" + text + "END ;\nEND .\n"
}

func words(names ...string) [][]byte {
	var l [][]byte
	for _, name := range names {
		l = append(l, []byte(name))
	}
	return l
}

// sameModule takes an empty list for nil, as the document does.
func sameModule(a, b impl.Module) bool { return fmt.Sprint(a) == fmt.Sprint(b) }

// moduleForms: modules with their texts, written out by hand.
var moduleForms = []struct {
	m    impl.Module
	text string
}{
	{impl.Module{Name: []byte("A")}, "MODULE A ;\nEND .\n"},
	{
		impl.Module{Name: []byte("Zz09abcd"), Uses: words("B", "B", "Zz09abcd")},
		"MODULE Zz09abcd ;\nIMPORT B ;\nIMPORT B ;\nIMPORT Zz09abcd ;\nEND .\n",
	},
	{
		impl.Module{Name: []byte("A"), Vars: []impl.Var{{Name: []byte("x")}, {Name: []byte("x"), Size: 1}, {Name: []byte("z9"), Size: impl.MaxArray}}},
		"MODULE A ;\nVAR x ;\nVAR x [ 1 ] ;\nVAR z9 [ 20 ] ;\nEND .\n",
	},
	{
		impl.Module{Name: []byte("A"), Procs: []impl.Proc{
			{Name: []byte("p")},
			{Name: []byte("q"), Open: true, Params: []impl.Param{{Name: []byte("a")}}},
			{Name: []byte("q"), Params: []impl.Param{{Name: []byte("a"), Arr: true}, {Name: []byte("a")}}, Locals: words("a", "i")},
		}},
		"MODULE A ;\nPROC p ( ) ;\nBEGIN\nEND ;\nPROC q * ( a ) ;\nBEGIN\nEND ;\n" +
			"PROC q ( @ a , a ) ;\nVAR a ;\nVAR i ;\nBEGIN\nEND ;\nEND .\n",
	},
	{bodied(stSet("x", exInt(0)), stSet("x", exInt(-1))), inBody("x := 0 ;\nx := -1 ;\n")},
	{bodied(stPut("x", exVar("i"), exIn())), inBody("x [ i ] := IN ;\n")},
	{bodied(stIf(exIn(), nil, nil)), inBody("IF IN THEN\nELSE\nEND ;\n")},
	{
		bodied(stIf(exVar("x"), stmts(stTrap(0), stTrap(99)), stmts(stOut(exLen("a"))))),
		inBody("IF x THEN\nTRAP 0 ;\nTRAP 99 ;\nELSE\nOUT LEN a ;\nEND ;\n"),
	},
	{bodied(stWhile(exInt(1)), stTrap(7)), inBody("WHILE 1 DO\nEND ;\nTRAP 7 ;\n")},
	{bodied(stWhile(exInt(1), stTrap(7))), inBody("WHILE 1 DO\nTRAP 7 ;\nEND ;\n")},
	{bodied(stReturn(exIndex("a", exIndex("b", exInt(12))))), inBody("RETURN a [ b [ 12 ] ] ;\n")},
	{
		bodied(stOut(exBin(exBin(exInt(1), impl.ArAdd, exInt(-2)), impl.ArSub, exBin(exVar("x"), impl.ArMul, exInt(3))))),
		inBody("OUT ( ( 1 + -2 ) - ( x * 3 ) ) ;\n"),
	},
	{
		bodied(stOut(exBin(exBin(exInt(1), impl.ArDiv, exIn()), impl.ArLess, exBin(exVar("x"), impl.ArSame, exInt(3))))),
		inBody("OUT ( ( 1 / IN ) < ( x = 3 ) ) ;\n"),
	},
	{bodied(stCall(exCall("", "f")), stCall(exCall("B", "f"))), inBody("CALL f ( ) ;\nCALL B . f ( ) ;\n")},
	{
		bodied(stCall(exCall("", "f", exArr("a"), exInt(1), exCall("Bb", "g", exArr("f")), exVar("x")))),
		inBody("CALL f ( @ a , 1 , Bb . g ( @ f ) , x ) ;\n"),
	},
	{bodied(stReturn(exCall("C", "f", exIn()))), inBody("RETURN C . f ( IN ) ;\n")},
	{bodied(stOut(exInt(math.MaxInt32)), stOut(exInt(math.MinInt32))), inBody("OUT 2147483647 ;\nOUT -2147483648 ;\n")},
}

// mixedModule has something of everything.
func mixedModule() impl.Module {
	return impl.Module{
		Name: []byte("Main"),
		Uses: words("B", "Cc"),
		Vars: []impl.Var{{Name: []byte("x")}, {Name: []byte("a"), Size: 3}},
		Procs: []impl.Proc{
			{
				Name: []byte("p"), Open: true,
				Params: []impl.Param{{Name: []byte("v"), Arr: true}, {Name: []byte("n")}},
				Locals: words("i", "j"),
				Body: stmts(
					stWhile(exBin(exVar("i"), impl.ArLess, exLen("v")),
						stPut("v", exVar("i"), exBin(exIndex("v", exVar("i")), impl.ArAdd, exCall("B", "f", exVar("n"), exArr("a")))),
						stSet("i", exBin(exVar("i"), impl.ArSub, exInt(-1)))),
					stIf(exIn(), stmts(stTrap(3)), stmts(stReturn(exInt(-4)), stOut(exCall("", "q")))),
					stCall(exCall("", "q")), stCall(exCall("Cc", "g", exInt(5)))),
			},
			{Name: []byte("q")},
		},
	}
}

func wantModule(t *testing.T, what string, m impl.Module, text string) {
	t.Helper()
	if !impl.ModuleOk(m) {
		t.Errorf("%s: ModuleOk refuses it", what)
	}
	if b, ok := impl.Print(m); !ok || string(b) != text {
		t.Errorf("%s: Print = %q, %v, want %q", what, b, ok, text)
	}
	wantParsed(t, what, text, m)
}

func wantParsed(t *testing.T, what string, text string, m impl.Module) {
	t.Helper()
	if got, code, at := impl.Parse([]byte(text)); code != impl.ParseWell || at != 0 || !sameModule(got, m) {
		t.Errorf("%s: Parse(%q) = %v, %d, %d, want %v", what, text, got, code, at, m)
	}
}

func wantNoModule(t *testing.T, what string, m impl.Module) {
	t.Helper()
	if impl.ModuleOk(m) {
		t.Errorf("%s: ModuleOk takes it", what)
	}
	if b, ok := impl.Print(m); ok || len(b) != 0 {
		t.Errorf("%s: Print = %q, %v", what, b, ok)
	}
}

func wantRefused(t *testing.T, text string, code, at int) {
	t.Helper()
	m, gotCode, gotAt := impl.Parse([]byte(text))
	if gotCode != code || gotAt != at || !sameModule(m, impl.Module{}) {
		t.Errorf("Parse(%q) = %v, %d, %d, want %d, %d", text, m, gotCode, gotAt, code, at)
	}
}

func TestCodesOfSyntax(t *testing.T) {
	codes := []int{
		impl.ExInt, impl.ExVar, impl.ExIndex, impl.ExBin, impl.ExIn, impl.ExLen, impl.ExCall, impl.ExArr,
		impl.StSet, impl.StPut, impl.StIf, impl.StWhile, impl.StReturn, impl.StOut, impl.StTrap, impl.StCall,
	}
	for i, code := range codes {
		if code != i%8 {
			t.Errorf("kind %d is %d", i, code)
		}
	}
	if !slices.Equal([]int{impl.ParseWell, impl.ParseLong, impl.ParseByte, impl.ParseForm}, []int{0, 1, 2, 3}) {
		t.Error("the codes of Parse")
	}
	limits := []int{
		impl.MaxProgram, impl.MaxVars, impl.MaxLocals, impl.MaxProcs, impl.MaxUses,
		impl.MaxNodes, impl.MaxDeep, impl.MaxArray,
	}
	if !slices.Equal(limits, []int{3000, 8, 8, 8, 6, 250, 16, 20}) {
		t.Errorf("limits %v", limits)
	}
}

func TestModuleForms(t *testing.T) {
	for _, x := range moduleForms {
		wantModule(t, x.text, x.m, x.text)
	}
	m := mixedModule()
	wantModule(t, "a mixed module", m, textByRule(m))
}

// tokensByRule says the tables over again, kind by kind.
func tokensByRule(m impl.Module) []string {
	l := []string{"MODULE", string(m.Name), ";"}
	for _, use := range m.Uses {
		l = append(l, "IMPORT", string(use), ";")
	}
	for _, v := range m.Vars {
		l = append(l, "VAR", string(v.Name))
		if v.Size != 0 {
			l = append(l, "[", strconv.Itoa(v.Size), "]")
		}
		l = append(l, ";")
	}
	for _, q := range m.Procs {
		l = append(l, "PROC", string(q.Name))
		if q.Open {
			l = append(l, "*")
		}
		l = append(l, "(")
		for i, a := range q.Params {
			if i != 0 {
				l = append(l, ",")
			}
			if a.Arr {
				l = append(l, "@")
			}
			l = append(l, string(a.Name))
		}
		l = append(l, ")", ";")
		for _, local := range q.Locals {
			l = append(l, "VAR", string(local), ";")
		}
		l = append(l, "BEGIN")
		l = append(l, stmtTokens(q.Body)...)
		l = append(l, "END", ";")
	}
	return append(l, "END", ".")
}

func stmtTokens(body []impl.Stmt) []string {
	var l []string
	for _, s := range body {
		kid := func(i int) []string { return exprTokens(s.Kids[i]) }
		name := []string{string(s.Name)}
		switch s.Kind {
		case impl.StSet:
			l = slices.Concat(l, name, []string{":="}, kid(0), []string{";"})
		case impl.StPut:
			l = slices.Concat(l, name, []string{"["}, kid(0), []string{"]", ":="}, kid(1), []string{";"})
		case impl.StIf:
			l = slices.Concat(l, []string{"IF"}, kid(0), []string{"THEN"}, stmtTokens(s.Body), []string{"ELSE"}, stmtTokens(s.Else), []string{"END", ";"})
		case impl.StWhile:
			l = slices.Concat(l, []string{"WHILE"}, kid(0), []string{"DO"}, stmtTokens(s.Body), []string{"END", ";"})
		case impl.StReturn:
			l = slices.Concat(l, []string{"RETURN"}, kid(0), []string{";"})
		case impl.StOut:
			l = slices.Concat(l, []string{"OUT"}, kid(0), []string{";"})
		case impl.StTrap:
			l = append(l, "TRAP", strconv.Itoa(s.N), ";")
		case impl.StCall:
			l = slices.Concat(l, []string{"CALL"}, kid(0), []string{";"})
		}
	}
	return l
}

func exprTokens(e impl.Expr) []string {
	name := string(e.Name)
	switch e.Kind {
	case impl.ExInt:
		return []string{strconv.Itoa(e.N)}
	case impl.ExVar:
		return []string{name}
	case impl.ExIndex:
		return slices.Concat([]string{name, "["}, exprTokens(e.Kids[0]), []string{"]"})
	case impl.ExBin:
		op := []string{"+", "-", "*", "/", "<", "="}[e.N]
		return slices.Concat([]string{"("}, exprTokens(e.Kids[0]), []string{op}, exprTokens(e.Kids[1]), []string{")"})
	case impl.ExIn:
		return []string{"IN"}
	case impl.ExLen:
		return []string{"LEN", name}
	case impl.ExArr:
		return []string{"@", name}
	}
	var l []string
	if len(e.Mod) != 0 {
		l = append(l, string(e.Mod), ".")
	}
	l = append(l, name, "(")
	for i, k := range e.Kids {
		if i != 0 {
			l = append(l, ",")
		}
		l = append(l, exprTokens(k)...)
	}
	return append(l, ")")
}

var lineEnd = regexp.MustCompile(`(;|\bBEGIN|\bTHEN|\bELSE|\bDO) `)

func textByRule(m impl.Module) string {
	return lineEnd.ReplaceAllString(strings.Join(tokensByRule(m), " "), "$1\n") + "\n"
}

// moduleOkByRule says ModuleOk over again.
func moduleOkByRule(m impl.Module) bool {
	if !isName(m.Name, 'A') || len(m.Uses) > 6 || len(m.Vars) > 8 || len(m.Procs) > 8 {
		return false
	}
	for _, use := range m.Uses {
		if !isName(use, 'A') {
			return false
		}
	}
	for _, v := range m.Vars {
		if !isName(v.Name, 'a') || v.Size < 0 || v.Size > 20 {
			return false
		}
	}
	nodes := 0
	for _, q := range m.Procs {
		if !isName(q.Name, 'a') || len(q.Params) > 4 || len(q.Locals) > 8 {
			return false
		}
		for _, a := range q.Params {
			if !isName(a.Name, 'a') {
				return false
			}
		}
		for _, local := range q.Locals {
			if !isName(local, 'a') {
				return false
			}
		}
		count, ok := stmtsByRule(q.Body, 1)
		if !ok {
			return false
		}
		nodes += count
	}
	// Lines end where blanks stand else: the text is as long with blanks alone.
	return nodes <= 250 && len(strings.Join(tokensByRule(m), " "))+1 <= 3000
}

func stmtsByRule(l []impl.Stmt, deep int) (int, bool) {
	nodes := 0
	for _, s := range l {
		if deep > 16 || !stmtByRule(s) {
			return 0, false
		}
		kids, kidsOk := exprsByRule(s.Kids, deep+1, false)
		body, bodyOk := stmtsByRule(s.Body, deep+1)
		other, otherOk := stmtsByRule(s.Else, deep+1)
		if !kidsOk || !bodyOk || !otherOk {
			return 0, false
		}
		nodes += 1 + kids + body + other
	}
	return nodes, true
}

func stmtByRule(s impl.Stmt) bool {
	plain := s.N == 0 && len(s.Name) == 0
	named := s.N == 0 && isName(s.Name, 'a')
	noBlocks := len(s.Body) == 0 && len(s.Else) == 0
	switch s.Kind {
	case impl.StSet:
		return named && noBlocks && len(s.Kids) == 1
	case impl.StPut:
		return named && noBlocks && len(s.Kids) == 2
	case impl.StIf:
		return plain && len(s.Kids) == 1
	case impl.StWhile:
		return plain && len(s.Kids) == 1 && len(s.Else) == 0
	case impl.StReturn, impl.StOut:
		return plain && noBlocks && len(s.Kids) == 1
	case impl.StTrap:
		return s.N >= 0 && s.N <= 99 && len(s.Name) == 0 && noBlocks && len(s.Kids) == 0
	case impl.StCall:
		return plain && noBlocks && len(s.Kids) == 1 && s.Kids[0].Kind == impl.ExCall
	}
	return false
}

func exprsByRule(l []impl.Expr, deep int, inCall bool) (int, bool) {
	nodes := 0
	for _, e := range l {
		if deep > 16 || e.Kind == impl.ExArr && !inCall || !exprByRule(e) {
			return 0, false
		}
		kids, ok := exprsByRule(e.Kids, deep+1, e.Kind == impl.ExCall)
		if !ok {
			return 0, false
		}
		nodes += 1 + kids
	}
	return nodes, true
}

func exprByRule(e impl.Expr) bool {
	named := e.N == 0 && len(e.Mod) == 0 && isName(e.Name, 'a')
	noNames := len(e.Mod) == 0 && len(e.Name) == 0
	switch e.Kind {
	case impl.ExInt:
		return e.N >= -1<<31 && e.N < 1<<31 && noNames && len(e.Kids) == 0
	case impl.ExVar, impl.ExLen, impl.ExArr:
		return named && len(e.Kids) == 0
	case impl.ExIndex:
		return named && len(e.Kids) == 1
	case impl.ExBin:
		return e.N >= 0 && e.N <= 5 && noNames && len(e.Kids) == 2
	case impl.ExIn:
		return e.N == 0 && noNames && len(e.Kids) == 0
	case impl.ExCall:
		return e.N == 0 && isName(e.Name, 'a') && (len(e.Mod) == 0 || isName(e.Mod, 'A')) && len(e.Kids) <= 4
	}
	return false
}

// wantByRule holds ModuleOk, Print and Parse against the rule.
func wantByRule(t *testing.T, what string, m impl.Module) {
	t.Helper()
	if moduleOkByRule(m) {
		wantModule(t, what, m, textByRule(m))
	} else {
		wantNoModule(t, what, m)
	}
}

func TestNamesInModules(t *testing.T) {
	small := map[string]func(name []byte) impl.Module{
		"a var": func(name []byte) impl.Module {
			return impl.Module{Name: []byte("A"), Vars: []impl.Var{{Name: name}}}
		},
		"an array": func(name []byte) impl.Module {
			return impl.Module{Name: []byte("A"), Vars: []impl.Var{{Name: []byte("x")}, {Name: name, Size: 1}}}
		},
		"a procedure": func(name []byte) impl.Module {
			return impl.Module{Name: []byte("A"), Procs: []impl.Proc{{Name: name}}}
		},
		"a parameter": func(name []byte) impl.Module {
			return impl.Module{Name: []byte("A"), Procs: []impl.Proc{{Name: []byte("p"), Params: []impl.Param{{Name: name}}}}}
		},
		"an array parameter": func(name []byte) impl.Module {
			return impl.Module{Name: []byte("A"), Procs: []impl.Proc{{Name: []byte("p"), Params: []impl.Param{{Name: []byte("a")}, {Name: name, Arr: true}}}}}
		},
		"a local": func(name []byte) impl.Module {
			return impl.Module{Name: []byte("A"), Procs: []impl.Proc{{Name: []byte("p"), Locals: [][]byte{[]byte("a"), name}}}}
		},
		"StSet":   func(name []byte) impl.Module { return bodied(stSet(string(name), exIn())) },
		"StPut":   func(name []byte) impl.Module { return bodied(stPut(string(name), exIn(), exIn())) },
		"ExVar":   func(name []byte) impl.Module { return bodied(stOut(exVar(string(name)))) },
		"ExIndex": func(name []byte) impl.Module { return bodied(stOut(exIndex(string(name), exIn()))) },
		"ExLen":   func(name []byte) impl.Module { return bodied(stOut(exLen(string(name)))) },
		"ExCall":  func(name []byte) impl.Module { return bodied(stOut(exCall("", string(name)))) },
		"ExArr":   func(name []byte) impl.Module { return bodied(stOut(exCall("", "f", exArr(string(name))))) },
	}
	great := map[string]func(name []byte) impl.Module{
		"a module": func(name []byte) impl.Module { return impl.Module{Name: name} },
		"a use": func(name []byte) impl.Module {
			return impl.Module{Name: []byte("A"), Uses: [][]byte{[]byte("B"), name}}
		},
		"Mod": func(name []byte) impl.Module { return bodied(stCall(exCall(string(name), "f"))) },
	}
	for what, of := range small {
		for _, name := range goodSmall {
			wantModule(t, what, of([]byte(name)), textByRule(of([]byte(name))))
		}
		for _, name := range badSmall {
			wantNoModule(t, what+" named "+name, of([]byte(name)))
		}
	}
	for what, of := range great {
		for _, name := range goodGreat {
			wantModule(t, what, of([]byte(name)), textByRule(of([]byte(name))))
		}
		for _, name := range badGreat {
			if name != "" || what != "Mod" {
				wantNoModule(t, what+" named "+name, of([]byte(name)))
			}
		}
	}
}

func repeated[T any](count int, one T) []T {
	return slices.Repeat([]T{one}, count)
}

// counts are modules with so many of one thing.
func counts(count int) map[string]impl.Module {
	with := func(q impl.Proc) impl.Module {
		q.Name = []byte("p")
		return impl.Module{Name: []byte("A"), Procs: []impl.Proc{{Name: []byte("q")}, q}}
	}
	return map[string]impl.Module{
		"uses":       {Name: []byte("A"), Uses: repeated(count, []byte("B"))},
		"vars":       {Name: []byte("A"), Vars: repeated(count, impl.Var{Name: []byte("x")})},
		"procedures": {Name: []byte("A"), Procs: repeated(count, impl.Proc{Name: []byte("p")})},
		"parameters": with(impl.Proc{Params: repeated(count, impl.Param{Name: []byte("x")})}),
		"locals":     with(impl.Proc{Locals: repeated(count, []byte("x"))}),
		"arguments":  bodied(stOut(exCall("", "f", repeated(count, exArr("x"))...))),
	}
}

func TestCountsInModules(t *testing.T) {
	most := map[string]int{
		"uses": impl.MaxUses, "vars": impl.MaxVars, "procedures": impl.MaxProcs,
		"parameters": impl.MaxParams, "locals": impl.MaxLocals, "arguments": impl.MaxParams,
	}
	for count := range 12 {
		for what, m := range counts(count) {
			if count <= most[what] {
				wantModule(t, what, m, textByRule(m))
				continue
			}
			wantNoModule(t, what, m)
			wantRefused(t, textByRule(m), impl.ParseLong, 0)
		}
	}
}

func TestSizesOfArrays(t *testing.T) {
	sized := func(size int) impl.Module {
		return impl.Module{Name: []byte("A"), Vars: []impl.Var{{Name: []byte("x"), Size: size}}}
	}
	for _, size := range []int{0, 1, 2, impl.MaxArray - 1, impl.MaxArray} {
		wantModule(t, "an array", sized(size), textByRule(sized(size)))
	}
	for _, size := range []int{-1, -2, impl.MaxArray + 1, math.MaxInt32, math.MinInt32, math.MaxInt, math.MinInt} {
		wantNoModule(t, "an array of "+strconv.Itoa(size), sized(size))
	}
	for _, size := range []string{"0", "-1", "-2147483648", "x", "IN", "]", "X"} {
		wantRefused(t, "MODULE A ; VAR x [ "+size+" ] ; END .", impl.ParseForm, 19)
	}
	for _, size := range []string{"21", "2147483647"} {
		wantRefused(t, "MODULE A ; VAR x [ "+size+" ] ; END .", impl.ParseLong, 0)
	}
	for _, size := range []string{"01", "-0", "00", "2147483648", "1a"} {
		wantRefused(t, "MODULE A ; VAR x [ "+size+" ] ; END .", impl.ParseByte, 19)
	}
}

// allExprs are one expression of each kind.
func allExprs() []impl.Expr {
	return []impl.Expr{
		exInt(5), exVar("x"), exIndex("x", exIn()), exBin(exIn(), impl.ArAdd, exIn()), exIn(), exLen("x"),
		exCall("", "x"), exCall("B", "x", exIn(), exArr("x")), exArr("x"),
	}
}

func allStmts() []impl.Stmt {
	return []impl.Stmt{
		stSet("x", exIn()), stPut("x", exIn(), exIn()), stIf(exIn(), stmts(stTrap(0)), stmts(stTrap(1))), stIf(exIn(), nil, nil),
		stWhile(exIn()), stWhile(exIn(), stTrap(2)), stReturn(exIn()), stOut(exIn()), stTrap(3), stCall(exCall("", "x")),
	}
}

func TestWhereExpressionsStand(t *testing.T) {
	for i, e := range allExprs() {
		places := []impl.Module{
			bodied(stSet("x", e)), bodied(stPut("x", e, exIn())), bodied(stPut("x", exIn(), e)), bodied(stIf(e, nil, nil)),
			bodied(stWhile(e)), bodied(stReturn(e)), bodied(stOut(e)), bodied(stCall(e)), bodied(stOut(exIndex("x", e))),
			bodied(stOut(exBin(e, impl.ArMul, exIn()))), bodied(stOut(exBin(exIn(), impl.ArMul, e))),
			bodied(stOut(exCall("", "f", e))), bodied(stOut(exCall("", "f", exIn(), exIn(), exIn(), e))),
			bodied(stOut(exCall("", "f", exCall("B", "f", e)))), bodied(stCall(exCall("B", "f", e, exIn()))),
			bodied(stOut(exCall("", "f", exIndex("x", e)))), bodied(stOut(exCall("", "f", exBin(exIn(), impl.ArSame, e)))),
		}
		for j, m := range places {
			wantByRule(t, fmt.Sprintf("expression %d at place %d", i, j), m)
		}
	}
	m := bodied(stOut(exArr("x")))
	if moduleOkByRule(m) {
		t.Error("the rule lets an ExArr stand anywhere")
	}
}

func TestFieldsOfExpressions(t *testing.T) {
	for _, e := range allExprs() {
		try := func(change func(*impl.Expr)) {
			t.Helper()
			changed := e
			change(&changed)
			wantByRule(t, fmt.Sprint("an argument ", changed), bodied(stOut(exCall("", "f", changed))))
			if changed.Kind == impl.ExCall {
				wantByRule(t, fmt.Sprint("called ", changed), bodied(stCall(changed)))
			}
		}
		for _, kind := range []int{-2, -1, 0, 1, 2, 3, 4, 5, 6, 7, 8, 9, math.MinInt, math.MaxInt} {
			try(func(e *impl.Expr) { e.Kind = kind })
		}
		for _, n := range slices.Concat(no32, ends32, []int{-2, -1, 0, 1, 2, 3, 4, 5, 6, 7}) {
			try(func(e *impl.Expr) { e.N = n })
		}
		for _, name := range []string{"", "x", "X", "xY", "IN", "abcdefgh", "abcdefghi", "1", "x "} {
			try(func(e *impl.Expr) { e.Name = []byte(name) })
			try(func(e *impl.Expr) { e.Mod = []byte(name) })
		}
		for count := range impl.MaxParams + 3 {
			try(func(e *impl.Expr) { e.Kids = repeated(count, exIn()) })
			try(func(e *impl.Expr) { e.Kids = repeated(count, exArr("x")) })
		}
	}
}

func TestFieldsOfStatements(t *testing.T) {
	for _, s := range allStmts() {
		try := func(change func(*impl.Stmt)) {
			t.Helper()
			changed := s
			change(&changed)
			wantByRule(t, fmt.Sprint("alone ", changed), bodied(changed))
			wantByRule(t, fmt.Sprint("in blocks ", changed), bodied(stIf(exIn(), stmts(stWhile(exIn(), changed)), stmts(stTrap(0), changed))))
		}
		for _, kind := range []int{-2, -1, 0, 1, 2, 3, 4, 5, 6, 7, 8, 9, math.MinInt, math.MaxInt} {
			try(func(s *impl.Stmt) { s.Kind = kind })
		}
		for _, n := range slices.Concat(no32, ends32, []int{-2, -1, 0, 1, 2, 98, 99, 100, 101}) {
			try(func(s *impl.Stmt) { s.N = n })
		}
		for _, name := range []string{"", "x", "X", "xY", "IN", "abcdefgh", "abcdefghi", "1", "x "} {
			try(func(s *impl.Stmt) { s.Name = []byte(name) })
		}
		for count := range 5 {
			try(func(s *impl.Stmt) { s.Kids = repeated(count, exIn()) })
			try(func(s *impl.Stmt) { s.Kids = repeated(count, exCall("", "f")) })
			try(func(s *impl.Stmt) { s.Kids = repeated(count, exArr("x")) })
			try(func(s *impl.Stmt) { s.Body = repeated(count, stTrap(1)) })
			try(func(s *impl.Stmt) { s.Else = repeated(count, stTrap(1)) })
		}
		try(func(s *impl.Stmt) { s.Body, s.Else = stmts(stTrap(0)), stmts(stTrap(0)) })
	}
}

// nested lays so many more parts of each sort one into the other, within a
// procedure whose deepest part then lies at that depth.
func nested(deep int) map[string]impl.Module {
	exprs := func(around func(impl.Expr) impl.Expr) impl.Module {
		e := exIn()
		for range deep - 2 {
			e = around(e)
		}
		return bodied(stOut(e))
	}
	blocks := func(around func(impl.Stmt) impl.Stmt) impl.Module {
		s := stTrap(0)
		for range deep - 1 {
			s = around(s)
		}
		return bodied(s)
	}
	return map[string]impl.Module{
		"index":      exprs(func(e impl.Expr) impl.Expr { return exIndex("x", e) }),
		"left":       exprs(func(e impl.Expr) impl.Expr { return exBin(e, impl.ArAdd, exIn()) }),
		"right":      exprs(func(e impl.Expr) impl.Expr { return exBin(exIn(), impl.ArAdd, e) }),
		"arguments":  exprs(func(e impl.Expr) impl.Expr { return exCall("", "f", exIn(), e) }),
		"while":      blocks(func(s impl.Stmt) impl.Stmt { return stWhile(exIn(), s) }),
		"then":       blocks(func(s impl.Stmt) impl.Stmt { return stIf(exIn(), stmts(s), nil) }),
		"else":       blocks(func(s impl.Stmt) impl.Stmt { return stIf(exIn(), nil, stmts(s)) }),
		"last block": blocks(func(s impl.Stmt) impl.Stmt { return stWhile(exIn(), stTrap(1), s) }),
	}
}

func TestDepth(t *testing.T) {
	for deep := 2; deep <= impl.MaxDeep+3; deep++ {
		for what, m := range nested(deep) {
			if deep <= impl.MaxDeep {
				wantModule(t, what, m, textByRule(m))
				continue
			}
			wantNoModule(t, what+", too deep", m)
			wantRefused(t, textByRule(m), impl.ParseLong, 0)
		}
	}
	whiles := stWhile(exIn())
	for range impl.MaxDeep - 1 {
		whiles = stWhile(exIn(), whiles)
	}
	wantNoModule(t, "a statement at MaxDeep with a Kid", bodied(whiles))
	wantRefused(t, "MODULE A;PROC p();BEGIN OUT "+strings.Repeat("(", 1400)+"1"+strings.Repeat("+1)", 400)+";END;END.", impl.ParseForm, 28+1400+1+1200)
	wantRefused(t, "MODULE A;PROC p();BEGIN OUT "+strings.Repeat("(", 700)+"1"+strings.Repeat("+1)", 700)+";END;END.", impl.ParseLong, 0)
	wantRefused(t, "MODULE A;PROC p();BEGIN "+strings.Repeat("WHILE 1 DO ", 200)+strings.Repeat("END;", 190)+"END;END.", impl.ParseForm, 24+11*200+4*191+3)
}

func TestNodes(t *testing.T) {
	procs := func(bodies ...[]impl.Stmt) impl.Module {
		m := impl.Module{Name: []byte("A")}
		for _, body := range bodies {
			m.Procs = append(m.Procs, impl.Proc{Name: []byte("p"), Body: body})
		}
		return m
	}
	outs := func(nodes int) []impl.Stmt { // each has two nodes, the last one perhaps one
		l := repeated(nodes/2, stOut(exIn()))
		return append(l, repeated(nodes%2, stTrap(0))...)
	}
	traps := func(count int) []impl.Stmt { return repeated(count, stTrap(1)) }
	most := impl.MaxNodes
	well := map[string]impl.Module{
		"statements": procs(traps(most)), "both": procs(outs(most)), "more procedures": procs(traps(most-200), traps(150), outs(50)),
		"blocks":     procs(stmts(stIf(exIn(), traps(100), traps(most-102)))),
		"while":      procs(stmts(stWhile(exIn(), outs(most-3)...)), traps(1)),
		"one kept":   procs(outs(most - 1)),
		"in a call":  procs(outs(most-5), stmts(stCall(exCall("", "f", exIn(), exIn(), exIn())))),
		"in a bin":   procs(outs(most-4), stmts(stOut(exBin(exIn(), 0, exIn())))),
		"in a put":   procs(outs(most-3), stmts(stPut("x", exIn(), exIn()))),
		"in an inde": procs(outs(most-3), stmts(stOut(exIndex("x", exIn())))),
	}
	for what, m := range well {
		wantModule(t, what, m, textByRule(m))
		if what == "one kept" {
			continue
		}
		m.Procs = append(slices.Clone(m.Procs), impl.Proc{Name: []byte("q"), Body: traps(1)})
		wantNoModule(t, what+" and one more", m)
		wantRefused(t, textByRule(m), impl.ParseLong, 0)
	}
}

// moduleOfBytes has a text of just so many bytes.
func moduleOfBytes(count int) impl.Module {
	m := bodied()
	body := &m.Procs[0].Body
	left := count - len(textByRule(m))
	for left >= 31+8 { // the longest call has 31 bytes, the shortest output 8
		*body = append(*body, stCall(exCall("Abcdefgh", "abcdefgh")))
		left -= 31
	}
	for left > 0 {
		take := min(left, 15)
		if left > take && left-take < 8 {
			take = 8
		}
		*body = append(*body, stOut(exVar(strings.Repeat("x", take-7))))
		left -= take
	}
	return m
}

func TestBytesOfTexts(t *testing.T) {
	for _, count := range []int{50, 100, 1000, impl.MaxProgram - 1, impl.MaxProgram} {
		m := moduleOfBytes(count)
		if len(textByRule(m)) != count {
			t.Fatalf("%d bytes, not %d", len(textByRule(m)), count)
		}
		wantModule(t, "a text of "+strconv.Itoa(count), m, textByRule(m))
	}
	for _, count := range []int{impl.MaxProgram + 1, impl.MaxProgram + 2, impl.MaxProgram + 100} {
		m := moduleOfBytes(count)
		wantNoModule(t, "a text of "+strconv.Itoa(count), m)
		wantRefused(t, textByRule(m), impl.ParseLong, 0)
		tight := tightText(tokensByRule(m))
		if len(tight) >= impl.MaxProgram {
			t.Fatal("the tight text is as long")
		}
		wantRefused(t, tight, impl.ParseLong, 0)
	}
	text := "MODULE A ;\nEND .\n"
	room := impl.MaxProgram - len(text)
	for ahead := 0; ahead <= room; ahead += room / 4 {
		padded := strings.Repeat(" ", ahead) + text + strings.Repeat("\n", room-ahead)
		wantParsed(t, "MaxProgram bytes", padded, impl.Module{Name: []byte("A")})
		wantRefused(t, padded+"\n", impl.ParseLong, 0)
		wantRefused(t, " "+padded, impl.ParseLong, 0)
	}
	wantRefused(t, strings.Repeat("?", impl.MaxProgram), impl.ParseByte, 0)
	wantRefused(t, strings.Repeat("?", impl.MaxProgram+1), impl.ParseLong, 0)
	wantRefused(t, strings.Repeat(" ", impl.MaxProgram), impl.ParseForm, impl.MaxProgram)
	wantRefused(t, strings.Repeat(";", impl.MaxProgram+1), impl.ParseLong, 0)
}

func TestIntsInModules(t *testing.T) {
	for _, n := range ends32 {
		wantModule(t, "an int", bodied(stOut(exInt(n))), inBody("OUT "+strconv.Itoa(n)+" ;\n"))
	}
	for _, n := range no32 {
		wantNoModule(t, "no int", bodied(stOut(exInt(n))))
	}
	begin := "MODULE A ; PROC p ( ) ; BEGIN OUT "
	for _, n := range []string{
		"2147483648", "-2147483649", "4294967296", "9223372036854775807", "9223372036854775808", "-9223372036854775809",
		"99999999999999999999999999", "00", "01", "-0", "-00", "-01", "007", "1a", "1A", "-1a", "0x1", "1e1", "9Z",
	} {
		wantRefused(t, begin+n+" ; END ; END .", impl.ParseByte, len(begin))
		wantRefused(t, begin+n, impl.ParseByte, len(begin))
	}
	wantRefused(t, begin+"+1 ; END ; END .", impl.ParseForm, len(begin))
	wantRefused(t, begin+"- 1 ; END ; END .", impl.ParseForm, len(begin))
	wantRefused(t, begin+"--1 ; END ; END .", impl.ParseForm, len(begin))
	wantRefused(t, begin+"-", impl.ParseForm, len(begin))
	wantRefused(t, begin+"-a ; END ; END .", impl.ParseForm, len(begin))
	wantRefused(t, begin+"-A1 ; END ; END .", impl.ParseForm, len(begin))
}

func TestMinus(t *testing.T) {
	same := func(text string, e impl.Expr) {
		t.Helper()
		wantParsed(t, "minus", inBody("OUT "+text+" ;"), bodied(stOut(e)))
	}
	same("(1- 2)", exBin(exInt(1), impl.ArSub, exInt(2)))
	same("(1--2)", exBin(exInt(1), impl.ArSub, exInt(-2)))
	same("(-1--2)", exBin(exInt(-1), impl.ArSub, exInt(-2)))
	same("(a-b)", exBin(exVar("a"), impl.ArSub, exVar("b")))
	same("(a-\n2)", exBin(exVar("a"), impl.ArSub, exInt(2)))
	same("(a--2)", exBin(exVar("a"), impl.ArSub, exInt(-2)))
	same("(a-B.f())", exBin(exVar("a"), impl.ArSub, exCall("B", "f")))
	same("(a-IN)", exBin(exVar("a"), impl.ArSub, exIn()))
	same("(a*-2)", exBin(exVar("a"), impl.ArMul, exInt(-2)))
	begin := "MODULE A ; PROC p ( ) ; BEGIN OUT "
	wantRefused(t, begin+"(1-2) ; END ; END .", impl.ParseForm, len(begin)+2)
	wantRefused(t, begin+"(a-2) ; END ; END .", impl.ParseForm, len(begin)+2)
	wantRefused(t, begin+"(a -2) ; END ; END .", impl.ParseForm, len(begin)+3)
	wantRefused(t, begin+"(a-2b) ; END ; END .", impl.ParseByte, len(begin)+2)
}

func TestTraps(t *testing.T) {
	for n := -1; n <= 101; n++ {
		text := "MODULE A ; PROC p ( ) ; BEGIN TRAP " + strconv.Itoa(n) + " ; END ; END ."
		if n >= 0 && n <= 99 {
			wantModule(t, "a trap", bodied(stTrap(n)), inBody("TRAP "+strconv.Itoa(n)+" ;\n"))
			wantParsed(t, "a trap", text, bodied(stTrap(n)))
			continue
		}
		wantNoModule(t, "a trap", bodied(stTrap(n)))
		wantRefused(t, text, impl.ParseForm, 35)
	}
	for _, n := range []string{"x", "X", "IN", ";", "2147483647", "-2147483648", "( 1 + 1 )"} {
		wantRefused(t, "MODULE A ; PROC p ( ) ; BEGIN TRAP "+n+" ; END ; END .", impl.ParseForm, 35)
	}
	for _, n := range []string{"-0", "00", "2147483648", "09"} {
		wantRefused(t, "MODULE A ; PROC p ( ) ; BEGIN TRAP "+n+" ; END ; END .", impl.ParseByte, 35)
	}
}

func TestBehindCall(t *testing.T) {
	begin := "MODULE A ; PROC p ( ) ; BEGIN CALL "
	for _, x := range []string{
		"x", "5", "-5", "IN", "LEN x", "( f ( ) + f ( ) )", "x [ 1 ]", "x [ f ( ) ]", "@ x", "x )", "x . f ( )",
		"x [", "x [ ]", "( x )", "( f", "LEN", "x :=", "OUT", "CALL f ( )", "* f ( )",
	} {
		wantRefused(t, begin+x+" ; END ; END .", impl.ParseForm, len(begin))
	}
	for _, x := range []string{"x", "5", "IN", "LEN x", "x [ 1 ]", "( 1"} {
		wantRefused(t, begin+x, impl.ParseForm, len(begin))
	}
	wantRefused(t, begin, impl.ParseForm, len(begin))
	wantRefused(t, strings.TrimRight(begin, " "), impl.ParseForm, len(begin)-1)
	for x, by := range map[string]int{ // what begins as a call and goes wrong later
		";": 0, "f ( ;": 4, "f ( 1 ;": 6, "f ( ) END": 6, "f ( 1 , ) ;": 8, "f ( 1 2 ) ;": 6, "B ;": 2, "B . ;": 4,
		"B . f ;": 6, "B . f [ 1 ] ;": 6, "B . B ( ) ;": 4, "f ( @ 1 ) ;": 6, "f ( ) ) ;": 6,
	} {
		wantRefused(t, begin+x+" END ; END .", impl.ParseForm, len(begin)+by)
	}
	for x, by := range map[string]int{"f (": 3, "f ( ": 4, "f ( 1": 5, "f ( )": 5, "B": 1, "B .": 3, "B . f": 5, "B . f (": 7} {
		wantRefused(t, begin+x, impl.ParseForm, len(begin)+by)
	}
}

const allWords = "MODULE IMPORT VAR PROC BEGIN END IF THEN ELSE WHILE DO RETURN OUT TRAP CALL IN LEN"

const allSigns = ":= ; . , ( ) [ ] * @ + - / < ="

func TestWordsAreNoNames(t *testing.T) {
	for _, word := range strings.Fields(allWords) {
		for _, around := range []string{
			"MODULE ? ; END .", "MODULE A ; IMPORT ? ; END .", "MODULE A ; VAR ? ; END .", "MODULE A ; PROC ? ( ) ; BEGIN END ; END .",
			"MODULE A ; PROC p ( @ ? ) ; BEGIN END ; END .", "MODULE A ; PROC p ( ) ; VAR ? ; BEGIN END ; END .",
			inBody("OUT LEN ? ;"), inBody("OUT f ( @ ? ) ;"), inBody("OUT B . ? ( ) ;"),
		} {
			ahead, behind, _ := strings.Cut(around, "?")
			wantRefused(t, ahead+word+behind, impl.ParseForm, len(ahead))
		}
	}
	for _, word := range []string{"NAME", "SIZE", "MODUL", "MODULES", "ModulE", "module1x2", "IFX", "AB", "aB", "EnD", "BEGIN1", "END2", "INT", "ELSEIF"} {
		wantRefused(t, "MODULE "+word+" ; END .", impl.ParseByte, 7)
	}
	wantParsed(t, "a great name like a word", "MODULE Module ; VAR module ; END .", impl.Module{Name: []byte("Module"), Vars: []impl.Var{{Name: []byte("module")}}})
}

func TestBytesThatAreNoTokens(t *testing.T) {
	for x := range 256 {
		text := "MODULE A " + string([]byte{byte(x)}) + "; END ."
		switch {
		case x == ' ' || x == '\n':
			wantParsed(t, "a blank", text, impl.Module{Name: []byte("A")})
		case x == ';':
			wantRefused(t, text, impl.ParseForm, 10)
		case x != ':' && strings.IndexByte(".,()[]*@+-/<=0123456789abcdefghijklmnopqrstuvwxyzABCDEFGHIJKLMNOPQRSTUVWXYZ", byte(x)) >= 0:
			wantRefused(t, text, impl.ParseForm, 9)
		default:
			wantRefused(t, text, impl.ParseByte, 9)
		}
	}
	wantRefused(t, "MODULE A ; : = END .", impl.ParseByte, 11)
	wantRefused(t, "MODULE A ; :", impl.ParseByte, 11)
	wantRefused(t, "MODULE A ; ::= END .", impl.ParseByte, 11)
	wantRefused(t, "MODULE A ; :== END .", impl.ParseForm, 11)
	wantRefused(t, "MODULE abcdefghi ; END .", impl.ParseByte, 7)
	wantRefused(t, "MODULE Abcdefghi ; END .", impl.ParseByte, 7)
	wantRefused(t, "MODULE A\t; END .", impl.ParseByte, 8)
	wantRefused(t, "MODULE A;\r\nEND .", impl.ParseByte, 9)
}

func TestWhichFaultIsTold(t *testing.T) {
	wantRefused(t, "MODULE a ; END . ?", impl.ParseByte, 17)
	wantRefused(t, "; 01 ? END", impl.ParseByte, 2)
	wantRefused(t, "MODULE A ; END . ?", impl.ParseByte, 17)
	wantRefused(t, "MODULE A ; END . 00", impl.ParseByte, 17)
	wantRefused(t, "MODULE A ; VAR x [ 21 ] ; END", impl.ParseForm, 29)
	wantRefused(t, "MODULE A ; VAR x [ 21 ] ; VAR y [ 0 ] ; END .", impl.ParseForm, 34)
	wantRefused(t, "MODULE A ; VAR x [ 0 ] ; VAR y [ -1 ] ; END .", impl.ParseForm, 19)
	wantRefused(t, inBody("TRAP 100 ; CALL x ; @"), impl.ParseForm, 35)
	wantRefused(t, inBody("CALL x ; TRAP 100 ;"), impl.ParseForm, 35)
	wantRefused(t, inBody("TRAP 100 ; x # y"), impl.ParseByte, 43)
	wantRefused(t, strings.Repeat("?", impl.MaxProgram+1), impl.ParseLong, 0)
	wantRefused(t, inBody(strings.Repeat("TRAP 1 ;", 251)), impl.ParseLong, 0)
	wantRefused(t, inBody(strings.Repeat("TRAP 1 ;", 251)+";"), impl.ParseForm, 30+8*251)
}

func TestWhatStandsWhere(t *testing.T) {
	for _, x := range []struct {
		text string
		at   int
	}{
		{"", 0}, {" ", 1}, {"\n \n", 3}, {"MODULE", 6}, {"MODULE ", 7}, {"A", 0}, {"END .", 0}, {"  MODULE  ", 10},
		{"MODULE A END .", 9}, {"MODULE A . END .", 9}, {"MODULE 1 ; END .", 7}, {"MODULE A ; END ;", 15}, {"MODULE A ; .", 11},
		{"MODULE A ; END . END", 17}, {"MODULE A ; END . .", 17}, {"MODULE A ; END .;", 16}, {"MODULE A ; END . MODULE B ; END .", 17},
		{"MODULE A ; END .\n\nx", 18}, {"MODULE A ; END . 1", 17},
		{"MODULE A ; IMPORT b ; END .", 18}, {"MODULE A ; IMPORT B , C ; END .", 20}, {"MODULE A ; VAR x ; IMPORT B ; END .", 19},
		{"MODULE A ; VAR X ; END .", 15}, {"MODULE A ; VAR x , y ; END .", 17}, {"MODULE A ; VAR x [ ] ; END .", 19}, {"MODULE A ; VAR x [ 2 ; END .", 21},
		{"MODULE A ; VAR x [ 2 , 3 ] ; END .", 21}, {"MODULE A ; PROC p ; BEGIN END ; END .", 18},
		{"MODULE A ; PROC P ( ) ; BEGIN END ; END .", 16}, {"MODULE A ; PROC p * * ( ) ; BEGIN END ; END .", 20},
		{"MODULE A ; PROC * p ( ) ; BEGIN END ; END .", 16}, {"MODULE A ; PROC p ( ) * ; BEGIN END ; END .", 22},
		{"MODULE A ; PROC p ( , ) ; BEGIN END ; END .", 20}, {"MODULE A ; PROC p ( x y ) ; BEGIN END ; END .", 22},
		{"MODULE A ; PROC p ( x , , y ) ; BEGIN END ; END .", 24}, {"MODULE A ; PROC p ( @ @ x ) ; BEGIN END ; END .", 22},
		{"MODULE A ; PROC p ( x @ ) ; BEGIN END ; END .", 22}, {"MODULE A ; PROC p ( @ ) ; BEGIN END ; END .", 22},
		{"MODULE A ; PROC p ( ) ; VAR x [ 2 ] ; BEGIN END ; END .", 30}, {"MODULE A ; PROC p ( ) BEGIN END ; END .", 22},
		{"MODULE A ; PROC p ( ) ; END ; END .", 24}, {"MODULE A ; PROC p ( ) ; BEGIN END END .", 34},
		{"MODULE A ; PROC p ( ) ; BEGIN END . END .", 34}, {"MODULE A ; PROC p ( ) ; BEGIN END ; VAR x ; END .", 36},
		{"MODULE A ; PROC p ( ) ; BEGIN VAR x ; END ; END .", 30}, {"MODULE A ; PROC p ( ) ; BEGIN ELSE END ; END .", 30},
		{"MODULE A ; PROC p ( ) ; BEGIN PROC q ( ) ; BEGIN END ; END ; END .", 30}, {"MODULE A ; BEGIN END .", 11},
	} {
		wantRefused(t, x.text, impl.ParseForm, x.at)
	}
}

func TestWhatStandsWhereInBodies(t *testing.T) {
	begin := "MODULE A ; PROC p ( ) ; BEGIN "
	for _, x := range []struct {
		text string
		at   int
	}{
		{";", 0}, {"X := 1 ;", 0}, {"1 := x ;", 0}, {"IN := 1 ;", 0}, {"x ;", 2}, {"x = 1 ;", 2}, {"x ( ) ;", 2}, {"x . y ;", 2},
		{"x := ;", 5}, {"x := 1 2 ;", 7}, {"x := y := 1 ;", 7}, {"x [ ] := 1 ;", 4}, {"x [ 1 := 1 ;", 6}, {"x [ 1 ] = 1 ;", 8}, {"x [ 1 ] ;", 8},
		{"x [ 1 ] [ 2 ] := 1 ;", 8}, {"x := @ y ;", 5}, {"x := ( @ y + 1 ) ;", 7}, {"x := y [ @ z ] ;", 9}, {"x := f ( ( @ y + 1 ) ) ;", 11},
		{"x := f ( y [ @ z ] ) ;", 13}, {"RETURN @ y ;", 7}, {"OUT @ y ;", 4}, {"IF @ y THEN ELSE END ;", 3}, {"WHILE @ y DO END ;", 6},
		{"x := f ( @ @ y ) ;", 11}, {"x := f ( @ Y ) ;", 11}, {"x := f ( @ y [ 1 ] ) ;", 13}, {"x := f ( @ ) ;", 11},
		{"x := 1 + 2 ;", 7}, {"x := ( 1 ) ;", 9}, {"x := ( 1 + ) ;", 11}, {"x := ( 1 + 2 + 3 ) ;", 13}, {"x := ( 1 := 2 ) ;", 9}, {"x := ( ) ;", 7},
		{"x := ( 1 , 2 ) ;", 9}, {"x := ( 1 < = 2 ) ;", 11}, {"x := Y ;", 7}, {"x := Y . ;", 9}, {"x := Y . Z ( ) ;", 9}, {"x := Y . z ;", 11},
		{"x := Y . z [ 1 ] ;", 11}, {"x := Y ( ) ;", 7}, {"x := y . z ( ) ;", 7}, {"x := LEN 1 ;", 9}, {"x := LEN Y ;", 9}, {"x := LEN ( ) ;", 9},
		{"x := LEN a [ 1 ] ;", 11}, {"x := IN IN ;", 8}, {"x := IN ( ) ;", 8}, {"x := f ( , ) ;", 9}, {"x := f ( 1 ; 2 ) ;", 11}, {"x := f ( 1 , ) ;", 13},
		{"IF 1 THEN END ;", 10}, {"IF 1 ELSE END ;", 5}, {"IF 1 THEN ELSE ELSE END ;", 15}, {"IF 1 DO ELSE END ;", 5}, {"IF THEN ELSE END ;", 3},
		{"IF 1 THEN ELSE END", 19}, {"IF 1 THEN ELSE END . END ; END .", 19}, {"WHILE 1 DO ELSE END ;", 11}, {"WHILE 1 THEN END ;", 8}, {"WHILE DO END ;", 6},
		{"RETURN ;", 7}, {"RETURN 1", 9}, {"OUT ;", 4}, {"OUT 1 , 2 ;", 6}, {"TRAP ;", 5}, {"TRAP 1 2 ;", 7}, {"END ; ; END .", 6}, {". ;", 0},
		{"THEN ;", 0}, {"DO ;", 0}, {"BEGIN END ;", 0}, {"LEN x ;", 0}, {"f ( ) ;", 2}, {"B . f ( ) ;", 0}, {"@ x := 1 ;", 0}, {"-1 ;", 0}, {"MODULE B ;", 0},
	} {
		wantRefused(t, begin+x.text+" END ; END .", impl.ParseForm, len(begin)+x.at)
	}
}

// grammar says the tables over again: each line is one way to write what
// stands ahead of the colon. What has no line of its own is a token.
const grammar = `
module : MODULE GREAT ; uses vars procs END .
uses :
uses : IMPORT GREAT ; uses
vars :
vars : VAR SMALL ; vars
vars : VAR SMALL [ SIZE ] ; vars
procs :
procs : PROC SMALL open ( params ) ; locals BEGIN stmts END ; procs
open :
open : *
params :
params : param moreparams
moreparams :
moreparams : , param moreparams
param : SMALL
param : @ SMALL
locals :
locals : VAR SMALL ; locals
stmts :
stmts : stmt stmts
stmt : SMALL := expr ;
stmt : SMALL [ expr ] := expr ;
stmt : IF expr THEN stmts ELSE stmts END ;
stmt : WHILE expr DO stmts END ;
stmt : RETURN expr ;
stmt : OUT expr ;
stmt : TRAP CODE ;
stmt : CALL call ;
call : SMALL ( args )
call : GREAT . SMALL ( args )
args :
args : arg moreargs
moreargs :
moreargs : , arg moreargs
arg : expr
arg : @ SMALL
expr : INT
expr : SMALL
expr : SMALL [ expr ]
expr : ( expr op expr )
expr : IN
expr : LEN SMALL
expr : call
op : +
op : -
op : *
op : /
op : <
op : =
`

func rulesOf(grammar string) map[string][][]string {
	rules := map[string][][]string{}
	for line := range strings.Lines(strings.TrimLeft(grammar, "\n")) {
		l := strings.Fields(line)
		rules[l[0]] = append(rules[l[0]], l[2:])
	}
	return rules
}

var rules = rulesOf(grammar)

func tokenIs(token, wanted string) bool {
	n, err := strconv.Atoi(token)
	switch wanted {
	case "SMALL":
		return isName([]byte(token), 'a')
	case "GREAT":
		return isName([]byte(token), 'A')
	case "INT":
		return err == nil
	case "SIZE":
		return err == nil && n >= 1
	case "CODE":
		return err == nil && n >= 0 && n <= 99
	}
	return token == wanted
}

// opened is what may be wanted next: the stacks of symbols, each with a token
// in front, that a stack of symbols may become.
func opened(stack []string) [][]string {
	if len(stack) == 0 || rules[stack[0]] == nil {
		return [][]string{stack}
	}
	var l [][]string
	for _, way := range rules[stack[0]] {
		l = append(l, opened(slices.Concat(way, stack[1:]))...)
	}
	return l
}

// formByRule is the number of the first token that can't stand where it does
// (how many there are, if one lacks), or -1.
func formByRule(tokens []string) int {
	stacks := opened([]string{"module"})
	for i, token := range append(slices.Clone(tokens), "") {
		var next [][]string
		for _, stack := range stacks {
			if len(stack) == 0 && i == len(tokens) {
				return -1
			}
			if len(stack) > 0 && i < len(tokens) && tokenIs(token, stack[0]) {
				next = append(next, opened(stack[1:])...)
			}
		}
		if len(next) == 0 {
			if i >= 2 && tokens[i-2] == "CALL" && tokenIs(tokens[i-1], "SMALL") {
				return i - 1
			}
			return i
		}
		stacks = next
	}
	return -1
}

var pieceForm = regexp.MustCompile(`^(?:-?[0-9][a-zA-Z0-9]*|[a-zA-Z][a-zA-Z0-9]*|:=|(?s:.))`)

var intForm = regexp.MustCompile(`^(?:0|-?[1-9][0-9]{0,9})$`)

// tokensOfText are those of the text with their places, and -1 or the place
// of what is none.
func tokensOfText(text string) ([]string, []int, int) {
	var tokens []string
	var places []int
	for at := 0; at < len(text); {
		if text[at] == ' ' || text[at] == '\n' {
			at++
			continue
		}
		piece := pieceForm.FindString(text[at:])
		n, _ := strconv.Atoi(piece)
		isInt := intForm.MatchString(piece) && n >= math.MinInt32 && n <= math.MaxInt32
		isFixed := slices.Contains(strings.Fields(allWords+" "+allSigns), piece)
		if !isInt && !isFixed && !isName([]byte(piece), 'a') && !isName([]byte(piece), 'A') {
			return nil, nil, at
		}
		tokens, places = append(tokens, piece), append(places, at)
		at += len(piece)
	}
	return tokens, append(places, len(text)), -1
}

// wantParseByRule wants a text that breaks no limit but that of sizes.
func wantParseByRule(t *testing.T, text string) {
	t.Helper()
	if len(text) > impl.MaxProgram {
		wantRefused(t, text, impl.ParseLong, 0)
		return
	}
	tokens, places, wrong := tokensOfText(text)
	if wrong >= 0 {
		wantRefused(t, text, impl.ParseByte, wrong)
		return
	}
	if i := formByRule(tokens); i >= 0 {
		wantRefused(t, text, impl.ParseForm, places[i])
		return
	}
	m, code, at := impl.Parse([]byte(text))
	if code == impl.ParseLong && at == 0 && sameModule(m, impl.Module{}) {
		return
	}
	if code != impl.ParseWell || at != 0 || !slices.Equal(tokensByRule(m), tokens) {
		t.Errorf("Parse(%q) = %v, %d, %d", text, m, code, at)
	}
}

// tightText parts tokens only where they would grow together.
func tightText(tokens []string) string {
	var b strings.Builder
	for i, token := range tokens {
		if i > 0 && tokenByRule(tokens[i-1]+token) {
			b.WriteByte(' ')
		}
		b.WriteString(token)
	}
	return b.String()
}

// tokenByRule tells whether two tokens side by side are read as one.
func tokenByRule(both string) bool { return pieceForm.FindString(both) == both }

// looseText parts tokens by blanks and bytes 10, ahead and behind as well.
func looseText(tokens []string, r *rand.Rand) string {
	var b strings.Builder
	for i := range len(tokens) + 1 {
		if i > 0 {
			b.WriteString(tokens[i-1])
		}
		b.WriteString([]string{" ", "\n", "  ", "\n\n", " \n", "\n "}[r.Intn(6)])
	}
	return b.String()
}

func TestBlanks(t *testing.T) {
	r := rand.New(rand.NewSource(61))
	ms := []impl.Module{mixedModule()}
	for _, x := range moduleForms {
		ms = append(ms, x.m)
	}
	for _, m := range ms {
		text := textByRule(m)
		wantParsed(t, "tight", tightText(tokensByRule(m)), m)
		wantParsed(t, "in one line", strings.ReplaceAll(text, "\n", " "), m)
		wantParsed(t, "a line each", strings.ReplaceAll(text, " ", "\n"), m)
		wantParsed(t, "no end of line", strings.TrimRight(text, "\n"), m)
		wantParsed(t, "blanks around", " \n  "+text+" \n\n ", m)
		for range 10 {
			wantParsed(t, "loose", looseText(tokensByRule(m), r), m)
		}
	}
	for _, text := range []string{"MODULE a ; END .", "MODULE A ; END", "MODULE A ; ? END .", "MODULE A ; VAR x [ 21 ] ; END .", ""} {
		_, code, at := impl.Parse([]byte(text))
		for _, ahead := range []string{" ", "\n", " \n "} {
			by := len(ahead)
			if code == impl.ParseLong {
				by = 0
			}
			wantRefused(t, ahead+text, code, at+by)
			if code == impl.ParseForm && at == len(text) {
				by += len(ahead)
			}
			wantRefused(t, ahead+text+ahead, code, at+by)
		}
	}
}

func TestTextsThatEndTooSoon(t *testing.T) {
	for _, m := range []impl.Module{mixedModule(), moduleForms[3].m, bodied(stCall(exCall("", "f", exArr("a"), exInt(-1))))} {
		text := textByRule(m)
		for cut := range len(text) {
			wantParseByRule(t, text[:cut])
			wantParseByRule(t, text[:cut]+text)
			wantParseByRule(t, text[:cut]+" "+text[cut:])
			wantParseByRule(t, text[cut:])
			wantParseByRule(t, text[:cut]+text[cut+1:])
		}
	}
}

func TestTextsWithOtherTokens(t *testing.T) {
	others := strings.Fields(allWords + " " + allSigns + " x Y 0 1 -1 99 100 2147483647 ? 00")
	tokens := tokensByRule(mixedModule())
	for i := range tokens {
		for _, other := range others {
			put := slices.Concat(tokens[:i], []string{other}, tokens[i:])
			wantParseByRule(t, strings.Join(put, " "))
			put = slices.Concat(tokens[:i], []string{other}, tokens[i+1:])
			if i%3 == 0 {
				wantParseByRule(t, tightText(put))
			} else {
				wantParseByRule(t, strings.Join(put, "\n"))
			}
		}
		wantParseByRule(t, strings.Join(slices.Concat(tokens[:i], tokens[i+1:]), " "))
	}
}

func TestTextsThatAreMixedUp(t *testing.T) {
	r := rand.New(rand.NewSource(62))
	for range 4000 {
		tokens := tokensByRule(randomModule(r, 12))
		for range 1 + r.Intn(3) {
			i, j := r.Intn(len(tokens)), r.Intn(len(tokens))
			i, j = min(i, j), max(i, j)
			switch r.Intn(3) {
			case 0:
				tokens[i], tokens[j] = tokens[j], tokens[i]
			case 1:
				j = min(j, i+4)
				tokens = slices.Concat(tokens[:j], tokens[i:])
			case 2:
				j = min(j, i+4)
				tokens = slices.Concat(tokens[:i], tokens[j:])
			}
			if len(tokens) == 0 {
				break
			}
		}
		wantParseByRule(t, looseText(tokens, r))
		wantParseByRule(t, tightText(tokens))
	}
}

func TestTextsOfAnyBytes(t *testing.T) {
	r := rand.New(rand.NewSource(63))
	for range 4000 {
		b := []byte(textByRule(randomModule(r, 10)))
		for range 1 + r.Intn(3) {
			b[r.Intn(len(b))] = " \n;.,()[]*@+-/<=:aZ09?\x00\xff"[r.Intn(24)]
		}
		wantParseByRule(t, string(b))
	}
}

func pick(r *rand.Rand, names string) []byte {
	l := strings.Fields(names)
	return []byte(l[r.Intn(len(l))])
}

// randomModule has about so many statements and expressions; it may break a
// limit or two.
func randomModule(r *rand.Rand, nodes int) impl.Module {
	m := impl.Module{Name: pick(r, "A Main Zz9")}
	for range r.Intn(4) {
		m.Uses = append(m.Uses, pick(r, "B Cc D1"))
	}
	for range r.Intn(4) {
		m.Vars = append(m.Vars, impl.Var{Name: pick(r, "x y z a1"), Size: r.Intn(6) * r.Intn(4)})
	}
	for range r.Intn(4) {
		q := impl.Proc{Name: pick(r, "p q main"), Open: r.Intn(2) == 0}
		for range r.Intn(4) {
			q.Params = append(q.Params, impl.Param{Name: pick(r, "v w x"), Arr: r.Intn(2) == 0})
		}
		for range r.Intn(3) {
			q.Locals = append(q.Locals, pick(r, "i j k"))
		}
		q.Body = randomStmts(r, &nodes, 1)
		m.Procs = append(m.Procs, q)
	}
	return m
}

func randomStmts(r *rand.Rand, nodes *int, deep int) []impl.Stmt {
	var l []impl.Stmt
	for range r.Intn(5) {
		if *nodes <= 0 || deep > 14 {
			break
		}
		*nodes--
		kid := func() impl.Expr { return randomExpr(r, nodes, deep+1) }
		block := func() []impl.Stmt { return randomStmts(r, nodes, deep+1) }
		name := string(pick(r, "x y a b1"))
		switch r.Intn(8) {
		case 0:
			l = append(l, stSet(name, kid()))
		case 1:
			l = append(l, stPut(name, kid(), kid()))
		case 2:
			l = append(l, stIf(kid(), block(), block()))
		case 3:
			l = append(l, stWhile(kid(), block()...))
		case 4:
			l = append(l, stReturn(kid()))
		case 5:
			l = append(l, stOut(kid()))
		case 6:
			l = append(l, stTrap(r.Intn(100)))
		case 7:
			l = append(l, stCall(randomCall(r, nodes, deep+1)))
		}
	}
	return l
}

func randomCall(r *rand.Rand, nodes *int, deep int) impl.Expr {
	*nodes--
	e := exCall("", string(pick(r, "f g p q")))
	if r.Intn(2) == 0 {
		e.Mod = pick(r, "B Cc D1")
	}
	for range r.Intn(5) {
		if *nodes <= 0 {
			break
		}
		if r.Intn(3) == 0 {
			*nodes--
			e.Kids = append(e.Kids, exArr(string(pick(r, "a v w"))))
		} else {
			e.Kids = append(e.Kids, randomExpr(r, nodes, deep+1))
		}
	}
	return e
}

func randomExpr(r *rand.Rand, nodes *int, deep int) impl.Expr {
	name := string(pick(r, "x y a b1 v"))
	kinds := 7
	if *nodes <= 0 || deep > 14 {
		kinds = 4
	}
	*nodes--
	switch r.Intn(kinds) {
	case 0:
		return exInt([]int{0, 1, -1, 7, 100, math.MaxInt32, math.MinInt32}[r.Intn(7)])
	case 1:
		return exVar(name)
	case 2:
		return exIn()
	case 3:
		return exLen(name)
	case 4:
		return exIndex(name, randomExpr(r, nodes, deep+1))
	case 5:
		return exBin(randomExpr(r, nodes, deep+1), r.Intn(6), randomExpr(r, nodes, deep+1))
	}
	*nodes++
	return randomCall(r, nodes, deep)
}

func TestModulesComeBack(t *testing.T) {
	r := rand.New(rand.NewSource(64))
	well := 0
	for i := range 3000 {
		m := randomModule(r, 5+i%260)
		wantByRule(t, "a random module", m)
		if moduleOkByRule(m) {
			well++
			wantParsed(t, "tight", tightText(tokensByRule(m)), m)
		}
	}
	if well < 2000 {
		t.Errorf("only %d modules were well", well)
	}
}

// exprsOf and stmtsOf lead to all parts of a module, to change them.
func stmtsOf(l []impl.Stmt) []*impl.Stmt {
	var all []*impl.Stmt
	for i := range l {
		all = append(all, &l[i])
		all = append(all, stmtsOf(l[i].Body)...)
		all = append(all, stmtsOf(l[i].Else)...)
	}
	return all
}

func exprsOf(l []impl.Expr) []*impl.Expr {
	var all []*impl.Expr
	for i := range l {
		all = append(all, &l[i])
		all = append(all, exprsOf(l[i].Kids)...)
	}
	return all
}

func TestModulesWithOnePartWrong(t *testing.T) {
	r := rand.New(rand.NewSource(65))
	for range 6000 {
		m := randomModule(r, 20)
		var ss []*impl.Stmt
		for _, q := range m.Procs {
			ss = append(ss, stmtsOf(q.Body)...)
		}
		var es []*impl.Expr
		for _, s := range ss {
			es = append(es, exprsOf(s.Kids)...)
		}
		if len(es) == 0 {
			continue
		}
		s, e := ss[r.Intn(len(ss))], es[r.Intn(len(es))]
		switch r.Intn(9) {
		case 0:
			s.Kind = r.Intn(10) - 1
		case 1:
			e.Kind = r.Intn(10) - 1
		case 2:
			s.Kids = append(s.Kids, exInt(1))
		case 3:
			e.Kids = append(e.Kids, exArr("x"))
		case 4:
			e.N = r.Intn(9) - 1
		case 5:
			e.Name = []byte([]string{"", "X", "x"}[r.Intn(3)])
		case 6:
			e.Mod = []byte([]string{"", "X", "x"}[r.Intn(3)])
		case 7:
			s.Body = append(s.Body, stTrap(r.Intn(102)-1))
		case 8:
			s.Else = append(s.Else, stTrap(1))
		}
		wantByRule(t, "a part is changed", m)
	}
}

func TestTreesThatLeadBackToThemselves(t *testing.T) {
	e := impl.Expr{Kind: impl.ExBin, Kids: make([]impl.Expr, 2)}
	e.Kids[0], e.Kids[1] = e, e
	wantNoModule(t, "an expression within itself", bodied(stOut(e)))
	e = impl.Expr{Kind: impl.ExCall, Name: []byte("f"), Kids: make([]impl.Expr, 4)}
	for i := range e.Kids {
		e.Kids[i] = e
	}
	wantNoModule(t, "a call within itself", bodied(stCall(e)))
	s := stIf(exIn(), make([]impl.Stmt, 3), make([]impl.Stmt, 3))
	for i := range s.Body {
		s.Body[i], s.Else[i] = s, s
	}
	wantNoModule(t, "a statement within itself", bodied(s))
	wantNoModule(t, "very many statements", bodied(repeated(1000000, stTrap(1))...))
	deep := exIn()
	for range 100000 {
		deep = exIndex("x", deep)
	}
	wantNoModule(t, "very deep", bodied(stOut(deep)))
}

// watcher makes lists with room behind, and tells whether any has changed.
type watcher struct {
	checks []func() bool
}

func widened[T any](w *watcher, l []T, room ...T) []T {
	whole := slices.Concat(l, room)
	was := fmt.Sprint(whole)
	w.checks = append(w.checks, func() bool { return fmt.Sprint(whole) == was })
	return whole[:len(l)]
}

func (w *watcher) name(b []byte) []byte { return widened(w, b, 'r', 'O', 0) }

func (w *watcher) exprs(l []impl.Expr) []impl.Expr {
	out := slices.Clone(l)
	for i, e := range out {
		out[i].Mod, out[i].Name, out[i].Kids = w.name(e.Mod), w.name(e.Name), w.exprs(e.Kids)
	}
	return widened(w, out, exIn(), impl.Expr{Kind: 77})
}

func (w *watcher) stmts(l []impl.Stmt) []impl.Stmt {
	out := slices.Clone(l)
	for i, s := range out {
		out[i].Name, out[i].Kids, out[i].Body, out[i].Else = w.name(s.Name), w.exprs(s.Kids), w.stmts(s.Body), w.stmts(s.Else)
	}
	return widened(w, out, stTrap(1), impl.Stmt{Kind: 77})
}

func (w *watcher) names(l [][]byte) [][]byte {
	out := slices.Clone(l)
	for i := range out {
		out[i] = w.name(out[i])
	}
	return widened(w, out, []byte("room"), nil)
}

func (w *watcher) module(m impl.Module) impl.Module {
	vars := slices.Clone(m.Vars)
	for i := range vars {
		vars[i].Name = w.name(vars[i].Name)
	}
	procs := slices.Clone(m.Procs)
	for i, q := range procs {
		params := slices.Clone(q.Params)
		for j := range params {
			params[j].Name = w.name(params[j].Name)
		}
		procs[i] = impl.Proc{
			Name: w.name(q.Name), Open: q.Open, Params: widened(w, params, impl.Param{}),
			Locals: w.names(q.Locals), Body: w.stmts(q.Body),
		}
	}
	return impl.Module{Name: w.name(m.Name), Uses: w.names(m.Uses), Vars: widened(w, vars, impl.Var{Size: -1}), Procs: widened(w, procs, impl.Proc{})}
}

func (w *watcher) asItWas() bool {
	return !slices.ContainsFunc(w.checks, func(check func() bool) bool { return !check() })
}

func TestModulesHandedInStay(t *testing.T) {
	bad := mixedModule()
	bad.Procs[0].Body[0].Kids[0].N = 9
	for _, m := range []impl.Module{mixedModule(), bad, {}, moduleForms[3].m, moduleForms[14].m} {
		var w watcher
		wide := w.module(m)
		want, wantOk := impl.Print(m)
		if impl.ModuleOk(wide) != wantOk {
			t.Error("ModuleOk looks behind a list's length")
		}
		b, ok := impl.Print(wide)
		if ok != wantOk || !bytes.Equal(b, want) {
			t.Errorf("Print = %q, %v: it looks behind a list's length", b, ok)
		}
		again, _ := impl.Print(wide)
		spoil(b)
		if !w.asItWas() {
			t.Error("the module handed in has changed")
		}
		if !bytes.Equal(again, want) {
			t.Error("two answers share memory")
		}
	}
}

func TestTextsHandedInStay(t *testing.T) {
	for _, text := range []string{textByRule(mixedModule()), "MODULE A ; END", "MODULE A ; ?", "MODULE A ; VAR x [ 99 ] ; END .", ""} {
		list, whole := roomy([]byte(text))
		was := bytes.Clone(whole)
		m, code, at := impl.Parse(list)
		want, wantCode, wantAt := impl.Parse([]byte(text))
		if code != wantCode || at != wantAt || !sameModule(m, want) {
			t.Errorf("Parse(%q) looks behind the length", text)
		}
		overwrite(m)
		if !bytes.Equal(whole, was) {
			t.Errorf("Parse(%q) has changed the text, or shares it", text)
		}
	}
	text := []byte("MODULE A ; END . END")
	if _, code, _ := impl.Parse(text[:16]); code != impl.ParseWell {
		t.Error("Parse looks behind the length")
	}
	if _, code, at := impl.Parse(text[:14]); code != impl.ParseForm || at != 14 {
		t.Error("Parse looks behind the length")
	}
}

// byteLists are all lists of bytes that m leads to.
func byteLists(m impl.Module) [][]byte {
	l := append([][]byte{m.Name}, m.Uses...)
	for _, v := range m.Vars {
		l = append(l, v.Name)
	}
	for _, q := range m.Procs {
		l = append(append(l, q.Name), q.Locals...)
		for _, a := range q.Params {
			l = append(l, a.Name)
		}
		for _, s := range stmtsOf(q.Body) {
			l = append(l, s.Name)
			for _, e := range exprsOf(s.Kids) {
				l = append(l, e.Mod, e.Name)
			}
		}
	}
	return l
}

func overwrite(m impl.Module) {
	for _, l := range byteLists(m) {
		spoil(l)
	}
}

func fillRoom[T any](l []T) {
	clear(l[len(l):cap(l)])
}

// fillRooms writes into what lies behind each list of m.
func fillRooms(m impl.Module) {
	fillRoom(m.Uses)
	fillRoom(m.Vars)
	fillRoom(m.Procs)
	for _, q := range m.Procs {
		fillRoom(q.Params)
		fillRoom(q.Locals)
		fillRoom(q.Body)
		for _, s := range stmtsOf(q.Body) {
			fillRoom(s.Body)
			fillRoom(s.Else)
			fillRoom(s.Kids)
			for _, e := range exprsOf(s.Kids) {
				fillRoom(e.Kids)
			}
		}
	}
	for _, l := range byteLists(m) {
		fillRoom(l)
	}
}

func TestParseSharesNothing(t *testing.T) {
	want := mixedModule()
	text := []byte(textByRule(want))
	m, _, _ := impl.Parse(text)
	fillRooms(m)
	if !sameModule(m, want) {
		t.Error("what lies behind a list of the answer is another list")
	}
	for i := range byteLists(m) {
		one, _, _ := impl.Parse(text)
		other, _, _ := impl.Parse(text)
		spoil(byteLists(one)[i])
		if !sameModule(other, want) {
			t.Fatal("two answers share memory")
		}
		for j, l := range byteLists(one) {
			if j != i && !bytes.Equal(l, byteLists(want)[j]) {
				t.Fatal("two lists of one answer share memory")
			}
		}
	}
}
