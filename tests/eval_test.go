package tests

import (
	"fmt"
	"math"
	"math/rand"
	"slices"
	"strings"
	"testing"

	"loop.example/g00335/impl"
)

// world has a module for each part: a text, or a face that the script plays,
// written as a name and procedures: "P: f 0 1, g".
func world(t *testing.T, parts ...string) impl.World {
	t.Helper()
	var w impl.World
	for _, part := range parts {
		if !strings.HasPrefix(part, "MODULE") {
			w.Mods = append(w.Mods, impl.Module{})
			w.Faces = append(w.Faces, playedFace(part))
			continue
		}
		m := parsed(t, part)
		w.Mods = append(w.Mods, m)
		w.Faces = append(w.Faces, impl.FaceOf(m))
	}
	return w
}

func playedFace(part string) impl.Face {
	name, rest, _ := strings.Cut(part, ":")
	var procs []string
	for _, q := range strings.Split(rest, ",") {
		if strings.TrimSpace(q) != "" {
			procs = append(procs, q)
		}
	}
	return face(name, procs...)
}

func scripted(w impl.World, script ...impl.Action) impl.World {
	w.Script = script
	return w
}

func acCall(to, proc int, args ...impl.Arg) impl.Action {
	return impl.Action{Kind: impl.AcCall, To: to, Proc: proc, Args: args}
}

func acBack(n int) impl.Action { return impl.Action{Kind: impl.AcBack, N: n} }

func acOut(n int) impl.Action { return impl.Action{Kind: impl.AcOut, N: n} }

func acIn() impl.Action { return impl.Action{Kind: impl.AcIn} }

func acTrap(n int) impl.Action { return impl.Action{Kind: impl.AcTrap, N: n} }

func anInt(n int) impl.Arg { return impl.Arg{N: n} }

func anArray(n int) impl.Arg { return impl.Arg{Arr: true, N: n} }

// eventText is "call 1 0.2 5 @3" (From, To and Proc, Args), "back 0 1 7",
// "out 1 7" or "in 1 7", with all fields behind it where one is not zero that
// must be.
func eventText(e impl.Event) string {
	var text string
	rest := e
	rest.Kind, rest.From = 0, 0
	switch e.Kind {
	case impl.EvCall:
		text = fmt.Sprintf("call %d %d.%d", e.From, e.To, e.Proc)
		for _, a := range e.Args {
			text += " " + argText(a)
		}
		rest.To, rest.Proc, rest.Args = 0, 0, nil
	case impl.EvBack:
		text = fmt.Sprintf("back %d %d %d", e.From, e.To, e.N)
		rest.To, rest.N = 0, 0
	case impl.EvOut:
		text = fmt.Sprintf("out %d %d", e.From, e.N)
		rest.N = 0
	case impl.EvIn:
		text = fmt.Sprintf("in %d %d", e.From, e.N)
		rest.N = 0
	}
	if text == "" || rest.To != 0 || rest.Proc != 0 || rest.N != 0 || len(rest.Args) != 0 {
		return fmt.Sprintf("%s %v", text, e)
	}
	return text
}

func argText(a impl.Arg) string {
	if a.Arr {
		return fmt.Sprintf("@%d", a.N)
	}
	return fmt.Sprint(a.N)
}

func endText(o impl.Outcome) string {
	rest := o
	rest.End = 0
	text := []string{"refused", "exit", "trap", "fuel", "deep"}[o.End]
	if o.End == impl.EndTrap {
		text = fmt.Sprintf("trap %d by %d", o.Code, o.Who)
		rest.Code, rest.Who = 0, 0
	}
	if rest.Code != 0 || rest.Who != 0 {
		return fmt.Sprintf("%s %v", text, o)
	}
	return text
}

// moment is an event, or at last the end, with how many steps were made then.
type moment struct {
	steps int
	text  string
}

// momentsOf reads "2 in 0 7; 2 out 0 7; 2 exit".
func momentsOf(text string) []moment {
	var l []moment
	for _, one := range strings.Split(text, ";") {
		var m moment
		steps, what, _ := strings.Cut(strings.TrimSpace(one), " ")
		fmt.Sscan(steps, &m.steps)
		m.text = what
		l = append(l, m)
	}
	return l
}

// outcomeByMoments is what must come with that fuel, as outcomeText writes it.
func outcomeByMoments(l []moment, fuel int) string {
	var events []string
	end := l[len(l)-1]
	for _, m := range l[:len(l)-1] {
		if m.steps <= fuel {
			events = append(events, m.text)
		}
	}
	if end.steps > fuel {
		end = moment{fuel, "fuel"}
	}
	return fmt.Sprintf("%d %s: %s", end.steps, end.text, strings.Join(events, "; "))
}

func outcomeText(o impl.Outcome) string {
	var events []string
	for _, e := range o.Events {
		events = append(events, eventText(e))
	}
	return fmt.Sprintf("%d %s: %s", o.Steps, endText(o), strings.Join(events, "; "))
}

// wantMoments holds an evaluation against what happens at which step, with
// each fuel up to more than it needs, and with as much as may be.
func wantMoments(t *testing.T, what string, w impl.World, input []int, text string) {
	t.Helper()
	if !impl.WorldOk(w) {
		t.Errorf("%s: it is no world", what)
		return
	}
	l := momentsOf(text)
	for fuel := range l[len(l)-1].steps + 3 {
		wantOutcome(t, what, w, input, fuel, outcomeByMoments(l, fuel))
	}
	wantOutcome(t, what, w, input, impl.MaxFuel, outcomeByMoments(l, impl.MaxFuel))
}

func wantOutcome(t *testing.T, what string, w impl.World, input []int, fuel int, want string) {
	t.Helper()
	if got := outcomeText(impl.Eval(w, input, fuel)); got != want {
		t.Errorf("%s: with input %v and fuel %d\n%s, want\n%s", what, input, fuel, got, want)
	}
}

// wantBody does one body as main, beside a few names.
func wantBody(t *testing.T, body string, input []int, text string) {
	t.Helper()
	wantMoments(t, body, world(t, mainText(body)), input, text)
}

func mainText(body string) string {
	return "MODULE Main; VAR n; VAR a[3]; VAR b[1]; PROC none(); BEGIN END;" +
		" PROC two(x, y); BEGIN OUT y; RETURN x; END;" +
		" PROC put(@v, i, x); BEGIN v[i] := x; RETURN LEN v; END;" +
		" PROC main*(); VAR i; VAR j; BEGIN " + body + " END; END."
}

func wantWorld(t *testing.T, what string, w impl.World, want bool) {
	t.Helper()
	if got := impl.WorldOk(w); got != want {
		t.Errorf("%s: WorldOk = %v", what, got)
	}
	if o := impl.Eval(w, nil, 10); (o.End != impl.EndRefused) != want {
		t.Errorf("%s: Eval = %v", what, o)
	}
	if !want {
		wantNothing(t, what, w, nil, 10)
	}
}

func wantNothing(t *testing.T, what string, w impl.World, input []int, fuel int) {
	t.Helper()
	o := impl.Eval(w, input, fuel)
	if o.End != 0 || o.Code != 0 || o.Who != 0 || len(o.Events) != 0 || o.Steps != 0 {
		t.Errorf("%s: Eval = %v", what, o)
	}
}

func TestCodesOfEval(t *testing.T) {
	limits := []int{impl.MaxFuel, impl.MaxInput, impl.MaxCross, impl.MaxScript}
	ends := []int{impl.EndRefused, impl.EndExit, impl.EndTrap, impl.EndFuel, impl.EndDeep}
	events := []int{impl.EvCall, impl.EvBack, impl.EvOut, impl.EvIn}
	actions := []int{impl.AcCall, impl.AcBack, impl.AcOut, impl.AcIn, impl.AcTrap}
	if !slices.Equal(limits, []int{100000, 100, 20, 2000}) || !slices.Equal(ends, []int{0, 1, 2, 3, 4}) ||
		!slices.Equal(events, []int{0, 1, 2, 3}) || !slices.Equal(actions, []int{0, 1, 2, 3, 4}) {
		t.Error(limits, ends, events, actions)
	}
}

// plainWorld has as many modules; each but the first calls the one ahead.
func plainWorld(t *testing.T, count int) impl.World {
	var parts []string
	for i := range count {
		text := fmt.Sprintf("MODULE M%d; ", i)
		if i > 0 {
			text += fmt.Sprintf("IMPORT M%d; PROC main*(); BEGIN RETURN (M%d.main() + 1); END; END.", i-1, i-1)
		} else {
			text += "PROC main*(); BEGIN RETURN 5; END; END."
		}
		parts = append(parts, text)
	}
	return world(t, parts...)
}

func TestCountsOfMods(t *testing.T) {
	wantWorld(t, "the zero value", impl.World{}, false)
	for count := range 12 {
		w := plainWorld(t, count)
		wantWorld(t, fmt.Sprint(count), w, count >= 1 && count <= 8)
		if count == 0 {
			continue
		}
		less, more := w, w
		less.Faces = w.Faces[:count-1]
		more.Faces = append(slices.Clone(w.Faces), face("Zz", "main"))
		wantWorld(t, "fewer Faces", less, false)
		wantWorld(t, "more Faces", more, false)
		less, more = w, w
		less.Mods = w.Mods[:count-1]
		more.Mods = append(slices.Clone(w.Mods), impl.Module{})
		wantWorld(t, "fewer Mods", less, false)
		wantWorld(t, "more Mods", more, false)
		wantWorld(t, "no Mods", impl.World{Faces: w.Faces}, false)
		wantWorld(t, "no Faces", impl.World{Mods: w.Mods}, false)
	}
	many := impl.World{Mods: make([]impl.Module, 100000), Faces: make([]impl.Face, 100000)}
	wantWorld(t, "very many", many, false)
}

func TestFacesOfWorlds(t *testing.T) {
	for what, change := range map[string]func(*impl.World){
		"a face without Name":        func(w *impl.World) { w.Faces[1].Name = nil },
		"a face with a small Name":   func(w *impl.World) { w.Faces[1].Name = []byte("p") },
		"a Kind that is none":        func(w *impl.World) { w.Faces[1].Procs[0].Kinds[0] = 2 },
		"too many Kinds":             func(w *impl.World) { w.Faces[1].Procs[0].Kinds = make([]int, 5) },
		"too many Procs":             func(w *impl.World) { w.Faces[1] = face("P", named(9)...) },
		"two Procs of one Name":      func(w *impl.World) { w.Faces[1] = face("P", "f", "f") },
		"the Name of the first":      func(w *impl.World) { w.Faces[1].Name = []byte("A") },
		"the Name of the last":       func(w *impl.World) { w.Faces[1].Name = []byte("Main") },
		"another Name":               func(w *impl.World) { w.Faces[0].Name = []byte("B") },
		"another Name of the last":   func(w *impl.World) { w.Faces[2].Name = []byte("B") },
		"no Procs":                   func(w *impl.World) { w.Faces[0].Procs = nil },
		"one Proc less":              func(w *impl.World) { w.Faces[0].Procs = w.Faces[0].Procs[:1] },
		"one Proc more":              func(w *impl.World) { w.Faces[0] = face("A", "f 0 1", "g", "h") },
		"a Proc that is not Open":    func(w *impl.World) { w.Faces[0] = face("A", "f 0 1", "k", "g") },
		"Procs in another order":     func(w *impl.World) { w.Faces[0] = face("A", "g", "f 0 1") },
		"a Proc of another Name":     func(w *impl.World) { w.Faces[0] = face("A", "f 0 1", "gg") },
		"Kinds in another order":     func(w *impl.World) { w.Faces[0] = face("A", "f 1 0", "g") },
		"a Kind less":                func(w *impl.World) { w.Faces[0] = face("A", "f 0", "g") },
		"a Kind more":                func(w *impl.World) { w.Faces[0] = face("A", "f 0 1", "g 0") },
		"another Name of the module": func(w *impl.World) { w.Mods[0].Name = []byte("B") },
		"a module that is played, with the face of another one": func(w *impl.World) { w.Mods[0] = impl.Module{}; w.Faces[0] = face("A") },
	} {
		w := world(t,
			"MODULE A; PROC f*(x, @y); BEGIN END; PROC k(); BEGIN END; PROC g*(); BEGIN END; END.",
			"P: f 0",
			"MODULE Main; IMPORT A; PROC main*(); BEGIN CALL A.g(); END; END.")
		wantWorld(t, "as it was", w, true)
		change(&w)
		wantWorld(t, what, w, false)
	}
}

func TestModsOfWorlds(t *testing.T) {
	const end = " PROC main*(); BEGIN END; END."
	for text, want := range map[string]bool{
		"MODULE Main;":                     true,
		"MODULE Main; IMPORT A; IMPORT P;": true,
		"MODULE Main; IMPORT A; PROC z(); BEGIN CALL A.f(1); END;":                        true,
		"MODULE Main; IMPORT P; PROC z(); VAR x; BEGIN x := P.g(); END;":                  true,
		"MODULE Main; VAR x; VAR x;":                                                      false,
		"MODULE Main; IMPORT Main;":                                                       false,
		"MODULE Main; IMPORT B;":                                                          false,
		"MODULE Main; PROC z(); BEGIN CALL A.f(1); END;":                                  false,
		"MODULE Main; IMPORT A; PROC z(); BEGIN CALL A.f(); END;":                         false,
		"MODULE Main; IMPORT A; PROC z(); BEGIN CALL A.g(); END;":                         false,
		"MODULE Main; IMPORT A; PROC z(); BEGIN OUT x; END;":                              false,
		"MODULE Main; IMPORT A; PROC z(@a); BEGIN CALL A.f(@a); END;":                     false,
		"MODULE Main; PROC main*(); BEGIN END;":                                           false,
		"MODULE Main; PROC z(); BEGIN CALL main(); CALL z(); END;":                        true,
		"MODULE Main; IMPORT A; IMPORT P; PROC z*(x); BEGIN x := A.f(P.g()); END;":        true,
		"MODULE Main; IMPORT A; IMPORT P; PROC z*(x); BEGIN x := A.f(P.g(x)); END;":       false,
		"MODULE Main; IMPORT P; IMPORT A; PROC z*(x); BEGIN x := A.f(P.g()); OUT y; END;": false,
	} {
		w := world(t, "MODULE A; PROC f*(x); BEGIN END; END.", "P: g", text+end)
		wantWorld(t, text, w, want)
		// With a module behind it that is well, it must be well, too.
		w.Mods = append(w.Mods, parsed(t, "MODULE Z; PROC main*(); BEGIN END; END."))
		w.Faces = append(w.Faces, face("Z", "main"))
		wantWorld(t, "not the last: "+text, w, want)
	}
}

func TestUsesOfWhatComesBehind(t *testing.T) {
	a := "MODULE A; IMPORT B; PROC f*(); BEGIN CALL B.f(); END; PROC main*(); BEGIN END; END."
	b := "MODULE B; PROC f*(); BEGIN END; PROC main*(); BEGIN END; END."
	wantWorld(t, "ahead", world(t, b, a), true)
	wantWorld(t, "behind", world(t, a, b), false)
	wantWorld(t, "far behind", world(t, a, "C: f", b), false)
	wantWorld(t, "played, behind", world(t, a, "B: f, main"), false)
	wantWorld(t, "played, ahead", world(t, "B: f", a), true)
	both := "MODULE B; IMPORT A; PROC f*(); BEGIN CALL A.f(); END; PROC main*(); BEGIN END; END."
	wantWorld(t, "each the other", world(t, a, both), false)
	wantWorld(t, "each the other", world(t, both, a), false)
	for at := range 8 {
		w := plainWorld(t, 8)
		w.Mods[at].Uses = words("M7")
		wantWorld(t, "the last", w, false)
	}
}

func TestModulesThatAreNone(t *testing.T) {
	for what, m := range notModules() {
		if len(m.Name) == 0 {
			continue
		}
		for _, f := range []impl.Face{face(string(m.Name), "main"), face("Main", "main"), {}} {
			wantWorld(t, what, impl.World{Mods: []impl.Module{m}, Faces: facesOf(f)}, false)
			wantWorld(t, what, impl.World{Mods: []impl.Module{m, {}}, Faces: facesOf(f, face("Z", "main"))}, false)
		}
	}
}

// TestModulesWithoutName: what else they have means nothing.
func TestModulesWithoutName(t *testing.T) {
	back := impl.Expr{Kind: impl.ExCall, Name: []byte("p"), Kids: make([]impl.Expr, 4)}
	for i := range back.Kids {
		back.Kids[i] = back
	}
	for what, m := range map[string]impl.Module{
		"nothing":     {},
		"an empty":    {Name: []byte{}},
		"uses":        {Uses: words("A", "Zz", "x", "")},
		"vars":        {Vars: []impl.Var{{Name: []byte("x"), Size: -1}, {Size: math.MaxInt}, {Size: math.MinInt}}},
		"many":        {Vars: make([]impl.Var, 1000), Procs: make([]impl.Proc, 1000)},
		"a main":      {Procs: []impl.Proc{{Name: []byte("main"), Open: true, Body: stmts(stOut(exInt(5)), stTrap(1))}}},
		"a tree":      {Procs: []impl.Proc{{Name: []byte("main"), Open: true, Body: stmts(stCall(back))}}},
		"what is not": {Procs: []impl.Proc{{Name: []byte("main"), Open: true, Body: stmts(impl.Stmt{Kind: 77})}}},
	} {
		w := scripted(impl.World{Mods: []impl.Module{m}, Faces: facesOf(face("Main", "main"))}, acOut(3), acBack(0))
		wantMoments(t, what, w, nil, "1 out 0 3; 2 exit")
		w = scripted(world(t, "P: f 0, main", "MODULE Main; IMPORT P; PROC main*(); BEGIN OUT P.f(8); END; END."), acBack(4))
		w.Mods[0] = m
		wantMoments(t, what, w, nil, "3 call 1 0.0 8; 4 back 0 1 4; 4 out 1 4; 4 exit")
	}
}

func TestMainOfWorlds(t *testing.T) {
	for text, want := range map[string]bool{
		"PROC main*(); BEGIN END;":                       true,
		"":                                               false,
		"PROC main(); BEGIN END;":                        false,
		"PROC main*(x); BEGIN END;":                      false,
		"PROC main*(@x); BEGIN END;":                     false,
		"PROC main*(x, y, @z, w); BEGIN END;":            false,
		"PROC mains*(); BEGIN END;":                      false,
		"PROC mai*(); BEGIN END;":                        false,
		"PROC f*(); BEGIN END; PROC main*(); BEGIN END;": true,
		"PROC main(); BEGIN END; PROC f*(); BEGIN END;":  false,
	} {
		wantWorld(t, text, world(t, "MODULE Main; "+text+" END."), want)
		wantWorld(t, text+" behind another one", world(t, "MODULE A; PROC main*(); BEGIN END; END.", "MODULE Main; "+text+" END."), want)
		wantWorld(t, text+" ahead of another one", world(t, "MODULE Main; "+text+" END.", "MODULE A; PROC main*(); BEGIN END; END."), true)
	}
	for procs, want := range map[string]bool{"main": true, "": false, "main 0": false, "main 1": false, "f, main": true, "f, g": false, "main 0 1, f": false} {
		wantWorld(t, "played: "+procs, world(t, "P: "+procs), want)
		wantWorld(t, "played behind another one: "+procs, world(t, "A: main", "P: "+procs), want)
	}
}

func scriptWorld(t *testing.T, script ...impl.Action) impl.World {
	return scripted(world(t, "MODULE A; PROC f*(x); BEGIN END; PROC k(); BEGIN END; PROC g*(); BEGIN END; END.", "P: h", "Q:", "Main: main"), script...)
}

func TestCountsOfActions(t *testing.T) {
	for _, count := range []int{0, 1, 2, impl.MaxScript - 1, impl.MaxScript, impl.MaxScript + 1, 2 * impl.MaxScript, 100000} {
		w := scriptWorld(t, repeated(count, acOut(1))...)
		wantWorld(t, fmt.Sprint(count, " actions"), w, count <= impl.MaxScript)
		w = scripted(plainWorld(t, 1), repeated(count, acBack(1))...)
		wantWorld(t, fmt.Sprint(count, " actions that nobody does"), w, count <= impl.MaxScript)
	}
	w := scriptWorld(t, repeated(impl.MaxScript-1, acOut(1))...)
	w.Script = append(w.Script, acBack(0))
	if o := impl.Eval(w, nil, impl.MaxScript); o.End != impl.EndExit || o.Steps != impl.MaxScript || len(o.Events) != impl.MaxScript-1 {
		t.Error(o.End, o.Steps)
	}
}

// wantAction puts an action, which may lead to 0 and 0, at the beginning, in
// the midst and at the end.
func wantAction(t *testing.T, what string, a impl.Action, want bool) {
	t.Helper()
	for at := range 3 {
		l := []impl.Action{acOut(1), acIn(), acBack(0)}
		l[at] = a
		wantWorld(t, fmt.Sprintf("%s of Kind %d with %d Args", what, a.Kind, len(a.Args)), scriptWorld(t, l...), want)
		wantWorld(t, fmt.Sprintf("%s of Kind %d that nobody does", what, a.Kind), scripted(plainWorld(t, 1), l...), want)
	}
}

func TestActions(t *testing.T) {
	for _, kind := range []int{-1, 0, 1, 2, 3, 4, 5, 6, 100, 256, 1 << 32, math.MinInt, math.MaxInt} {
		wantAction(t, "Kind", impl.Action{Kind: kind}, kind >= 0 && kind <= 4)
	}
	for kind := range 5 {
		for count := range 8 {
			wantAction(t, "Args", impl.Action{Kind: kind, Args: make([]impl.Arg, count)}, count <= 4)
			wantAction(t, "Args", impl.Action{Kind: kind, Args: repeated(count, anArray(1))}, count <= 4)
		}
		wantAction(t, "very many Args", impl.Action{Kind: kind, Args: make([]impl.Arg, 100000)}, false)
		for _, n := range slices.Concat(ends32, no32) {
			isInt := n >= math.MinInt32 && n <= math.MaxInt32
			wantAction(t, "N", impl.Action{Kind: kind, N: n}, isInt)
			for at := range 4 {
				args := make([]impl.Arg, 4)
				args[at].N = n
				wantAction(t, "N of an Arg", impl.Action{Kind: kind, Args: args}, isInt)
				args = repeated(4, anArray(1))
				args[at].N = n
				wantAction(t, "N of an array", impl.Action{Kind: kind, Args: args}, isInt)
			}
		}
	}
}

func TestWhereActionsLead(t *testing.T) {
	counts := []int{2, 1, 0, 1}
	off := []int{-2, -1, 0, 1, 2, 3, 4, 5, 7, 8, 100, math.MinInt, math.MaxInt}
	for _, to := range off {
		for _, proc := range off {
			a := impl.Action{To: to, Proc: proc}
			want := to >= 0 && to < 4 && proc >= 0 && proc < counts[to]
			wantWorld(t, fmt.Sprintf("%v", a), scriptWorld(t, acOut(1), a), want)
			for kind := 1; kind < 5; kind++ {
				a.Kind = kind
				wantWorld(t, fmt.Sprintf("%v leads nowhere", a), scriptWorld(t, acOut(1), a), true)
			}
		}
	}
}

func TestInputsOfEval(t *testing.T) {
	w := world(t, mainText("WHILE (i < 102) DO OUT IN; i := (i + 1); END;"))
	for _, count := range []int{0, 1, impl.MaxInput - 1, impl.MaxInput, impl.MaxInput + 1, 1000, 100000} {
		input := make([]int, count)
		for i := range input {
			input[i] = 1000 + i
		}
		if count > impl.MaxInput {
			wantNothing(t, fmt.Sprint(count, " numbers"), w, input, impl.MaxFuel)
			continue
		}
		o := impl.Eval(w, input, impl.MaxFuel)
		if o.End != impl.EndExit || len(o.Events) != 204 {
			t.Fatalf("%d numbers: %v", count, o)
		}
		for i := range 102 {
			want := 0
			if i < count {
				want = 1000 + i
			}
			if o.Events[2*i].N != want || o.Events[2*i].Kind != impl.EvIn || o.Events[2*i+1].N != want || o.Events[2*i+1].Kind != impl.EvOut {
				t.Fatalf("%d numbers: the %d. is %v, %v", count, i, o.Events[2*i], o.Events[2*i+1])
			}
		}
	}
	for _, n := range slices.Concat(ends32, no32) {
		for _, at := range []int{0, 1, 50, 99} {
			input := make([]int, 100)
			input[at] = n
			if n < math.MinInt32 || n > math.MaxInt32 {
				wantNothing(t, "no int", w, input, 10)
				// Whether it is read plays no part.
				wantNothing(t, "no int", plainWorld(t, 1), input, 10)
			} else if o := impl.Eval(w, input, impl.MaxFuel); o.End != impl.EndExit || o.Events[2*at].N != n {
				t.Errorf("with %d: %v", n, o)
			}
		}
	}
}

func TestFuelOfEval(t *testing.T) {
	forever := world(t, mainText("WHILE 1 DO OUT 2; END;"))
	for _, fuel := range []int{-1, -2, impl.MaxFuel + 1, impl.MaxFuel + 2, 1 << 32, math.MinInt, math.MaxInt} {
		wantNothing(t, fmt.Sprint("fuel ", fuel), forever, nil, fuel)
		wantNothing(t, fmt.Sprint("fuel ", fuel), plainWorld(t, 1), nil, fuel)
		wantNothing(t, fmt.Sprint("fuel ", fuel), world(t, mainText("")), nil, fuel)
	}
	for _, fuel := range []int{0, 1, 2, 3, 4, 5, 1000, impl.MaxFuel - 1, impl.MaxFuel} {
		o := impl.Eval(forever, nil, fuel)
		// The statement, then the 1, and OUT and the 2 behind each.
		if o.End != impl.EndFuel || o.Steps != fuel || len(o.Events) != max(fuel-1, 0)/3 {
			t.Errorf("fuel %d: %d, %d steps, %d events", fuel, o.End, o.Steps, len(o.Events))
		}
	}
	wantOutcome(t, "nothing to do", world(t, mainText("")), nil, 0, "0 exit: ")
	wantOutcome(t, "nothing to do", world(t, "Main: main"), nil, 0, "0 fuel: ")
}

func TestStatements(t *testing.T) {
	for body, text := range map[string]string{
		"":                       "0 exit",
		"n := 5;":                "2 exit",
		"n := IN;":               "2 in 0 7; 2 exit",
		"n := 5; OUT n;":         "4 out 0 5; 4 exit",
		"i := -5; OUT i;":        "4 out 0 -5; 4 exit",
		"OUT n; OUT i;":          "2 out 0 0; 4 out 0 0; 4 exit",
		"OUT 4; OUT 5;":          "2 out 0 4; 4 out 0 5; 4 exit",
		"i := 1; n := 2; OUT i;": "6 out 0 1; 6 exit",

		"a[1] := 7; OUT a[1];": "6 out 0 7; 6 exit",
		"a[IN] := IN;":         "2 in 0 7; 3 in 0 1; 3 trap 5 by 0",
		"a[0] := IN; a[2] := IN; OUT a[0]; OUT a[1]; OUT a[2];": "3 in 0 7; 6 in 0 1; 9 out 0 7; 12 out 0 0; 15 out 0 1; 15 exit",
		"a[(IN - 5)] := (IN + IN); OUT a[2];":                   "3 in 0 7; 6 in 0 1; 7 in 0 2; 10 out 0 3; 10 exit",

		"IF 1 THEN OUT 2; ELSE OUT 3; END;":                     "4 out 0 2; 4 exit",
		"IF 0 THEN OUT 2; ELSE OUT 3; END;":                     "4 out 0 3; 4 exit",
		"IF -1 THEN OUT 2; OUT 4; ELSE OUT 3; END; OUT 5;":      "4 out 0 2; 6 out 0 4; 8 out 0 5; 8 exit",
		"IF 0 THEN OUT 2; ELSE OUT 3; OUT 4; END; OUT 5;":       "4 out 0 3; 6 out 0 4; 8 out 0 5; 8 exit",
		"IF -2147483648 THEN OUT 2; ELSE END;":                  "4 out 0 2; 4 exit",
		"IF IN THEN ELSE OUT 3; END;":                           "2 in 0 7; 2 exit",
		"IF 0 THEN OUT 2; ELSE END; OUT 3;":                     "4 out 0 3; 4 exit",
		"IF 2 THEN IF 0 THEN ELSE OUT 1; END; ELSE OUT 2; END;": "6 out 0 1; 6 exit",

		"WHILE 0 DO OUT 1; END; OUT 2;":                             "4 out 0 2; 4 exit",
		"WHILE (i < 2) DO i := (i + 1); END;":                       "18 exit",
		"i := 3; WHILE i DO OUT i; i := (i - 1); END;":              "6 out 0 3; 13 out 0 2; 20 out 0 1; 25 exit",
		"i := -2; WHILE i DO i := (i + 1); END; OUT 1;":             "16 out 0 1; 16 exit",
		"WHILE (IN - 2) DO END;":                                    "3 in 0 7; 6 in 0 1; 9 in 0 2; 10 exit",
		"WHILE IN DO WHILE IN DO OUT 1; END; RETURN 2; END; OUT 3;": "2 in 0 7; 4 in 0 1; 6 out 0 1; 7 in 0 2; 9 out 0 1; 10 in 0 0; 12 exit",

		"RETURN 3;":                                             "2 exit",
		"RETURN 3; OUT 1;":                                      "2 exit",
		"RETURN IN; OUT 1;":                                     "2 in 0 7; 2 exit",
		"IF 1 THEN RETURN 1; ELSE END; OUT 1;":                  "4 exit",
		"IF 0 THEN ELSE RETURN 1; OUT 2; END; OUT 1;":           "4 exit",
		"WHILE 1 DO RETURN 1; END; OUT 1;":                      "4 exit",
		"WHILE 1 DO IF IN THEN RETURN 1; ELSE END; OUT 2; END;": "4 in 0 7; 6 exit",

		"TRAP 0;":           "1 trap 11 by 0",
		"TRAP 5; OUT 1;":    "1 trap 16 by 0",
		"OUT 1; TRAP 99;":   "2 out 0 1; 3 trap 110 by 0",
		"OUT IN;":           "2 in 0 7; 2 out 0 7; 2 exit",
		"CALL none();":      "2 exit",
		"CALL two(IN, IN);": "3 in 0 7; 4 in 0 1; 6 out 0 1; 8 exit",
	} {
		wantBody(t, body, []int{7, 1, 2}, text)
	}
}

func TestExpressions(t *testing.T) {
	for body, text := range map[string]string{
		"OUT 2147483647; OUT -2147483648;":      "2 out 0 2147483647; 4 out 0 -2147483648; 4 exit",
		"OUT n;":                                "2 out 0 0; 2 exit",
		"OUT a[0];":                             "3 out 0 0; 3 exit",
		"OUT a[IN];":                            "3 in 0 2; 3 out 0 0; 3 exit",
		"a[0] := 1; a[1] := 2; OUT a[a[a[n]]];": "11 out 0 0; 11 exit",
		"OUT LEN a; OUT LEN b;":                 "2 out 0 3; 4 out 0 1; 4 exit",
		"OUT IN; OUT IN; OUT IN; OUT IN;":       "2 in 0 2; 2 out 0 2; 4 in 0 -9; 4 out 0 -9; 6 in 0 4; 6 out 0 4; 8 in 0 0; 8 out 0 0; 8 exit",

		"OUT (2 + 3);":                                      "4 out 0 5; 4 exit",
		"OUT (IN - IN);":                                    "3 in 0 2; 4 in 0 -9; 4 out 0 11; 4 exit",
		"OUT (IN * IN);":                                    "3 in 0 2; 4 in 0 -9; 4 out 0 -18; 4 exit",
		"OUT (-7 / 2);":                                     "4 out 0 -3; 4 exit",
		"OUT (2 < 3); OUT (3 < 3);":                         "4 out 0 1; 8 out 0 0; 8 exit",
		"OUT (2 = 3); OUT (3 = 3);":                         "4 out 0 0; 8 out 0 1; 8 exit",
		"OUT ((IN + IN) - (IN + 1));":                       "4 in 0 2; 5 in 0 -9; 7 in 0 4; 8 out 0 -12; 8 exit",
		"OUT (2147483647 + 1);":                             "4 out 0 -2147483648; 4 exit",
		"OUT (-2147483648 / -1);":                           "4 out 0 -2147483648; 4 exit",
		"OUT (-2147483648 - 1);":                            "4 out 0 2147483647; 4 exit",
		"OUT (65536 * 65536);":                              "4 out 0 0; 4 exit",
		"n := (2147483647 + 2); a[0] := (n - 2); OUT a[0];": "12 out 0 2147483647; 12 exit",

		"OUT (1 / 0);":         "4 trap 6 by 0",
		"OUT (IN / n);":        "3 in 0 2; 4 trap 6 by 0",
		"OUT (0 / 0);":         "4 trap 6 by 0",
		"n := (n / (IN - 2));": "5 in 0 2; 6 trap 6 by 0",
		"OUT ((1 / 0) + IN);":  "5 trap 6 by 0",
		"OUT (IN + (1 / 0));":  "3 in 0 2; 6 trap 6 by 0",

		"OUT two(IN, IN);":                        "3 in 0 2; 4 in 0 -9; 6 out 0 -9; 8 out 0 2; 8 exit",
		"OUT (two(1, IN) + two(IN, 3));":          "5 in 0 2; 7 out 0 2; 11 in 0 -9; 14 out 0 3; 16 out 0 -8; 16 exit",
		"OUT two(two(1, 2), two(3, 4));":          "7 out 0 2; 14 out 0 4; 18 out 0 3; 20 out 0 1; 20 exit",
		"OUT none();":                             "2 out 0 0; 2 exit",
		"n := put(@a, 1, IN); OUT a[1]; OUT n;":   "5 in 0 2; 13 out 0 2; 15 out 0 3; 15 exit",
		"CALL put(@b, 0, 6); OUT b[0]; OUT a[0];": "13 out 0 6; 16 out 0 0; 16 exit",
	} {
		wantBody(t, body, []int{2, -9, 4}, text)
	}
}

// TestArraysAreSteps: an ExArr is a step, too, ahead of what follows.
func TestArraysAreSteps(t *testing.T) {
	w := world(t, "MODULE Main; VAR a[2]; VAR b[4]; PROC f(@x, y, @z, w); BEGIN OUT LEN x; OUT y; OUT LEN z; OUT w; END;"+
		" PROC main*(); BEGIN CALL f(@a, IN, @b, IN); END; END.")
	wantMoments(t, "arrays and ints", w, []int{5, 6}, "4 in 0 5; 6 in 0 6; 8 out 0 2; 10 out 0 5; 12 out 0 4; 14 out 0 6; 14 exit")
	w = world(t, "P: f 1 1 0", "MODULE Main; IMPORT P; VAR a[2]; VAR b[20]; PROC main*(); BEGIN CALL P.f(@b, @a, IN); END; END.")
	wantMoments(t, "to another one", scripted(w, acBack(3)), []int{5}, "5 in 1 5; 5 call 1 0.0 @20 @2 5; 6 back 0 1 3; 6 exit")
}

func TestElements(t *testing.T) {
	for size := 1; size <= impl.MaxArray; size++ {
		for _, at := range []int{-1, 0, 1, size - 1, size, size + 1, 20, 21, math.MaxInt32, math.MinInt32} {
			head := fmt.Sprintf("MODULE Main; VAR l; VAR a[%d]; VAR r; PROC main*(); BEGIN ", size)
			there := at >= 0 && at < size
			text := "3 trap 5 by 0"
			if there {
				text = "3 out 0 0; 3 exit"
			}
			wantMoments(t, "ExIndex", world(t, head+fmt.Sprintf("OUT a[%d]; END; END.", at)), nil, text)
			text = "3 in 0 8; 3 trap 5 by 0"
			if there {
				text = "3 in 0 8; 6 out 0 8; 8 out 0 0; 10 out 0 0; 10 exit"
			}
			wantMoments(t, "StPut", world(t, head+fmt.Sprintf("a[%d] := IN; OUT a[%d]; OUT l; OUT r; END; END.", at, at)), []int{8}, text)
		}
	}
	// A trap of a Kid comes first, and that of an element ahead of nothing.
	for body, text := range map[string]string{
		"a[3] := (1 / 0);":                 "5 trap 6 by 0",
		"a[(1 / 0)] := IN;":                "4 trap 6 by 0",
		"a[3] := a[4];":                    "4 trap 5 by 0",
		"a[3] := two(1, IN);":              "5 in 0 2; 7 out 0 2; 9 trap 5 by 0",
		"a[3] := none(); OUT 1;":           "3 trap 5 by 0",
		"a[n] := put(@a, 0, 5); OUT a[0];": "14 out 0 3; 14 exit",
		"OUT a[put(@a, 0, 5)];":            "11 trap 5 by 0",
	} {
		wantBody(t, body, []int{2}, text)
	}
}

func TestTrapsOfStatements(t *testing.T) {
	for n := range 100 {
		wantBody(t, fmt.Sprintf("OUT 1; TRAP %d; OUT 2;", n), nil, fmt.Sprintf("2 out 0 1; 3 trap %d by 0", 11+n))
	}
}

func TestArithOfModules(t *testing.T) {
	for op, sign := range []string{"+", "-", "*", "/", "<", "="} {
		w := world(t, mainText("OUT (IN "+sign+" IN);"))
		for _, a := range ends32 {
			for _, b := range append(ends32, 0, 1, -1, 3) {
				n, trap := arithByRule(op, a, b)
				want := fmt.Sprintf("3 in 0 %d; 4 in 0 %d; 4 out 0 %d; 4 exit", a, b, n)
				if trap != 0 {
					want = fmt.Sprintf("3 in 0 %d; 4 in 0 %d; 4 trap %d by 0", a, b, trap)
				}
				wantMoments(t, sign, w, []int{a, b}, want)
			}
		}
	}
}

func TestWhoTraps(t *testing.T) {
	a := "MODULE A; VAR e[1]; PROC f*(n); BEGIN IF n THEN RETURN e[n]; ELSE END; RETURN (1 / n); END; PROC t*(); BEGIN TRAP 7; END; END."
	b := "MODULE B; IMPORT A; PROC f*(n); BEGIN RETURN A.f(n); END; PROC own*(n); BEGIN RETURN (1 / n); END; END."
	for body, text := range map[string]string{
		"OUT A.f(0);":                "3 call 2 0.0 0; 9 trap 6 by 0",
		"OUT A.f(1);":                "3 call 2 0.0 1; 8 trap 5 by 0",
		"CALL A.t();":                "2 call 2 0.1; 3 trap 18 by 0",
		"OUT B.f(0);":                "3 call 2 1.0 0; 6 call 1 0.0 0; 12 trap 6 by 0",
		"OUT B.own(0);":              "3 call 2 1.1 0; 7 trap 6 by 1",
		"OUT B.own(1); OUT (1 / 0);": "3 call 2 1.1 1; 7 back 1 2 1; 7 out 2 1; 11 trap 6 by 2",
		"CALL B.own(1); TRAP 0;":     "3 call 2 1.1 1; 7 back 1 2 1; 8 trap 11 by 2",
	} {
		w := world(t, a, b, "MODULE Main; IMPORT A; IMPORT B; PROC main*(); BEGIN "+body+" END; END.")
		wantMoments(t, body, w, nil, text)
	}
}

func TestOwnCalls(t *testing.T) {
	for text, want := range map[string]string{
		// A Param is the call's own; a Local is 0 at each call.
		"PROC f(x); VAR i; BEGIN OUT i; i := x; x := 9; OUT i; END; PROC main*(); VAR x; BEGIN x := 4; CALL f(x); CALL f(x); OUT x; END;": "7 out 0 0; 13 out 0 4; 18 out 0 0; 24 out 0 4; 26 out 0 4; 26 exit",
		// It comes behind the call, and calls may lead ahead and behind.
		"PROC main*(); BEGIN OUT g(); END; PROC f(); BEGIN RETURN 5; END; PROC g(); BEGIN RETURN (f() + 1); END;": "8 out 0 6; 8 exit",
		// One that is Open is no crossing.
		"PROC f*(x); BEGIN RETURN x; END; PROC main*(); BEGIN OUT f(3); END;":                                        "5 out 0 3; 5 exit",
		"PROC main*(); VAR i; BEGIN n := (n + 1); OUT n; IF (n < 3) THEN CALL main(); ELSE END; OUT i; i := 1; END;": "6 out 0 1; 18 out 0 2; 30 out 0 3; 36 out 0 0; 40 out 0 0; 44 out 0 0; 46 exit",
		// Calls of themselves: each has Params and Locals of its own.
		"PROC f(x); VAR y; BEGIN IF x THEN ELSE RETURN 0; END; y := x; CALL f((x - 1)); RETURN y; END; PROC main*(); BEGIN OUT f(2); END;": "29 out 0 2; 29 exit",
		"PROC fac(x); BEGIN IF (x < 2) THEN RETURN 1; ELSE END; RETURN (x * fac((x - 1))); END; PROC main*(); BEGIN OUT fac(5); END;":      "53 out 0 120; 53 exit",
		// Without StReturn, behind a StWhile, and within one.
		"PROC f(); BEGIN END; PROC g(x); BEGIN x := 3; END; PROC main*(); BEGIN OUT f(); OUT g(2); END;":                                                          "2 out 0 0; 7 out 0 0; 7 exit",
		"PROC f(x); BEGIN WHILE x DO IF (x = 2) THEN RETURN 8; ELSE END; x := (x - 1); END; END; PROC main*(); BEGIN OUT f(3); OUT f(1); END;":                    "20 out 0 8; 34 out 0 0; 34 exit",
		"PROC f(); BEGIN WHILE 1 DO WHILE 1 DO IF 1 THEN RETURN 6; OUT 1; ELSE END; OUT 2; END; OUT 3; END; OUT 4; END; PROC main*(); BEGIN OUT f(); OUT 5; END;": "10 out 0 6; 12 out 0 5; 12 exit",
		"PROC f(); BEGIN RETURN 1; RETURN 2; END; PROC main*(); BEGIN OUT f(); END;":                                                                              "4 out 0 1; 4 exit",
		// Arrays are those that are named, however far.
		"PROC f(@x, @y); BEGIN x[0] := 5; OUT y[0]; END; PROC main*(); BEGIN CALL f(@a, @a); OUT a[0]; CALL f(@a, @b); OUT b[0]; END;":                              "10 out 0 5; 13 out 0 5; 23 out 0 0; 26 out 0 0; 26 exit",
		"PROC f(@x, i); BEGIN IF i THEN CALL f(@x, (i - 1)); ELSE x[1] := 7; END; END; PROC main*(); BEGIN CALL f(@a, 2); OUT a[1]; END;":                           "28 out 0 7; 28 exit",
		"PROC f(@x, @y); BEGIN CALL g(@y, @x); END; PROC g(@x, @y); BEGIN OUT LEN x; OUT LEN y; a[1] := 8; OUT y[1]; END; PROC main*(); BEGIN CALL f(@a, @b); END;": "10 out 0 1; 12 out 0 3; 18 out 0 8; 18 exit",
	} {
		wantMoments(t, text, world(t, "MODULE Main; VAR n; VAR a[3]; VAR b[1]; "+text+" END."), nil, want)
	}
}

func TestDataOfModules(t *testing.T) {
	// Names are each module's own; Vars go on from call to call.
	a := "MODULE A; VAR n; VAR a[2]; PROC up*(x); BEGIN n := (n + x); a[1] := (a[1] + 1); RETURN (n + a[1]); END; END."
	w := world(t, a, "MODULE Main; IMPORT A; VAR n; VAR a[2]; PROC main*(); BEGIN n := 40; a[1] := 50; OUT A.up(1); OUT A.up(1); OUT n; OUT a[1]; END; END.")
	want := "8 call 1 0.0 1; 23 back 0 1 2; 23 out 1 2; 26 call 1 0.0 1; 41 back 0 1 4; 41 out 1 4; 43 out 1 40; 46 out 1 50; 46 exit"
	wantMoments(t, "data", w, nil, want)
	// All is 0 again at the next evaluation.
	wantMoments(t, "data", w, nil, want)
}

func TestCrossings(t *testing.T) {
	const lib = "MODULE A; VAR v[4]; PROC hid(); BEGIN END; PROC f*(x, y); BEGIN RETURN (x - y); END;" +
		" PROC hide(x); BEGIN END; PROC g*(@x, i, @y); BEGIN x[i] := LEN y; y[0] := 6; RETURN x[0]; END;" +
		" PROC none*(); BEGIN END; PROC k*(@x); BEGIN RETURN g(@x, 0, @v); END; END."
	for body, text := range map[string]string{
		"OUT A.f(IN, IN);":                         "3 in 1 9; 4 in 1 2; 4 call 1 0.0 9 2; 8 back 0 1 7; 8 out 1 7; 8 exit",
		"CALL A.f(IN, -1);":                        "3 in 1 9; 4 call 1 0.0 9 -1; 8 back 0 1 10; 8 exit",
		"CALL A.none(); OUT 1;":                    "2 call 1 0.2; 2 back 0 1 0; 4 out 1 1; 4 exit",
		"OUT A.none();":                            "2 call 1 0.2; 2 back 0 1 0; 2 out 1 0; 2 exit",
		"OUT A.f(A.f(1, 2), 3);":                   "5 call 1 0.0 1 2; 9 back 0 1 -1; 10 call 1 0.0 -1 3; 14 back 0 1 -4; 14 out 1 -4; 14 exit",
		"OUT (A.f(1, 2) + A.none());":              "5 call 1 0.0 1 2; 9 back 0 1 -1; 10 call 1 0.2; 10 back 0 1 0; 10 out 1 -1; 10 exit",
		"CALL A.g(@a, 1, @b); OUT a[1]; OUT b[0];": "5 call 1 0.1 @3 1 @2; 14 back 0 1 0; 17 out 1 2; 20 out 1 6; 20 exit",
		"OUT A.g(@a, 0, @a);":                      "5 call 1 0.1 @3 0 @3; 14 back 0 1 6; 14 out 1 6; 14 exit",
		"OUT A.g(@a, 3, @b);":                      "5 call 1 0.1 @3 3 @2; 8 trap 5 by 0",
		"OUT A.k(@b); OUT b[0];":                   "3 call 1 0.3 @2; 17 back 0 1 4; 17 out 1 4; 20 out 1 4; 20 exit",
		"WHILE A.f(i, 2) DO i := (i + 1); END;":    "4 call 1 0.0 0 2; 8 back 0 1 -2; 15 call 1 0.0 1 2; 19 back 0 1 -1; 26 call 1 0.0 2 2; 30 back 0 1 0; 30 exit",
		"RETURN A.f(1, 1); OUT 2;":                 "4 call 1 0.0 1 1; 8 back 0 1 0; 8 exit",
		"a[A.f(3, 2)] := A.f(5, 1); OUT a[1];":     "4 call 1 0.0 3 2; 8 back 0 1 1; 11 call 1 0.0 5 1; 15 back 0 1 4; 18 out 1 4; 18 exit",
	} {
		w := world(t, lib, "MODULE Main; IMPORT A; VAR a[3]; VAR b[2]; PROC main*(); VAR i; BEGIN "+body+" END; END.")
		wantMoments(t, body, w, []int{9, 2}, text)
	}
}

// TestWhoIsCrossedTo: a Mod is told by the Name of its face, a procedure by
// its place there.
func TestWhoIsCrossedTo(t *testing.T) {
	lib := func(name string, n int) string {
		return fmt.Sprintf("MODULE %s; PROC main(); BEGIN END; PROC f*(); BEGIN RETURN %d; END; PROC g*(); BEGIN RETURN %d; END; END.", name, n, n+1)
	}
	w := world(t, lib("A", 10), lib("B", 20), lib("C", 30), "MODULE Main; IMPORT C; IMPORT A; IMPORT B;"+
		" PROC f(); BEGIN RETURN 1; END; PROC main*(); BEGIN OUT C.g(); OUT A.f(); OUT B.g(); OUT f(); OUT B.f(); END; END.")
	wantMoments(t, "three", w, nil, "2 call 3 2.1; 4 back 2 3 31; 4 out 3 31; 6 call 3 0.0; 8 back 0 3 10; 8 out 3 10;"+
		"10 call 3 1.1; 12 back 1 3 21; 12 out 3 21; 16 out 3 1; 18 call 3 1.0; 20 back 1 3 20; 20 out 3 20; 20 exit")
	wantMoments(t, "a row of them", plainWorld(t, 4), nil,
		"3 call 3 2.0; 6 call 2 1.0; 9 call 1 0.0; 11 back 0 1 5; 12 back 1 2 6; 13 back 2 3 7; 14 exit")
}

func TestAsManyCrossingsAsMayBe(t *testing.T) {
	for count := 0; count <= impl.MaxCross+2; count++ {
		script := append(repeated(count, acCall(0, 0)), repeated(count+1, acBack(5))...)
		var l []string
		for i := range min(count, impl.MaxCross) {
			l = append(l, fmt.Sprintf("%d call 0 0.0", i+1))
		}
		if count > impl.MaxCross {
			l = append(l, "21 deep")
		} else {
			for i := range count {
				l = append(l, fmt.Sprintf("%d back 0 0 5", count+i+1))
			}
			l = append(l, fmt.Sprintf("%d exit", 2*count+1))
		}
		wantMoments(t, fmt.Sprint(count, " crossings"), scripted(world(t, "Main: main"), script...), nil, strings.Join(l, "; "))
	}
	// What came back is no more under way.
	script := repeated(impl.MaxCross-1, acCall(0, 0))
	for range 50 {
		script = append(script, acCall(0, 0), acBack(1))
	}
	o := impl.Eval(scripted(world(t, "Main: main"), append(script, acCall(0, 0), acCall(0, 0))...), nil, impl.MaxFuel)
	if o.End != impl.EndDeep || o.Steps != 19+100+2 || len(o.Events) != 19+100+1 || o.Code != 0 || o.Who != 0 {
		t.Error(o.End, o.Steps, len(o.Events))
	}
}

// TestDeepBehindKids: a text that crosses once too often does the Kids first.
func TestDeepBehindKids(t *testing.T) {
	w := world(t, "P: p 0", "MODULE Main; IMPORT P; PROC main*(); BEGIN OUT P.p(IN); END; END.")
	var script []impl.Action
	var l []string
	for i := range 10 {
		script = append(script, acCall(1, 0))
		l = append(l, fmt.Sprintf("%d in 1 %d; %d call 1 0.0 %d; %d call 0 1.0", 4*i+3, i+1, 4*i+3, i+1, 4*i+4))
	}
	l = append(l, "43 in 1 11; 43 deep")
	wantMoments(t, "by a text", scripted(w, script...), []int{1, 2, 3, 4, 5, 6, 7, 8, 9, 10, 11}, strings.Join(l, "; "))
	// Own calls are no crossings, and main is called by none.
	w = world(t, "MODULE Main; VAR n; PROC f(); BEGIN n := (n + 1); IF (n < 50) THEN CALL f(); ELSE END; END; PROC main*(); BEGIN CALL f(); OUT n; END; END.")
	if o := impl.Eval(w, nil, impl.MaxFuel); o.End != impl.EndExit || len(o.Events) != 1 || o.Events[0].N != 50 {
		t.Error(o)
	}
}

// TestCallsAsDeepAsFuelGoes: a trap and the end of fuel are told however deep
// own calls are.
func TestCallsAsDeepAsFuelGoes(t *testing.T) {
	for text, want := range map[string]string{
		"PROC f(); BEGIN CALL f(); END; PROC main*(); BEGIN CALL f(); END;":                                            "100000 fuel: ",
		"PROC f(x, @y, z); VAR i; VAR j; BEGIN RETURN f(x, @y, z); END; PROC main*(); BEGIN CALL f(1, @a, 2); END;":    "100000 fuel: ",
		"PROC f(); BEGIN WHILE f() DO END; END; PROC main*(); BEGIN CALL f(); END;":                                    "100000 fuel: ",
		"PROC f(x); BEGIN IF x THEN RETURN f((x - 1)); ELSE END; TRAP 3; END; PROC main*(); BEGIN CALL f(10000); END;": "70006 trap 14 by 0: ",
		"PROC f(x); BEGIN IF x THEN RETURN (f((x - 1)) + 1); ELSE END; END; PROC main*(); BEGIN OUT f(10000); END;":    "90005 exit: out 0 10000",
	} {
		wantOutcome(t, text, world(t, "MODULE Main; VAR a[1]; "+text+" END."), nil, impl.MaxFuel, want)
	}
}

func TestWhatComesFromOutside(t *testing.T) {
	const lib = "MODULE A; VAR n; PROC none*(); BEGIN OUT 1; END; PROC i*(x); BEGIN OUT x; END; PROC a*(@x); BEGIN OUT LEN x; END;" +
		" PROC mix*(x, @y, z, @w); BEGIN OUT x; OUT LEN y; OUT z; OUT LEN w; END; PROC two*(x, y); BEGIN OUT y; END; END."
	for _, x := range []struct {
		proc int
		args []impl.Arg
		text string
	}{
		{0, nil, "1 call 1 0.0; 3 out 0 1; 3 back 0 1 0; 4 exit"},
		{0, []impl.Arg{anInt(5), anArray(2), anInt(3), anArray(0)}, "1 call 1 0.0 5 @2 3 @0; 3 out 0 1; 3 back 0 1 0; 4 exit"},
		{1, nil, "1 call 1 0.1; 3 out 0 0; 3 back 0 1 0; 4 exit"},
		{1, []impl.Arg{anInt(-7)}, "1 call 1 0.1 -7; 3 out 0 -7; 3 back 0 1 0; 4 exit"},
		{1, []impl.Arg{anInt(4), anArray(3)}, "1 call 1 0.1 4 @3; 3 out 0 4; 3 back 0 1 0; 4 exit"},
		{1, []impl.Arg{anArray(3)}, "1 call 1 0.1 @3; 1 trap 10 by 0"},
		{1, []impl.Arg{anArray(0)}, "1 call 1 0.1 @0; 1 trap 10 by 0"},
		{1, []impl.Arg{anArray(-1), anInt(3)}, "1 call 1 0.1 @0 3; 1 trap 10 by 0"},
		{2, nil, "1 call 1 0.2; 1 trap 10 by 0"},
		{2, []impl.Arg{anInt(3)}, "1 call 1 0.2 3; 1 trap 10 by 0"},
		{2, []impl.Arg{anInt(0)}, "1 call 1 0.2 0; 1 trap 10 by 0"},
		{2, []impl.Arg{anArray(3)}, "1 call 1 0.2 @3; 3 out 0 3; 3 back 0 1 0; 4 exit"},
		{2, []impl.Arg{anArray(0)}, "1 call 1 0.2 @0; 3 out 0 0; 3 back 0 1 0; 4 exit"},
		{2, []impl.Arg{anArray(-1)}, "1 call 1 0.2 @0; 3 out 0 0; 3 back 0 1 0; 4 exit"},
		{2, []impl.Arg{anArray(1)}, "1 call 1 0.2 @1; 3 out 0 1; 3 back 0 1 0; 4 exit"},
		{2, []impl.Arg{anArray(3999)}, "1 call 1 0.2 @3999; 3 out 0 3999; 3 back 0 1 0; 4 exit"},
		{2, []impl.Arg{anArray(4000)}, "1 call 1 0.2 @4000; 3 out 0 4000; 3 back 0 1 0; 4 exit"},
		{2, []impl.Arg{anArray(4001)}, "1 call 1 0.2 @0; 3 out 0 0; 3 back 0 1 0; 4 exit"},
		{2, []impl.Arg{anArray(math.MaxInt32)}, "1 call 1 0.2 @0; 3 out 0 0; 3 back 0 1 0; 4 exit"},
		{2, []impl.Arg{anArray(math.MinInt32)}, "1 call 1 0.2 @0; 3 out 0 0; 3 back 0 1 0; 4 exit"},
		{2, []impl.Arg{anArray(2), anInt(1), anInt(2), anArray(5000)}, "1 call 1 0.2 @2 1 2 @0; 3 out 0 2; 3 back 0 1 0; 4 exit"},
		{3, []impl.Arg{anInt(8), anArray(2), anInt(math.MaxInt32), anArray(4)}, "1 call 1 0.3 8 @2 2147483647 @4; 3 out 0 8; 5 out 0 2; 7 out 0 2147483647; 9 out 0 4; 9 back 0 1 0; 10 exit"},
		{3, []impl.Arg{anInt(8), anArray(2), anInt(1)}, "1 call 1 0.3 8 @2 1; 1 trap 10 by 0"},
		{3, []impl.Arg{anInt(8), anInt(2), anInt(1), anArray(1)}, "1 call 1 0.3 8 2 1 @1; 1 trap 10 by 0"},
		{3, []impl.Arg{anInt(8), anArray(2), anArray(1), anArray(1)}, "1 call 1 0.3 8 @2 @1 @1; 1 trap 10 by 0"},
		{3, []impl.Arg{anArray(8), anArray(2), anInt(1), anArray(1)}, "1 call 1 0.3 @8 @2 1 @1; 1 trap 10 by 0"},
		{4, []impl.Arg{anInt(8)}, "1 call 1 0.4 8; 3 out 0 0; 3 back 0 1 0; 4 exit"},
		{4, []impl.Arg{anInt(8), anInt(9)}, "1 call 1 0.4 8 9; 3 out 0 9; 3 back 0 1 0; 4 exit"},
		{4, []impl.Arg{anInt(8), anArray(9)}, "1 call 1 0.4 8 @9; 1 trap 10 by 0"},
	} {
		w := scripted(world(t, lib, "Main: main"), acCall(0, x.proc, x.args...), acBack(0))
		wantMoments(t, fmt.Sprint(x.proc, x.args), w, nil, x.text)
	}
}

// TestArraysFromOutside are new ones of noughts, at each call and each place.
func TestArraysFromOutside(t *testing.T) {
	w := world(t, "MODULE A; PROC f*(@x, @y, i); BEGIN OUT x[i]; OUT y[i]; x[i] := 5; OUT y[i]; OUT x[i]; END; END.", "Main: main")
	w.Script = []impl.Action{acCall(0, 0, anArray(4000), anArray(4000), anInt(3999)), acCall(0, 0, anArray(2), anArray(1), anInt(0)), acCall(0, 0, anArray(2), anArray(1), anInt(1))}
	wantMoments(t, "arrays", w, nil, "1 call 1 0.0 @4000 @4000 3999; 4 out 0 0; 7 out 0 0; 13 out 0 0; 16 out 0 5; 16 back 0 1 0;"+
		"17 call 1 0.0 @2 @1 0; 20 out 0 0; 23 out 0 0; 29 out 0 0; 32 out 0 5; 32 back 0 1 0;"+
		"33 call 1 0.0 @2 @1 1; 36 out 0 0; 39 trap 5 by 0")
	w.Script = []impl.Action{acCall(0, 0, anArray(0), anArray(-1), anInt(0))}
	wantMoments(t, "of no elements", w, nil, "1 call 1 0.0 @0 @0 0; 4 trap 5 by 0")
}

func TestScripts(t *testing.T) {
	const a = "MODULE A; VAR n; PROC f*(x); BEGIN n := (n + x); RETURN n; END; END."
	const main = "MODULE Main; IMPORT P; VAR n; PROC main*(); VAR i; BEGIN n := (n + 1); i := n; CALL P.p(IN); OUT i; END; PROC g*(x); BEGIN RETURN (x + n); END; END."
	for what, x := range map[string]struct {
		w      impl.World
		script []impl.Action
		text   string
	}{
		"no actions":           {world(t, "Main: main"), nil, "0 fuel"},
		"main that goes back":  {world(t, "Main: main"), []impl.Action{acBack(3)}, "1 exit"},
		"actions left over":    {world(t, "Main: main"), []impl.Action{acBack(3), acOut(1), acTrap(2)}, "1 exit"},
		"main that tells":      {world(t, "Main: main"), []impl.Action{acOut(-4), acOut(9), acBack(3)}, "1 out 0 -4; 2 out 0 9; 3 exit"},
		"main that reads":      {world(t, "Main: main"), []impl.Action{acIn(), acIn(), acIn(), acBack(3)}, "1 in 0 7; 2 in 0 8; 3 in 0 0; 4 exit"},
		"main that traps":      {world(t, "Main: main"), []impl.Action{acOut(1), acTrap(5), acOut(2)}, "1 out 0 1; 2 trap 5 by 0"},
		"a trap of 0":          {world(t, "A: f", "Main: main"), []impl.Action{acTrap(0)}, "1 trap 0 by 1"},
		"a trap below 0":       {world(t, "A: f", "Main: main"), []impl.Action{acCall(0, 0), acTrap(-1 << 31)}, "1 call 1 0.0; 2 trap -2147483648 by 0"},
		"a trap far up":        {world(t, "Main: main"), []impl.Action{acTrap(math.MaxInt32)}, "1 trap 2147483647 by 0"},
		"main that runs out":   {world(t, "Main: main"), []impl.Action{acOut(1), acIn()}, "1 out 0 1; 2 in 0 7; 2 fuel"},
		"calls of a text":      {world(t, a, "Main: main"), []impl.Action{acCall(0, 0, anInt(3)), acCall(0, 0, anInt(4)), acBack(0)}, "1 call 1 0.0 3; 7 back 0 1 3; 8 call 1 0.0 4; 14 back 0 1 7; 15 exit"},
		"runs out in a call":   {world(t, "A: f, g", "Main: main"), []impl.Action{acCall(0, 1, anInt(3)), acOut(2)}, "1 call 1 0.1 3; 2 out 0 2; 2 fuel"},
		"its own N of a call":  {world(t, "A: f", "Main: main"), []impl.Action{{Kind: impl.AcCall, N: 99}, {Kind: impl.AcBack, N: 2, To: 5, Proc: 6, Args: []impl.Arg{anInt(1)}}, {Kind: impl.AcOut, N: 4, To: 5, Proc: 6, Args: []impl.Arg{anInt(1)}}, {Kind: impl.AcIn, N: 4, To: 5, Proc: 6, Args: []impl.Arg{anArray(1)}}, {Kind: impl.AcTrap, N: 8, To: 5, Proc: 6, Args: []impl.Arg{anInt(1)}}}, "1 call 1 0.0; 2 back 0 1 2; 3 out 1 4; 4 in 1 7; 5 trap 8 by 1"},
		"whatever Args":        {world(t, "A: f 0 1", "Main: main"), []impl.Action{acCall(0, 0, anArray(4001), anInt(5), anArray(2)), acBack(1), acBack(0)}, "1 call 1 0.0 @0 5 @2; 2 back 0 1 1; 3 exit"},
		"a call of who calls":  {world(t, "Main: f 0, main"), []impl.Action{acCall(0, 1), acCall(0, 0, anInt(2)), acOut(1), acBack(6), acBack(7), acOut(2), acBack(8)}, "1 call 0 0.1; 2 call 0 0.0 2; 3 out 0 1; 4 back 0 0 6; 5 back 0 0 7; 6 out 0 2; 7 exit"},
		"between two":          {world(t, "A: f", "Main: main"), []impl.Action{acCall(0, 0), acOut(1), acCall(1, 0), acOut(2), acBack(3), acOut(4), acBack(5), acOut(6), acBack(7)}, "1 call 1 0.0; 2 out 0 1; 3 call 0 1.0; 4 out 1 2; 5 back 1 0 3; 6 out 0 4; 7 back 0 1 5; 8 out 1 6; 9 exit"},
		"called by a text":     {world(t, "P: p 0", main), []impl.Action{acOut(4), acBack(2)}, "9 in 1 7; 9 call 1 0.0 7; 10 out 0 4; 11 back 0 1 2; 13 out 1 1; 13 exit"},
		"calls a text again":   {world(t, "P: p 0", main), []impl.Action{acCall(1, 1, anInt(5)), acCall(1, 0), acBack(2), acBack(3)}, "9 in 1 7; 9 call 1 0.0 7; 10 call 0 1.1 5; 14 back 1 0 6; 15 call 0 1.0; 24 in 1 8; 24 call 1 0.0 8; 25 back 0 1 2; 27 out 1 2; 27 back 1 0 0; 28 back 0 1 3; 30 out 1 1; 30 exit"},
		"a text that runs out": {world(t, "P: p 0", main), nil, "9 in 1 7; 9 call 1 0.0 7; 9 fuel"},
		"a text traps in it":   {world(t, "P: p 0", main), []impl.Action{acCall(1, 1, anArray(5))}, "9 in 1 7; 9 call 1 0.0 7; 10 call 0 1.1 @5; 10 trap 10 by 1"},
		"it traps in a text":   {world(t, "P: p 0", main), []impl.Action{acCall(1, 0), acTrap(12)}, "9 in 1 7; 9 call 1 0.0 7; 10 call 0 1.0; 19 in 1 8; 19 call 1 0.0 8; 20 trap 12 by 0"},
	} {
		wantMoments(t, what, scripted(x.w, x.script...), []int{7, 8}, x.text)
	}
}

// TestScriptsThatNobodyDoes: where no module is played, they mean nothing.
func TestScriptsThatNobodyDoes(t *testing.T) {
	w := scripted(plainWorld(t, 2), acOut(1), acTrap(2), acCall(0, 0), acIn(), acBack(1))
	wantMoments(t, "texts alone", w, nil, "3 call 1 0.0; 5 back 0 1 5; 6 exit")
}

// thing is what a name stands for; an int is a list of one.
type thing struct {
	arr bool
	l   []int
}

func intThing(n int) thing { return thing{l: []int{n}} }

func (x thing) text() string {
	if x.arr {
		return fmt.Sprintf("@%d", len(x.l))
	}
	return fmt.Sprint(x.l[0])
}

// mind does a world by the document's words. Where it is over nothing happens
// any more, whatever is still gone through.
type mind struct {
	w       impl.World
	input   []int
	fuel    int
	steps   int
	done    int
	under   int
	vars    []map[string]thing
	moments []moment
	over    bool
}

func momentsByRule(w impl.World, input []int, fuel int) []moment {
	d := mind{w: w, input: input, fuel: fuel}
	for _, m := range w.Mods {
		vars := map[string]thing{}
		for _, v := range m.Vars {
			vars[string(v.Name)] = thing{arr: v.Size > 0, l: make([]int, max(v.Size, 1))}
		}
		d.vars = append(d.vars, vars)
	}
	last := len(w.Mods) - 1
	for i, q := range w.Faces[last].Procs {
		if string(q.Name) == "main" {
			d.called(last, i, nil)
		}
	}
	d.end("exit")
	return d.moments
}

func (d *mind) happens(format string, a ...any) {
	if !d.over {
		d.moments = append(d.moments, moment{d.steps, fmt.Sprintf(format, a...)})
	}
}

func (d *mind) end(format string, a ...any) {
	d.happens(format, a...)
	d.over = true
}

func (d *mind) step() bool {
	if !d.over && d.steps == d.fuel {
		d.end("fuel")
	}
	if !d.over {
		d.steps++
	}
	return !d.over
}

func (d *mind) read(who int) int {
	n := 0
	if len(d.input) > 0 {
		n, d.input = d.input[0], d.input[1:]
	}
	d.happens("in %d %d", who, n)
	return n
}

func (d *mind) cross(from, to, proc int, args []thing) int {
	if d.under == 20 {
		d.end("deep")
	}
	text := fmt.Sprintf("call %d %d.%d", from, to, proc)
	for _, x := range args {
		text += " " + x.text()
	}
	d.happens("%s", text)
	if d.over {
		return 0
	}
	d.under++
	n := d.called(to, proc, args)
	d.under--
	d.happens("back %d %d %d", to, from, n)
	return n
}

func (d *mind) called(who, proc int, args []thing) int {
	if len(d.w.Mods[who].Name) == 0 {
		return d.played(who)
	}
	q := d.procNamed(who, d.w.Faces[who].Procs[proc].Name)
	for i, p := range q.Params {
		if i >= len(args) {
			args = append(args, intThing(0))
		}
		if args[i].arr != p.Arr {
			d.end("trap 10 by %d", who)
		}
	}
	return d.procDone(who, q, args)
}

func (d *mind) procNamed(who int, name []byte) impl.Proc {
	for _, q := range d.w.Mods[who].Procs {
		if string(q.Name) == string(name) {
			return q
		}
	}
	panic("there is none")
}

func (d *mind) procDone(who int, q impl.Proc, args []thing) int {
	own := map[string]thing{}
	for i, p := range q.Params {
		own[string(p.Name)] = args[i]
	}
	for _, name := range q.Locals {
		own[string(name)] = intThing(0)
	}
	for name, x := range d.vars[who] {
		own[name] = x
	}
	n, _ := d.stmts(who, own, q.Body)
	return n
}

func (d *mind) played(who int) int {
	for !d.over {
		if d.done == len(d.w.Script) {
			d.end("fuel")
			break
		}
		if !d.step() {
			break
		}
		a := d.w.Script[d.done]
		d.done++
		switch a.Kind {
		case impl.AcCall:
			var args []thing
			for _, x := range a.Args {
				switch {
				case !x.Arr:
					args = append(args, intThing(x.N))
				case x.N < 0 || x.N > 4000:
					args = append(args, thing{arr: true})
				default:
					args = append(args, thing{true, make([]int, x.N)})
				}
			}
			d.cross(who, a.To, a.Proc, args)
		case impl.AcBack:
			return a.N
		case impl.AcOut:
			d.happens("out %d %d", who, a.N)
		case impl.AcIn:
			d.read(who)
		case impl.AcTrap:
			d.end("trap %d by %d", a.N, who)
		}
	}
	return 0
}

func (d *mind) stmts(who int, own map[string]thing, l []impl.Stmt) (int, bool) {
	for _, s := range l {
		if n, back := d.stmt(who, own, s); back || d.over {
			return n, true
		}
	}
	return 0, false
}

func (d *mind) stmt(who int, own map[string]thing, s impl.Stmt) (int, bool) {
	if !d.step() {
		return 0, true
	}
	if s.Kind == impl.StTrap {
		d.end("trap %d by %d", 11+s.N, who)
		return 0, true
	}
	var kids []int
	for range max(len(s.Kids)-truthByRule(s.Kind == impl.StWhile), 0) {
		kids = append(kids, d.expr(who, own, s.Kids[len(kids)]).l[0])
	}
	if d.over {
		return 0, true
	}
	switch s.Kind {
	case impl.StSet:
		own[string(s.Name)].l[0] = kids[0]
	case impl.StPut:
		if l := own[string(s.Name)].l; kids[0] < 0 || kids[0] >= len(l) {
			d.end("trap 5 by %d", who)
		} else {
			l[kids[0]] = kids[1]
		}
	case impl.StIf:
		if kids[0] == 0 {
			return d.stmts(who, own, s.Else)
		}
		return d.stmts(who, own, s.Body)
	case impl.StWhile:
		for d.expr(who, own, s.Kids[0]).l[0] != 0 && !d.over {
			if n, back := d.stmts(who, own, s.Body); back {
				return n, true
			}
		}
	case impl.StReturn:
		return kids[0], true
	case impl.StOut:
		d.happens("out %d %d", who, kids[0])
	}
	return 0, false
}

func truthByRule(is bool) int {
	if is {
		return 1
	}
	return 0
}

// expr of an int is a list of its own: who sets it sets nothing else.
func (d *mind) expr(who int, own map[string]thing, e impl.Expr) thing {
	if !d.step() {
		return intThing(0)
	}
	var kids []thing
	for _, k := range e.Kids {
		kids = append(kids, d.expr(who, own, k))
	}
	x := own[string(e.Name)]
	if d.over {
		return intThing(0)
	}
	switch e.Kind {
	case impl.ExInt:
		return intThing(e.N)
	case impl.ExVar:
		return intThing(x.l[0])
	case impl.ExIndex:
		if at := kids[0].l[0]; at >= 0 && at < len(x.l) {
			return intThing(x.l[at])
		}
		d.end("trap 5 by %d", who)
	case impl.ExBin:
		n, trap := arithByRule(e.N, kids[0].l[0], kids[1].l[0])
		if trap != 0 {
			d.end("trap %d by %d", trap, who)
		}
		return intThing(n)
	case impl.ExIn:
		return intThing(d.read(who))
	case impl.ExLen:
		return intThing(len(x.l))
	case impl.ExArr:
		return x
	case impl.ExCall:
		return intThing(d.call(who, e, kids))
	}
	return intThing(0)
}

func (d *mind) call(who int, e impl.Expr, args []thing) int {
	if len(e.Mod) == 0 {
		return d.procDone(who, d.procNamed(who, e.Name), args)
	}
	for to, f := range d.w.Faces {
		for i, q := range f.Procs {
			if string(f.Name) == string(e.Mod) && string(q.Name) == string(e.Name) {
				return d.cross(who, to, i, args)
			}
		}
	}
	panic("there is none")
}

func randomFace(r *rand.Rand, name string, last bool) impl.Face {
	f := face(name)
	for _, j := range r.Perm(4)[:r.Intn(4)] {
		q := impl.FaceProc{Name: []byte(strings.Fields("f g p q")[j])}
		for range r.Intn(4) {
			q.Kinds = append(q.Kinds, r.Intn(2))
		}
		f.Procs = append(f.Procs, q)
	}
	if last {
		f.Procs = append(f.Procs, impl.FaceProc{Name: []byte("main")})
	}
	return f
}

// randomText is a module that mostly does something; of the last one main is
// the last procedure.
func randomText(r *rand.Rand, name string, faces []impl.Face, last bool) impl.Module {
	return shapedText(r, name, faces, last, func(impl.Proc) {})
}

// shapedText lets shape change the parameters of each procedure, ahead of its
// body.
func shapedText(r *rand.Rand, name string, faces []impl.Face, last bool, shape func(q impl.Proc)) impl.Module {
	for {
		m := randomModule(r, 20+r.Intn(90))
		m.Name = []byte(name)
		for i := range m.Procs {
			m.Procs[i].Open = r.Intn(4) > 0
			shape(m.Procs[i])
		}
		nodes := 40
		m.Procs = append(m.Procs, impl.Proc{Open: true, Body: append(randomStmts(r, &nodes, 1), randomStmts(r, &nodes, 1)...)})
		m = mended(r, m, faces)
		calm(r, m)
		if last {
			renameProc(m, len(m.Procs)-1, "main")
		}
		if moduleOkByRule(m) {
			return m
		}
	}
}

// calm takes out most of what ends an evaluation soon.
func calm(r *rand.Rand, m impl.Module) {
	for _, q := range m.Procs {
		for _, s := range stmtsOf(q.Body) {
			switch {
			case s.Kind == impl.StTrap && r.Intn(8) > 0:
				*s = stOut(exIn())
			case s.Kind == impl.StReturn && r.Intn(2) == 0:
				s.Kind = impl.StOut
			case s.Kind == impl.StWhile && r.Intn(4) > 0:
				s.Kids[0] = exIn()
			case s.Kind == impl.StPut && r.Intn(6) > 0:
				s.Kids[0] = exInt(r.Intn(2))
			}
			for _, e := range exprsOf(s.Kids) {
				switch {
				case e.Kind == impl.ExIndex && r.Intn(6) > 0:
					e.Kids[0] = exInt(r.Intn(2))
				case e.Kind == impl.ExBin && e.N == impl.ArDiv && r.Intn(4) > 0:
					e.N = impl.ArSub
				}
			}
		}
	}
}

func renameProc(m impl.Module, at int, name string) {
	was := string(m.Procs[at].Name)
	m.Procs[at].Name = []byte(name)
	for _, q := range m.Procs {
		for _, s := range stmtsOf(q.Body) {
			for _, e := range exprsOf(s.Kids) {
				if e.Kind == impl.ExCall && len(e.Mod) == 0 && string(e.Name) == was {
					e.Name = []byte(name)
				}
			}
		}
	}
}

func randomWorld(r *rand.Rand) impl.World {
	var w impl.World
	count := 1 + r.Intn(5)
	for i := range count {
		name := fmt.Sprintf("M%d", i)
		if r.Intn(3) == 0 {
			w.Mods = append(w.Mods, impl.Module{})
			w.Faces = append(w.Faces, randomFace(r, name, i == count-1))
			continue
		}
		m := randomText(r, name, w.Faces, i == count-1)
		w.Mods = append(w.Mods, m)
		w.Faces = append(w.Faces, faceByRule(m))
	}
	w.Script = randomScript(r, w.Faces)
	return w
}

func randomScript(r *rand.Rand, faces []impl.Face) []impl.Action {
	var l []impl.Action
	// Some scripts do hardly anything but call, so that crossings nest.
	kinds := []int{0, 0, 0, 0, 1, 1, 1, 2, 2, 3, 3}
	if r.Intn(4) == 0 {
		kinds = []int{0}
	}
	for range r.Intn(60) {
		a := impl.Action{Kind: kinds[r.Intn(len(kinds))], N: r.Intn(9) - 2}
		if r.Intn(40) == 0 {
			a.Kind = impl.AcTrap
		}
		a.To = r.Intn(len(faces))
		if procs := faces[a.To].Procs; len(procs) == 0 {
			a.Kind = impl.AcOut
		} else {
			a.Proc = r.Intn(len(procs))
			a.Args = randomArgs(r, procs[a.Proc].Kinds)
		}
		l = append(l, a)
	}
	return l
}

func randomArgs(r *rand.Rand, kinds []int) []impl.Arg {
	var args []impl.Arg
	for _, kind := range kinds {
		args = append(args, impl.Arg{Arr: kind == 1, N: []int{0, 1, 2, 3, 8, -1, 4001}[r.Intn(7)]})
	}
	switch r.Intn(8) {
	case 0:
		args = args[:r.Intn(len(args)+1)]
	case 1:
		for len(args) < 1+r.Intn(4) {
			args = append(args, impl.Arg{Arr: r.Intn(2) == 0, N: r.Intn(4)})
		}
	case 2:
		if len(args) > 0 {
			i := r.Intn(len(args))
			args[i].Arr = !args[i].Arr
		}
	}
	return args
}

func randomInput(r *rand.Rand) []int {
	input := make([]int, r.Intn(12))
	for i := range input {
		input[i] = []int{0, 1, 2, 3, -1, 100, math.MaxInt32, math.MinInt32}[r.Intn(8)]
	}
	return input
}

// TestEvalByRule holds worlds of all sorts against the mind, with fuel on both
// sides of what they need.
func TestEvalByRule(t *testing.T) {
	r := rand.New(rand.NewSource(81))
	ends, kinds := map[string]int{}, map[string]int{}
	const most = 600
	for i := range 2500 {
		w, input := randomWorld(r), randomInput(r)
		l := momentsByRule(w, input, most)
		end := l[len(l)-1]
		name, _, _ := strings.Cut(end.text, " by")
		ends[name]++
		for _, m := range l {
			kind, _, _ := strings.Cut(m.text, " ")
			kinds[kind]++
		}
		for _, fuel := range []int{0, r.Intn(30), r.Intn(end.steps + 1), end.steps - 1, end.steps, end.steps + 1, most} {
			if fuel = min(max(fuel, 0), most); outcomeText(impl.Eval(w, input, fuel)) != outcomeByMoments(l, fuel) {
				wantOutcome(t, fmt.Sprint("world ", i), w, input, fuel, outcomeByMoments(l, fuel))
				t.FailNow()
			}
		}
	}
	for _, name := range []string{"exit", "fuel", "deep", "trap 5", "trap 6", "trap 10"} {
		if ends[name] < 12 {
			t.Errorf("only %d ended with %s: %v", ends[name], name, ends)
		}
	}
	for _, kind := range []string{"call", "back", "out", "in"} {
		if kinds[kind] < 1500 {
			t.Errorf("only %d times %s", kinds[kind], kind)
		}
	}
}

// TestMoreFuel holds promise 9.
func TestMoreFuel(t *testing.T) {
	r := rand.New(rand.NewSource(82))
	for range 1500 {
		w, input := randomWorld(r), randomInput(r)
		less := r.Intn(200)
		one, more := impl.Eval(w, input, less), impl.Eval(w, input, less+r.Intn(400))
		if one.Steps > less || len(one.Events) > len(more.Events) {
			t.Fatalf("fuel %d: %v", less, one)
		}
		was := more
		was.Events = more.Events[:len(one.Events)]
		if one.End == impl.EndFuel {
			was.End, was.Code, was.Who, was.Steps = one.End, one.Code, one.Who, one.Steps
			if more.Steps < one.Steps {
				t.Fatalf("with more fuel fewer steps: %v, %v", one, more)
			}
		} else {
			was.Events = more.Events
		}
		if outcomeText(one) != outcomeText(was) {
			t.Fatalf("with fuel %d\n%s, with more\n%s", less, outcomeText(one), outcomeText(more))
		}
		noughts := append(slices.Clone(input), make([]int, r.Intn(impl.MaxInput-len(input)+1))...)
		if got := impl.Eval(w, noughts, less); outcomeText(got) != outcomeText(one) {
			t.Fatalf("with noughts behind the input\n%s, without\n%s", outcomeText(got), outcomeText(one))
		}
	}
}

func TestNoughtsBehindTheInput(t *testing.T) {
	w := world(t, mainText("WHILE (i < 5) DO OUT IN; i := (i + 1); END;"))
	want := outcomeText(impl.Eval(w, []int{4, 5}, 1000))
	for count := range impl.MaxInput - 1 {
		if got := outcomeText(impl.Eval(w, append([]int{4, 5}, make([]int, count)...), 1000)); got != want {
			t.Errorf("%d noughts: %s", count, got)
		}
	}
	wantNothing(t, "one nought too many", w, append([]int{4, 5}, make([]int, impl.MaxInput-1)...), 1000)
}

func worldOkByRule(w impl.World) bool {
	if len(w.Mods) < 1 || len(w.Mods) > 8 || len(w.Faces) != len(w.Mods) || len(w.Script) > 2000 {
		return false
	}
	for i, f := range w.Faces {
		if !faceOkByRule(f) {
			return false
		}
		for _, other := range w.Faces[:i] {
			if string(other.Name) == string(f.Name) {
				return false
			}
		}
		m := w.Mods[i]
		if len(m.Name) > 0 && (checkByRule(m, w.Faces[:i]) != impl.CheckWell || !sameFace(faceByRule(m), f)) {
			return false
		}
	}
	for _, a := range w.Script {
		for _, n := range append([]impl.Arg{{N: a.N}}, a.Args...) {
			if n.N < math.MinInt32 || n.N > math.MaxInt32 {
				return false
			}
		}
		if a.Kind < 0 || a.Kind > 4 || len(a.Args) > 4 ||
			a.Kind == 0 && (a.To < 0 || a.To >= len(w.Faces) || a.Proc < 0 || a.Proc >= len(w.Faces[a.To].Procs)) {
			return false
		}
	}
	return slices.ContainsFunc(w.Faces[len(w.Faces)-1].Procs, func(q impl.FaceProc) bool {
		return string(q.Name) == "main" && len(q.Kinds) == 0
	})
}

// spoilWorld changes something at random.
func spoilWorld(r *rand.Rand, w *impl.World) {
	at := r.Intn(len(w.Mods))
	switch r.Intn(8) {
	case 0:
		if len(w.Mods[at].Name) > 0 {
			spoilOne(r, &w.Mods[at], &w.Faces)
		}
	case 1:
		w.Faces[at] = randomFace(r, string(pick(r, "M0 M1 M2 M3 M4 m1")), r.Intn(2) == 0)
	case 2:
		w.Mods[at].Name = nil
	case 3:
		other := r.Intn(len(w.Mods))
		w.Mods[at], w.Mods[other] = w.Mods[other], w.Mods[at]
		if r.Intn(2) == 0 {
			w.Faces[at], w.Faces[other] = w.Faces[other], w.Faces[at]
		}
	case 4:
		w.Mods, w.Faces = w.Mods[:at], w.Faces[:at]
	case 5, 6:
		if len(w.Script) == 0 {
			return
		}
		a := &w.Script[r.Intn(len(w.Script))]
		a.Kind, a.To, a.Proc, a.N = r.Intn(7)-1, r.Intn(7)-1, r.Intn(7)-1, a.N<<r.Intn(40)
		a.Args = append(a.Args, impl.Arg{N: 1 << r.Intn(34)})
	case 7:
		w.Mods = append(w.Mods, impl.Module{})
		w.Faces = append(w.Faces, randomFace(r, "Last", r.Intn(2) == 0))
	}
}

func TestWorldOkByRule(t *testing.T) {
	r := rand.New(rand.NewSource(83))
	told := map[bool]int{}
	for range 1200 {
		w := randomWorld(r)
		if r.Intn(5) > 0 {
			spoilWorld(r, &w)
		}
		want := worldOkByRule(w)
		told[want]++
		if impl.WorldOk(w) != want {
			t.Fatalf("WorldOk(%v) = %v", w, !want)
		}
		o := impl.Eval(w, nil, 50)
		if (o.End != impl.EndRefused) != want {
			t.Fatalf("Eval(%v) = %v", w, o)
		}
		if want && outcomeText(o) != outcomeByMoments(momentsByRule(w, nil, 50), 50) {
			t.Fatalf("Eval(%v) = %v", w, o)
		}
	}
	if told[true] < 200 || told[false] < 200 {
		t.Error(told)
	}
}

func (w *watcher) world(x impl.World) impl.World {
	mods := slices.Clone(x.Mods)
	for i := range mods {
		mods[i] = w.module(mods[i])
	}
	script := slices.Clone(x.Script)
	for i, a := range script {
		script[i].Args = widened(w, a.Args, anArray(3), anInt(5))
	}
	return impl.World{
		Mods:   widened(w, mods, impl.Module{Name: []byte("Room")}),
		Faces:  w.faces(x.Faces),
		Script: widened(w, script, acBack(77), acTrap(78), impl.Action{Kind: -1}),
	}
}

func TestWorldsHandedInStay(t *testing.T) {
	r := rand.New(rand.NewSource(84))
	for i := range 400 {
		x, numbers := randomWorld(r), randomInput(r)
		if i%4 == 0 {
			spoilWorld(r, &x)
		}
		var w watcher
		wide, input := w.world(x), widened(&w, numbers, 99, -1)
		if impl.WorldOk(wide) != impl.WorldOk(x) {
			t.Fatal("WorldOk looks behind a list's length")
		}
		fuel := r.Intn(300)
		want := outcomeText(impl.Eval(x, numbers, fuel))
		for range 2 {
			if got := outcomeText(impl.Eval(wide, input, fuel)); got != want {
				t.Fatalf("%s, want\n%s: Eval looks behind a list's length, or keeps something", got, want)
			}
		}
		if !w.asItWas() {
			t.Fatal("what was handed in has changed")
		}
	}
}

func TestEvalSharesNothing(t *testing.T) {
	r := rand.New(rand.NewSource(85))
	args := 0
	for range 400 {
		x, input := randomWorld(r), randomInput(r)
		var w watcher
		wide := w.world(x)
		one, other := impl.Eval(wide, input, 200), impl.Eval(wide, input, 200)
		want := outcomeText(one)
		fillRoom(one.Events)
		for i := range one.Events {
			fillRoom(one.Events[i].Args)
		}
		if outcomeText(one) != want {
			t.Fatal("what lies behind a list of the answer is another list")
		}
		for i := range one.Events {
			for j := range one.Events[i].Args {
				one.Events[i].Args[j].N += 1000 * (i + 1)
				args++
			}
		}
		for i := range one.Events {
			for j := range one.Events[i].Args {
				one.Events[i].Args[j].N -= 1000 * (i + 1)
			}
		}
		if outcomeText(one) != want {
			t.Fatal("two lists of one answer share memory")
		}
		for i := range one.Events {
			for j := range one.Events[i].Args {
				one.Events[i].Args[j].N = 5555
			}
			one.Events[i].N, one.Events[i].Kind = 5555, 9
		}
		if outcomeText(other) != want || !w.asItWas() {
			t.Fatal("an answer shares memory with another one, or with the world")
		}
	}
	if args < 500 {
		t.Errorf("only %d Args", args)
	}
}
