package tests

import (
	"fmt"
	"math/rand"
	"slices"
	"strings"
	"testing"

	"loop.example/g00335/impl"
)

// unmeant tells how promise 11 does not hold of what happened; "" where it does.
func unmeant(r impl.Result, means impl.Outcome, fuel int) string {
	switch {
	case r.End == impl.EndRefused || means.End == impl.EndRefused:
		return "it does not run"
	case len(r.Events) > len(means.Events) || !slices.EqualFunc(r.Events, means.Events[:len(r.Events)], sameEvent):
		return "it is no beginning"
	case fuel > 4000 || r.End == impl.EndFuel || r.End == impl.EndTrap && r.Code == impl.TrapStack:
		return ""
	case r.End != means.End || r.Code != means.Code || r.Who != means.Who || len(r.Events) != len(means.Events):
		return "it means another end"
	}
	return ""
}

// meant is a program of texts alone, with an input and what it means.
type meant struct {
	program
	input []int
	means impl.Outcome
}

func meantBy(p program, input []int) meant {
	return meant{program: p, input: input, means: impl.Eval(p.world, input, impl.MaxFuel)}
}

func wantPromise11(t *testing.T, p meant, fuel int) impl.Result {
	t.Helper()
	r := impl.RunParts(p.parts, p.input, fuel)
	if told := unmeant(r, p.means, fuel); told != "" {
		t.Fatalf("with input %v and fuel %d\n%s: %s of\n%s\n%s", p.input, fuel, outcomeText(outcomeOf(r)), told, outcomeText(p.means), p.text())
	}
	return r
}

const (
	arrays = "MODULE A; VAR n; PROC fill*(@v, x); VAR i; BEGIN WHILE (i < LEN v) DO v[i] := (x + i); i := (i + 1); END; n := (n + 1); RETURN i; END;" +
		" PROC get*(@v, i); BEGIN RETURN v[i]; END; PROC put*(@v, i, x); BEGIN v[i] := x; END;" +
		" PROC both*(@v, @w); BEGIN v[0] := 5; OUT w[0]; w[1] := 6; RETURN v[1]; END; PROC count*(); BEGIN RETURN n; END; END."
	between = "MODULE B; IMPORT A; VAR b[2]; PROC own(@v); BEGIN RETURN (A.get(@v, 0) + A.get(@b, 1)); END;" +
		" PROC on*(@v, x); BEGIN OUT A.fill(@v, x); CALL A.put(@b, 1, 100); RETURN own(@v); END; END."
)

func arraysMain(body string) string {
	return "MODULE M; IMPORT A; IMPORT B; VAR a[3]; VAR c[20]; VAR d[1]; PROC deep(x); BEGIN RETURN (deep((x + 1)) + 1); END;" +
		" PROC loud(x); VAR i; VAR j; VAR k; BEGIN OUT x; CALL A.count(); RETURN loud((x + 1)); END; PROC main*(); VAR i; BEGIN " + body + " END; END."
}

// textForms: what main does, input, and what happens, by hand. EndDeep is no
// end of these: texts call those ahead alone, and there are at most MaxMods.
var textForms = []struct {
	body  string
	input []int
	want  string
}{
	{"", nil, "exit: "},
	{"OUT A.fill(@a, 10); OUT a[2];", nil, "exit: call 2 0.0 @3 10; back 0 2 3; out 2 3; out 2 12"},
	{"CALL A.fill(@c, IN); OUT (c[19] - c[0]);", []int{-4, 9}, "exit: in 2 -4; call 2 0.0 @20 -4; back 0 2 20; out 2 19"},
	{"a[1] := 8; OUT A.get(@a, 1); CALL A.put(@a, 1, 9); OUT a[1]; OUT A.count();", nil,
		"exit: call 2 0.1 @3 1; back 0 2 8; out 2 8; call 2 0.2 @3 1 9; back 0 2 0; out 2 9; call 2 0.4; back 0 2 0; out 2 0"},
	{"OUT B.on(@a, 7); OUT a[2]; OUT A.count();", nil,
		"exit: call 2 1.0 @3 7; call 1 0.0 @3 7; back 0 1 3; out 1 3; call 1 0.2 @2 1 100; back 0 1 0; call 1 0.1 @3 0; back 0 1 7;" +
			" call 1 0.1 @2 1; back 0 1 100; back 1 2 107; out 2 107; out 2 9; call 2 0.4; back 0 2 1; out 2 1"},
	{"OUT A.both(@a, @a); OUT a[0]; OUT A.both(@a, @c); OUT (a[1] + c[1]);", nil,
		"exit: call 2 0.3 @3 @3; out 0 5; back 0 2 6; out 2 6; out 2 5; call 2 0.3 @3 @20; out 0 0; back 0 2 6; out 2 6; out 2 12"},
	// traps, of who is called and of main
	{"OUT 1; OUT A.get(@a, 3);", nil, "trap 5 by 0: out 2 1; call 2 0.1 @3 3"},
	{"OUT A.get(@a, -1);", nil, "trap 5 by 0: call 2 0.1 @3 -1"},
	{"OUT A.get(@d, 0); OUT A.get(@d, 1);", nil, "trap 5 by 0: call 2 0.1 @1 0; back 0 2 0; out 2 0; call 2 0.1 @1 1"},
	{"CALL A.put(@a, 20, 1);", nil, "trap 5 by 0: call 2 0.2 @3 20 1"},
	{"OUT A.both(@a, @d);", nil, "trap 5 by 0: call 2 0.3 @3 @1; out 0 0"},
	{"a[IN] := A.count();", []int{3}, "trap 5 by 2: in 2 3; call 2 0.4; back 0 2 0"},
	{"OUT (1 / A.count());", nil, "trap 6 by 2: call 2 0.4; back 0 2 0"},
	{"OUT (-2147483648 / -1); OUT (2147483647 + 1); OUT (7 / 0);", nil, "trap 6 by 2: out 2 -2147483648; out 2 -2147483648"},
	{"TRAP 0; OUT 1;", nil, "trap 11 by 2: "},
	{"OUT IN; TRAP 99;", []int{5}, "trap 110 by 2: in 2 5; out 2 5"},
	{"IF IN THEN TRAP 1; ELSE TRAP 2; END;", nil, "trap 13 by 2: in 2 0"},
	// what does not end: the stack does, and the fuel
	{"OUT 1; OUT deep(0);", nil, "trap 7 by 2: out 2 1"},
	{"WHILE 1 DO END;", nil, "fuel: "},
	{"OUT 4; WHILE (i < 1) DO i := 0; END;", nil, "fuel: out 2 4"},
}

// Texts alone, at every fuel up to what they need, and at the most there is.
func TestTextsAlone(t *testing.T) {
	t.Parallel()
	for _, form := range textForms {
		p := meantBy(programOf(t, arrays, between, arraysMain(form.body)), form.input)
		r := wantPromise11(t, p, 4000)
		wantSame(t, form.body, stepless(r), form.want)
		for fuel := range min(r.Steps+2, 200) {
			wantPromise11(t, p, fuel)
		}
		if r.End == impl.EndFuel {
			wantSame(t, form.body, stepless(wantPromise11(t, p, impl.MaxFuel)), form.want)
		}
	}
	// Each trap of TRAP, by who is called.
	for n := range 100 {
		p := programOf(t, fmt.Sprintf("MODULE A; PROC f*(@v); BEGIN TRAP %d; END; END.", n), "MODULE M; IMPORT A; VAR a[2]; PROC main*(); BEGIN CALL A.f(@a); END; END.")
		wantSame(t, fmt.Sprint("TRAP ", n), stepless(wantPromise11(t, meantBy(p, nil), 4000)), fmt.Sprintf("trap %d by 0: call 1 0.0 @2", 11+n))
	}
}

// The stack ends sooner than what is meant, behind some of its events.
func TestTextsWithoutRoom(t *testing.T) {
	p := meantBy(programOf(t, arrays, between, arraysMain("OUT loud(1);")), nil)
	r := wantPromise11(t, p, 4000)
	if r.End != impl.EndTrap || r.Code != impl.TrapStack || len(r.Events) < 100 || p.means.End != impl.EndFuel || len(p.means.Events) <= len(r.Events) {
		t.Errorf("%s behind %d events of %d", endText(outcomeOf(r)), len(r.Events), len(p.means.Events))
	}
	for fuel := r.Steps; fuel > 0; fuel -= 97 {
		wantPromise11(t, p, fuel)
	}
	// More fuel than 4000, and what ends there.
	p = meantBy(programOf(t, "MODULE M; VAR a[5]; PROC main*(); VAR i; BEGIN WHILE (i < 2000) DO a[(i - ((i / 5) * 5))] := i; OUT i; i := (i + 1); END; TRAP 4; END; END."), nil)
	if r = wantPromise11(t, p, impl.MaxFuel); r.Code != 15 || len(r.Events) != 2000 || r.Steps < 4000 {
		t.Errorf("%s behind %d events", endText(outcomeOf(r)), len(r.Events))
	}
	for fuel := 0; fuel < r.Steps; fuel += 2500 {
		wantPromise11(t, p, fuel)
	}
}

// Seven crossings, as many as texts can have under way, with an array that goes
// all the way.
func TestTextsOneBehindTheOther(t *testing.T) {
	l := []string{"MODULE M0; PROC f*(@v, x); BEGIN v[1] := x; OUT LEN v; RETURN (x * 2); END; END."}
	want, back := "", "out 0 3; "
	for i := 1; i < 8; i++ {
		l = append(l, fmt.Sprintf("MODULE M%d; IMPORT M%d; VAR a[3]; PROC f*(@v, x); BEGIN RETURN M%d.f(@v, (x + 1)); END;"+
			" PROC main*(); BEGIN OUT M%d.f(@a, 1); OUT a[1]; END; END.", i, i-1, i-1, i-1))
		want += fmt.Sprintf("call %d %d.0 @3 %d; ", 8-i, 7-i, i)
		back += fmt.Sprintf("back %d %d 14; ", i-1, i)
	}
	r := wantPromise11(t, meantBy(programOf(t, l...), nil), 4000)
	wantSame(t, "seven crossings", stepless(r), "exit: "+want+back+"out 7 14; out 7 7")
}

func randomTexts(r *rand.Rand) program {
	var p program
	count := 1 + r.Intn(8)
	for len(p.objs) < count {
		p.addText(randomText(r, fmt.Sprintf("M%d", len(p.objs)), p.world.Faces, len(p.objs) == count-1))
	}
	return p
}

func TestPromise11(t *testing.T) {
	t.Parallel()
	r := rand.New(rand.NewSource(131))
	ends, crossed, handed := map[string]int{}, 0, 0
	for range 400 {
		p := meantBy(randomTexts(r), randomInput(r))
		got := wantPromise11(t, p, 4000)
		wantPromise11(t, p, r.Intn(got.Steps+1))
		ends[fmt.Sprintf("%d %d", got.End, min(got.Code, impl.TrapUser))]++
		for _, e := range got.Events {
			crossed += truthByRule(e.Kind == impl.EvCall)
			for _, a := range e.Args {
				handed += truthByRule(a.Arr)
			}
		}
	}
	for end, least := range map[string]int{"1 0": 150, "3 0": 10, "2 5": 20, "2 6": 3, "2 7": 5, "2 11": 10} {
		if ends[end] < least {
			t.Errorf("only %d ended with %s: %v", ends[end], end, ends)
		}
	}
	if crossed < 300 || handed < 100 {
		t.Errorf("%d crossings, %d arrays", crossed, handed)
	}
}

// leadsInto tells whether w is a way to one of these places.
func leadsInto(w impl.Word, lo, hi int) bool {
	return w.Tag && w.Seal == 0 && max(w.Lo, lo) < min(w.Hi, hi)
}

// reached tells how promise 13 does not hold at the end of a run; "" where it
// does.
func (p program) reached(r impl.Result) string {
	image, _ := imageByRule(p.objs)
	for text, region := range image.Mods {
		if p.wild[text] {
			continue
		}
		for at := region.Lo; at < region.Hi; at++ {
			if (r.Wrote[at]|r.Read[at])&^(1<<text) != 0 {
				return fmt.Sprintf("the word %d of %d is stored by %b and loaded by %b", at, text, r.Wrote[at], r.Read[at])
			}
		}
		for who, other := range image.Mods {
			holds := slices.Clone(r.Words[other.Lo:other.Hi])
			if who == r.Mod {
				holds = slices.Concat(holds, r.Regs, r.Words[r.Low:impl.StackWords])
			}
			for _, w := range holds {
				if p.wild[who] && leadsInto(w, region.Lo, region.Hi) {
					return fmt.Sprintf("%d holds %s, a way to the data of %d", who, wordText(w), text)
				}
			}
		}
	}
	return ""
}

func wantPromise13(t *testing.T, p program, input []int, fuel int) impl.Result {
	t.Helper()
	r := impl.RunParts(p.parts, input, fuel)
	if r.End == impl.EndRefused {
		t.Fatalf("it does not run:\n%s", p.text())
	}
	if told := p.reached(r); told != "" {
		t.Fatalf("with input %v and fuel %d: %s\n%s\n%s", input, fuel, told, stateText(p.objs, r), p.text())
	}
	return r
}

// vault keeps a word and an array, and lets ways to its array lie about in its
// frames and registers. Its data are 600 .. 603.
const vault = "MODULE A; VAR n; VAR a[3]; PROC own(@v, x); VAR i; BEGIN i := x; v[1] := x; n := (v[1] + LEN v); RETURN v[0]; END;" +
	" PROC keep*(x); BEGIN CALL own(@a, x); RETURN own(@a, (x + 1)); END; PROC has*(); BEGIN RETURN n; END; END."

// thieves: what W does to get at the data of the vault, its own being 604 (the
// entries of A.keep and A.has) .. 608, and how it ends.
var thieves = map[string]string{
	"load A0 B6 N-1":                                  "trap 2 by 1: ",
	"store A0 B6 N-4":                                 "trap 2 by 1: ",
	"load A0 B7 N600":                                 "trap 2 by 1: ",
	"store A0 B7 N603":                                "trap 2 by 1: ",
	"int A1 N-1; loadat A0 B6 C1":                     "trap 2 by 1: ",
	"int A1 N-4; storeat A0 B6 C1":                    "trap 2 by 1: ",
	"shift A1 B6 N-4; load A0 B1":                     "trap 2 by 1: ",
	"shift A1 B7 N600; store A0 B1":                   "trap 2 by 1: ",
	"part A1 B6 N-4 M4":                               "trap 2 by 1: ",
	"part A1 B7 N600 M4":                              "trap 2 by 1: ",
	"shift A1 B6 N-4; part A1 B1 M4":                  "trap 2 by 1: ",
	"shift A1 B6 N-4; store A1 B6 N2; store A1 B6 N3": "exit: out 1 0; call 1 0.1; back 0 1 0; out 1 0",
	"int A1 N600; load A0 B1":                         "trap 1 by 1: ",
	"int A6 N600; load A0 B6 N1":                      "trap 1 by 1: ",
	"load A1 B6; load A0 B1":                          "trap 1 by 1: ",
	"load A1 B6; store A0 B1":                         "trap 1 by 1: ",
	"load A1 B6; part A0 B1 M1":                       "trap 1 by 1: ",
	"load A1 B6; shift A0 B1 N1":                      "trap 1 by 1: ",
	"load A1 B6; len A0 B1":                           "trap 1 by 1: ",
	"load A1 B6; index A1 B0":                         "trap 1 by 1: ",
	"load A1 B6; arr A1":                              "trap 10 by 1: ",
	"load A1 B6; arith A0 B1 C1":                      "trap 8 by 1: ",
	// what is handed over or back is an int, or refused
	"int A0 N7; load A4 B6; cross A4 M1; out A0; load A1 B7 N2; out A1; load A1 B7 N7; out A1": "exit: call 1 0.0 7; back 0 1 0; out 1 0; out 1 0; out 1 0; out 1 0; call 1 0.1; back 0 1 11; out 1 11",
	"copy A0 B6; load A4 B6; cross A4 M1":                                                      "trap 10 by 0: call 1 0.0 @5",
	"load A0 B6 N1; load A4 B6; cross A4 M1":                                                   "trap 10 by 0: call 1 0.0 @0",
	"copy A1 B7; copy A2 B6; load A4 B6; cross A4 M4":                                          "exit: call 1 0.0 0 @600 @5 0; back 0 1 0; out 1 0; call 1 0.1; back 0 1 4; out 1 4",
	"copy A7 B6; load A4 B6; cross A4 N1":                                                      "trap 7 by 1: ",
	"shift A7 B7 N-3; load A4 B6; cross A4 N2":                                                 "trap 7 by 1: ",
	"part A7 B7 N590 M10; load A4 B6; cross A4 N6":                                             "trap 7 by 0: call 1 0.0",
	"shift A7 B6 N-604; load A4 B6; cross A4 N5":                                               "exit: call 1 0.0; back 0 1 0; out 1 0; call 1 0.1; back 0 1 4; out 1 4",
	"load A4 B6; cross A4; store A1 B6 N2; store A2 B6 N3":                                     "exit: call 1 0.0; back 0 1 0; out 1 0; call 1 0.1; back 0 1 4; out 1 4",
}

func TestThieves(t *testing.T) {
	for does, want := range thieves {
		p := programOf(t, vault, "W 3 | main | A.keep, A.has # "+does+"; out A0; load A4 B6 N1; cross A4; out A0; back")
		r := wantPromise13(t, p, nil, 2000)
		wantSame(t, does, stepless(r), want)
		for fuel := range r.Steps {
			wantPromise13(t, p, nil, fuel)
			wantPromise12(t, p, nil, fuel)
		}
	}
	// A thief that a text calls, with data on both sides of it.
	for does := range thieves {
		p := programOf(t, vault, "W 3 | f 0 | A.keep, A.has # f: "+does+"; back",
			"MODULE M; IMPORT W; VAR s; VAR b[4]; PROC in(@v); BEGIN v[3] := 9; RETURN W.f(v[3]); END; PROC main*(); BEGIN s := 8; OUT in(@b); OUT b[3]; OUT s; END; END.")
		r := wantPromise13(t, p, nil, 2000)
		for fuel := range r.Steps + 1 {
			wantPromise13(t, p, nil, fuel)
			wantPromise12(t, p, nil, fuel)
		}
		if r.End == impl.EndExit && (r.Events[len(r.Events)-1].N != 8 || r.Events[len(r.Events)-2].N != 9) {
			t.Errorf("%s: %s", does, stepless(r))
		}
	}
}

// An array that is handed over is a way: then another part may reach it. So the
// promise is of parts between which none go, and what tells it broken works.
func TestArraysThatAreHandedOver(t *testing.T) {
	const text = "MODULE M; IMPORT W; VAR n; VAR a[3]; PROC main*(); BEGIN OUT W.f(@a); OUT a[1]; END; END."
	for does, told := range map[string]string{
		"load A1 B0 N1; back":                      "the word 604 of 1 is stored by 0 and loaded by 11",
		"int A1 N5; store A1 B0 N1; back":          "the word 604 of 1 is stored by 1 and loaded by 10",
		"num A1; trap":                             "0 holds 603..606@603/3, a way to the data of 1",
		"store A0 B7; int A0; trap":                "0 holds 603..606@603/3, a way to the data of 1",
		"back":                                     "",
		"len A0 B0; back":                          "",
		"store A0 B7; int A0; load A0 B7 N1; back": "",
	} {
		p := programOf(t, "W 1 | f 1 # f: "+does, text)
		r := impl.RunParts(p.parts, nil, 500)
		wantSame(t, does, p.reached(r), told)
	}
}

// nosyCode looks at all that it can get at, tells it and keeps it.
func nosyCode(r *rand.Rand, own, data int) []byte {
	var l []impl.Ins
	for range 4 + r.Intn(14) {
		reg, word := r.Intn(6), r.Intn(40)
		switch r.Intn(10) {
		case 0, 1:
			l = append(l, impl.Ins{Op: impl.InLoad, A: reg, B: 7, N: word}, impl.Ins{Op: impl.InOut, A: reg})
		case 2:
			l = append(l, impl.Ins{Op: impl.InOut, A: reg})
		case 3:
			l = append(l, impl.Ins{Op: impl.InStore, A: reg, B: 7, N: word})
		case 4:
			l = append(l, impl.Ins{Op: impl.InLoad, A: reg, B: 7, N: word})
		case 5:
			if data > 0 {
				reg = oneOf(r, []int{reg, reg, reg, 6})
				l = append(l, impl.Ins{Op: oneOf(r, []int{impl.InStore, impl.InStore, impl.InLoad}), A: reg, B: 6, N: own + r.Intn(data)})
			}
		case 6:
			l = append(l, calmIns(r, own, data, len(l))...)
		case 7:
			if own > 0 {
				l = append(l, impl.Ins{Op: impl.InCopy, A: 2, B: 6 + r.Intn(2)}, impl.Ins{Op: impl.InCopy, A: 3, B: r.Intn(8)},
					impl.Ins{Op: impl.InLoad, A: 4, B: 6, N: r.Intn(own)}, impl.Ins{Op: impl.InCross, A: 4, N: word, M: 4})
			}
		default:
			if own > 0 {
				l = append(l, politeCall(r, own)...)
			}
		}
	}
	b, _ := impl.Encode(append(l, impl.Ins{Op: impl.InBack}))
	return b
}

// nosyProgram has at least one text, which stands at place; others are texts,
// and objects that are mostly nosy.
func nosyProgram(r *rand.Rand, text func(name string, faces []impl.Face, last bool) impl.Module) (p program, place int) {
	count := 2 + r.Intn(4)
	place = r.Intn(count)
	for len(p.objs) < count {
		name, last := fmt.Sprintf("M%d", len(p.objs)), len(p.objs) == count-1
		switch {
		case len(p.objs) == place:
			p.addText(text(name, p.world.Faces, last))
		case r.Intn(4) == 0:
			p.addText(shapedText(r, name, p.world.Faces, last, intsAlone))
		default:
			o, f := randomWildObject(r, name, p.world.Faces, last)
			if r.Intn(6) > 0 {
				o.Code = nosyCode(r, len(o.Imports), o.Data)
			}
			p.addWild(o, f)
		}
	}
	return p, place
}

func TestPromise13(t *testing.T) {
	t.Parallel()
	r := rand.New(rand.NewSource(132))
	used, beside, inside := 0, 0, 0
	for range 1000 {
		p, _ := nosyProgram(r, func(name string, faces []impl.Face, last bool) impl.Module {
			return shapedText(r, name, faces, last, intsAlone)
		})
		input := randomInput(r)
		got := wantPromise13(t, p, input, 3000)
		wantPromise13(t, p, input, r.Intn(got.Steps+1))
		image, _ := imageByRule(p.objs)
		for who, region := range image.Mods {
			for at := region.Lo; at < region.Hi; at++ {
				used += truthByRule(!p.wild[who] && got.Wrote[at] != 0 && at >= region.Lo+region.Own)
				beside += truthByRule(p.wild[who] && got.Words[at].Tag && got.Words[at].Seal == 0)
			}
		}
		inside += truthByRule(p.wild[got.Mod])
	}
	if used < 300 || beside < 20 || inside < 250 {
		t.Errorf("%d words of texts stored, %d ways kept, %d ends of objects", used, beside, inside)
	}
}

// spy tells its registers 0 to 5, and the sum of the squares of 60 words of its
// stack: nothing but zero words gives 0 there, and a word with Tag is a trap.
const spy = "out A0; out A1; out A2; out A3; out A4; out A5; int A3; int A1; again: loadat A2 B7 C1; arith A2 B2 C2 N2; arith A3 B3 C2;" +
	" int A2 N1; arith A1 B1 C2; int A2 N60; arith A2 B1 C2 N4; if A2 =done; jump =again; done: out A3"

// secretive keeps a number, and leaves it in its data, its frames and its
// registers, but tells it nobody.
func secretive(secret int) string {
	return fmt.Sprintf("MODULE A; IMPORT W; VAR s; VAR a[4]; PROC mix(@v, x); VAR i; VAR j; BEGIN i := (x * (s + %d)); v[1] := i; j := ((i + v[1]) + (s - i)); s := (s + j); RETURN (j + s); END;"+
		" PROC keep*(x); VAR k; BEGIN s := %d; k := mix(@a, s); CALL mix(@a, k); a[0] := (k + (s * 3)); RETURN (x + 1); END;"+
		" PROC ask*(x); VAR k; VAR l; BEGIN k := (s + %d); l := mix(@a, (k + s)); OUT W.f((x + 2)); s := (k + l); a[2] := (s + W.f(x)); END; END.", secret, secret, secret)
}

var secrets = []int{0, 1, 2, -1, 77, 1 << 20, -2147483648, 2147483647}

// What W, V and M do, who have a part in it all, is the same whatever A keeps.
func TestSecrets(t *testing.T) {
	outs := func(who, first int) string {
		return fmt.Sprintf("out %d %d; ", who, first) + strings.Repeat(fmt.Sprintf("out %d 0; ", who), 6)
	}
	var states []string
	for _, secret := range secrets {
		p := programOf(t,
			"W 2 | f 0 # f: "+spy+"; int A0 N40; back", secretive(secret),
			"V 2 | main | A.keep, A.ask # int A0 N5; load A4 B6; cross A4 N7 M1; "+spy+"; int A0 N6; load A4 B6 N1; cross A4 M1; store A0 B6 N2; store A3 B6 N3; trap")
		r := wantPromise13(t, p, nil, 5000)
		wantSame(t, fmt.Sprint(secret), stepless(r), "trap 11 by 2: call 2 1.0 5; back 1 2 6; "+outs(2, 6)+"call 2 1.1 6; call 1 0.0 8; "+outs(0, 8)+"back 0 1 40; out 1 40; "+
			"call 1 0.0 6; "+outs(0, 6)+"back 0 1 40; back 1 2 0")
		// Words 602 .. 607 are those of A.
		clear(r.Words[602:608])
		states = append(states, fmt.Sprint(r.Steps)+stateText(p.objs, r))
		wantSame(t, fmt.Sprint(secret), states[len(states)-1], states[0])
	}
}

// hiding is m with what it keeps and never tells: two variables at the end, a
// procedure, and statements here and there. Where it goes its own way by that,
// it takes other steps.
func hiding(r *rand.Rand, m impl.Module, branches bool) func(secret int) impl.Module {
	plan := r.Int63()
	return func(secret int) impl.Module {
		r, m := rand.New(rand.NewSource(plan)), m
		hid, one := exVar("hid"), exInt(secret)
		hidden := func() impl.Stmt {
			switch r.Intn(5 + 6*truthByRule(branches)) {
			case 0:
				return stSet("hid", one)
			case 1:
				return stSet("hid", exBin(hid, r.Intn(3), exBin(one, r.Intn(3), hid)))
			case 2:
				return stPut("hids", exInt(r.Intn(3)), exBin(one, r.Intn(3), exIndex("hids", exInt(r.Intn(3)))))
			case 3:
				return stCall(exCall("", "hush", hid, exArr("hids")))
			case 4:
				return stCall(exCall("", "hush", exBin(one, 0, exIndex("hids", exInt(2))), exArr("hids")))
			}
			return stIf(exBin(hid, impl.ArLess, exInt(2)), stmts(stSet("hid", exBin(hid, 0, one)), stSet("hid", exInt(3))), stmts(stSet("hid", one)))
		}
		m.Vars = append(slices.Clone(m.Vars), impl.Var{Name: []byte("hid")}, impl.Var{Name: []byte("hids"), Size: 3})
		m.Procs = slices.Clone(m.Procs)
		for i, q := range m.Procs {
			m.Procs[i].Body = append(stmts(hidden()), q.Body...)
			for range r.Intn(3) {
				m.Procs[i].Body = slices.Insert(m.Procs[i].Body, r.Intn(len(m.Procs[i].Body)+1), hidden())
			}
		}
		m.Procs = append(m.Procs, impl.Proc{
			Name: []byte("hush"), Params: []impl.Param{{Name: []byte("hx")}, {Name: []byte("hy"), Arr: true}}, Locals: words("hz"),
			Body: stmts(stSet("hz", exBin(exVar("hx"), 2, one)), stPut("hy", exInt(1), exBin(exVar("hz"), 0, hid)), stSet("hid", exVar("hz")), stReturn(exVar("hz"))),
		})
		return m
	}
}

// toOthers is what others than the text at place have a part in: all but its
// frames, its registers and the four words that it hides.
func toOthers(objs []impl.Object, r impl.Result, place int) impl.Result {
	image, _ := imageByRule(objs)
	hi := image.Mods[place].Hi
	r = copied(r)
	clear(r.Words[hi-4 : hi])
	clear(r.Words[:r.Low])
	if r.Mod == place {
		clear(r.Words[:impl.StackWords])
		clear(r.Regs)
	}
	for at := range r.Words {
		r.Wrote[at] &^= 1 << place
		r.Read[at] &^= 1 << place
	}
	return r
}

// hidingPrograms are alike but for what the text at place keeps.
func hidingPrograms(r *rand.Rand, branches bool) (one, other []impl.Part, place int) {
	var module func(secret int) impl.Module
	p, place := nosyProgram(r, func(name string, faces []impl.Face, last bool) impl.Module {
		for {
			module = hiding(r, shapedText(r, name, faces, last, intsAlone), branches)
			if m := module(secrets[0]); impl.Check(m, faces) == impl.CheckWell {
				return m
			}
		}
	})
	one, other = slices.Clone(p.parts), slices.Clone(p.parts)
	one[place], other[place] = textPart(textByRule(module(5))), textPart(textByRule(module(oneOf(r, secrets))))
	return one, other, place
}

// TestSecretsOfTexts is the part of promise 15 on what a text keeps and never
// tells, step by step alike.
func TestSecretsOfTexts(t *testing.T) {
	t.Parallel()
	r := rand.New(rand.NewSource(133))
	unlike, told, inside := 0, 0, 0
	for range 800 {
		one, other, place := hidingPrograms(r, false)
		input := randomInput(r)
		got, more := impl.RunParts(one, input, 3000), impl.RunParts(other, input, 3000)
		unlike += truthByRule(!slices.Equal(got.Words, more.Words))
		inside += truthByRule(got.Mod != place)
		told += len(got.Events)
		objs, others := impl.Make(one).Objs, impl.Make(other).Objs
		for fuel := got.Steps; fuel >= 0; fuel -= 1 + r.Intn(got.Steps/3+1) {
			a, b := impl.Run(objs, input, fuel), impl.Run(others, input, fuel)
			if x, y := toOthers(objs, a, place), toOthers(objs, b, place); !sameResult(x, y) {
				t.Fatalf("with input %v and fuel %d\n%s\n%s, but when %d keeps something else\n%s\n%s\n%s\n%s",
					input, fuel, stepless(x), stateText(objs, x), place, stepless(y), stateText(objs, y), partsText(one), partsText(other))
			}
		}
	}
	if unlike < 150 || inside < 200 || told < 3000 {
		t.Errorf("%d keep unlike words, %d end with others, %d events", unlike, inside, told)
	}
}

// The same, where what is kept changes how many steps the text takes.
func TestSecretsThatTakeSteps(t *testing.T) {
	t.Parallel()
	r := rand.New(rand.NewSource(134))
	unlike, ended := 0, 0
	for range 800 {
		one, other, place := hidingPrograms(r, true)
		input := randomInput(r)
		a, b := impl.RunParts(one, input, 3000), impl.RunParts(other, input, 3000)
		if a.End == impl.EndFuel || b.End == impl.EndFuel {
			count := min(len(a.Events), len(b.Events))
			if !slices.EqualFunc(a.Events[:count], b.Events[:count], sameEvent) {
				t.Fatalf("%s, but when %d keeps something else\n%s", stepless(a), place, stepless(b))
			}
			continue
		}
		unlike += truthByRule(a.Steps != b.Steps)
		ended++
		objs := impl.Make(one).Objs
		a.Steps, b.Steps = 0, 0
		if x, y := toOthers(objs, a, place), toOthers(objs, b, place); !sameResult(x, y) {
			t.Fatalf("with input %v\n%s\n%s, but when %d keeps something else\n%s\n%s\n%s\n%s",
				input, stepless(x), stateText(objs, x), place, stepless(y), stateText(objs, y), partsText(one), partsText(other))
		}
	}
	if unlike < 60 || ended < 600 {
		t.Errorf("%d take unlike steps, %d end", unlike, ended)
	}
}
