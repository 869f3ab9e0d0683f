package tests

import (
	"fmt"
	"math/rand"
	"slices"
	"strings"
	"testing"

	"loop.example/g00335/impl"
)

// program is texts and objects of any bytes beside each other: what Make takes
// and what it makes, which of them are wild, and their world, which lacks its
// script.
type program struct {
	parts []impl.Part
	objs  []impl.Object
	wild  []bool
	world impl.World
}

func (p *program) addText(m impl.Module) int {
	o, code := impl.Compile(m, p.world.Faces)
	if code == impl.CompWell {
		p.parts, p.objs, p.wild = append(p.parts, textPart(textByRule(m))), append(p.objs, o), append(p.wild, false)
		p.world.Mods, p.world.Faces = append(p.world.Mods, m), append(p.world.Faces, faceByRule(m))
	}
	return code
}

func (p *program) addWild(o impl.Object, f impl.Face) {
	p.parts, p.objs, p.wild = append(p.parts, bytesPart(o, f)), append(p.objs, o), append(p.wild, true)
	p.world.Mods, p.world.Faces = append(p.world.Mods, impl.Module{}), append(p.world.Faces, f)
}

func exportsOf(f impl.Face) []impl.Export {
	var l []impl.Export
	for _, q := range f.Procs {
		l = append(l, impl.Export{Name: q.Name, Print: fingerByRule(q)})
	}
	return l
}

// importsOf are all that the faces have.
func importsOf(faces []impl.Face) []impl.Import {
	var l []impl.Import
	for _, f := range faces {
		for _, q := range f.Procs {
			l = append(l, impl.Import{Mod: f.Name, Name: q.Name, Print: fingerByRule(q)})
		}
	}
	return l
}

// wildPart reads "W 2 | f 0 0, main | A.p # main: back; f: .." (name and data,
// face, imports, code as coded reads it). It uses what the faces have.
func wildPart(t *testing.T, text string, faces []impl.Face) (impl.Object, impl.Face) {
	t.Helper()
	head, code, _ := strings.Cut(text, "#")
	fields := strings.Split(head+"||", "|")
	o := coded(t, fields[0]+"#"+code)
	f := playedFace(string(o.Name) + ":" + fields[1])
	o.Exports = exportsOf(f)
	places := placesOfText(code)
	for i, e := range o.Exports {
		o.Exports[i].At = places[string(e.Name)]
	}
	for _, wanted := range partsOf(strings.TrimSpace(fields[2])) {
		all := importsOf(faces)
		at := slices.IndexFunc(all, func(im impl.Import) bool { return fmt.Sprintf("%s.%s", im.Mod, im.Name) == wanted })
		if at < 0 {
			t.Fatalf("%s imports %s", text, wanted)
		}
		o.Imports = append(o.Imports, all[at])
	}
	return o, f
}

// programOf has a part for each: a text, or what wildPart reads.
func programOf(t *testing.T, parts ...string) program {
	t.Helper()
	var p program
	for _, part := range parts {
		if !strings.HasPrefix(part, "MODULE") {
			o, f := wildPart(t, part, p.world.Faces)
			p.addWild(o, f)
			continue
		}
		if code := p.addText(parsed(t, part)); code != impl.CompWell {
			t.Fatalf("Compile(%s) = %d", part, code)
		}
	}
	return p
}

// worldFuel is enough: each step of a text takes an instruction, or belongs to
// the one that does.
const worldFuel = 6000

// broken tells how promise 12 does not hold of what happened; "" where it does.
// What a wild one that is too deep would have crossed to is no event: the world
// has nothing left to do there, and ends with EndFuel behind the same events.
func (p program) broken(r impl.Result, input []int) string {
	w := p.world
	script, ok := impl.Back(r, p.wild)
	if !ok {
		return "Back refuses it"
	}
	w.Script = script
	o := impl.Eval(w, input, worldFuel)
	switch {
	case r.End == impl.EndRefused:
		return "it does not run"
	case o.End == impl.EndRefused:
		return "it is no world"
	case len(o.Events) < len(r.Events) || !slices.EqualFunc(r.Events, o.Events[:len(r.Events)], sameEvent):
		return "it is no beginning of " + outcomeText(o)
	case (r.End == impl.EndFuel || r.End == impl.EndDeep) && p.wild[r.Mod]:
		if o.End != impl.EndFuel || len(o.Events) != len(r.Events) || o.Steps == worldFuel {
			return "behind the script the world goes on: " + outcomeText(o)
		}
	case r.End == impl.EndExit, r.End == impl.EndDeep, r.End == impl.EndTrap && r.Code != impl.TrapStack:
		if o.End != r.End || o.Code != r.Code || o.Who != r.Who || len(o.Events) != len(r.Events) {
			return "the world ends otherwise: " + outcomeText(o)
		}
	}
	return ""
}

func (p program) text() string {
	text := wildsText(p.wild) + "\n"
	for i, m := range p.world.Mods {
		if p.wild[i] {
			text += codeText(p.objs[i : i+1])
		} else {
			text += textByRule(m)
		}
	}
	return text
}

// wantPromise12 makes and runs it with that fuel, which is at most 2000.
func wantPromise12(t *testing.T, p program, input []int, fuel int) impl.Result {
	t.Helper()
	r := impl.RunParts(p.parts, input, fuel)
	if told := p.broken(r, input); told != "" {
		t.Fatalf("with input %v and fuel %d\n%s\nscript: %s\n%s of\n%s", input, fuel, outcomeText(outcomeOf(r)), scriptOf(r, p.wild), told, p.text())
	}
	return r
}

const (
	counter = "MODULE A; VAR n; VAR a[3]; PROC add*(x); BEGIN n := (n + x); a[1] := x; RETURN n; END;" +
		" PROC get*(i); BEGIN RETURN a[i]; END; PROC echo*(); BEGIN OUT IN; END;" +
		" PROC sum*(x, y); BEGIN RETURN (x / y); END; PROC stop*(); BEGIN TRAP 3; END; END."
	caller = "MODULE M; IMPORT W; VAR k; PROC main*(); BEGIN k := 5; OUT W.f(k, IN); OUT k; OUT (W.f(1, 2) + W.g()); END; END."
)

// worldForms: parts, input, what happens and what the script is, by hand.
var worldForms = []struct {
	parts  []string
	input  []int
	want   string
	script string
}{
	// a wild main and a text
	{[]string{counter, "W | main | A.add # load A4 B6; int A0 N5; cross A4 M1; out A0; load A4 B6; int A0 N-7; cross A4 M1; out A0; back"}, nil,
		"exit: call 1 0.0 5; back 0 1 5; out 1 5; call 1 0.0 -7; back 0 1 -2; out 1 -2",
		"call 0.0 5; out 5; call 0.0 -7; out -2; back 0"},
	{[]string{counter, "W | main | A.echo # in A0; load A4 B6; cross A4; in A1; out A1; trap N2"}, []int{7, 8},
		"trap 13 by 1: in 1 7; call 1 0.2; in 0 8; out 0 8; back 0 1 0; in 1 0; out 1 0",
		"in; call 0.2; in; out 0; trap 13"},
	// too few args and too many, an array and an entry for an int
	{[]string{counter, "W | main | A.sum # load A4 B6; int A0 N9; int A1 N2; cross A4 M2; out A0; load A4 B6; int A0 N9; cross A4 M1; back"}, nil,
		"trap 6 by 0: call 1 0.3 9 2; back 0 1 4; out 1 4; call 1 0.3 9",
		"call 0.3 9 2; out 4; call 0.3 9"},
	{[]string{counter, "W 3 | main | A.add # load A4 B6; int A0 N9; copy A1 B6; copy A2 B7; copy A3 B4; cross A4 M4; out A0; back"}, nil,
		"exit: call 1 0.0 9 @4 @600 @0; back 0 1 9; out 1 9",
		"call 0.0 9 @4 @600 @0; out 9; back 0"},
	{[]string{counter, "W 3 | main | A.add # load A4 B6; part A0 B6 N1 M3; cross A4 M1; out A0; back"}, nil,
		"trap 10 by 0: call 1 0.0 @3", "call 0.0 @3"},
	{[]string{counter, "W 3 | main | A.add # load A4 B6; copy A0 B4; cross A4 M1; out A0; back"}, nil,
		"trap 10 by 0: call 1 0.0 @0", "call 0.0 @0"},
	// what a text ends with
	{[]string{counter, "W | main | A.stop # load A4 B6; out A0; cross A4; out A0; back"}, nil,
		"trap 14 by 0: out 1 0; call 1 0.4", "out 0; call 0.4"},
	{[]string{counter, "W | main | A.get # load A4 B6; int A0 N3; cross A4 M1; back"}, nil,
		"trap 5 by 0: call 1 0.1 3", "call 0.1 3"},
	// a wild one that a text calls
	{[]string{"W 1 | f 0 0, g # f: out A1; store A0 B6; int A0 N8; back; g: load A0 B6; back", caller}, []int{4},
		"exit: in 1 4; call 1 0.0 5 4; out 0 4; back 0 1 8; out 1 8; out 1 5; call 1 0.0 1 2; out 0 2; back 0 1 8; call 1 0.1; back 0 1 1; out 1 9",
		"out 4; back 8; out 2; back 8; back 1"},
	{[]string{"W | f 0 0, g # f: copy A0 B7; back; g: in A0; back", caller}, []int{4, 6},
		"exit: in 1 4; call 1 0.0 5 4; back 0 1 0; out 1 0; out 1 5; call 1 0.0 1 2; back 0 1 0; call 1 0.1; in 0 6; back 0 1 6; out 1 6",
		"back 0; back 0; in; back 6"},
	{[]string{"W | f 0 0, g # f: back; g: load A0 B0; back", caller}, nil,
		"trap 1 by 0: in 1 0; call 1 0.0 5 0; back 0 1 5; out 1 5; out 1 5; call 1 0.0 1 2; back 0 1 1; call 1 0.1",
		"back 5; back 1; trap 1"},
	// between two texts, and beside another wild one, who is handed an entry
	{[]string{counter, "W 2 | f 0 0, g | A.add, A.sum # f: load A4 B6; cross A4 M1; back; g: load A4 B6 N1; int A0 N1; cross A4 M2; back", caller}, []int{3},
		"trap 6 by 0: in 2 3; call 2 1.0 5 3; call 1 0.0 5; back 0 1 5; back 1 2 5; out 2 5; out 2 5;" +
			" call 2 1.0 1 2; call 1 0.0 1; back 0 1 6; back 1 2 6; call 2 1.1; call 1 0.3 1 0",
		"call 0.0 5; back 5; call 0.0 1; back 6; call 0.3 1 0"},
	{[]string{counter, "V | f 0 # f: copy A4 B0; int A0 N6; cross A4 N2 M1; out A0; back", "W | main | V.f, A.add # load A4 B6; load A0 B6 N1; cross A4 M1; out A0; trap"}, nil,
		"trap 11 by 2: call 2 1.0 @0; call 1 0.0 6; back 0 1 6; out 1 6; back 1 2 6; out 2 6",
		"call 1.0 @0; call 0.0 6; out 6; back 6; out 6; trap 11"},
	// no code, code that is none, a wild one that nobody calls
	{[]string{counter, "W | main #"}, nil, "trap 9 by 1: ", "trap 9"},
	{[]string{"W | f # f: out A0; trap", "MODULE M; PROC main*(); BEGIN OUT 3; END; END."}, nil, "exit: out 1 3", ""},
	{[]string{"MODULE A; END.", "W | main # back", "MODULE M; IMPORT W; PROC main*(); BEGIN TRAP 9; END; END."}, nil, "trap 20 by 2: ", ""},
}

// stepless is what outcomeText tells but how many steps were made.
func stepless(r impl.Result) string {
	_, text, _ := strings.Cut(outcomeText(outcomeOf(r)), " ")
	return text
}

func TestWorldsOfScripts(t *testing.T) {
	for _, form := range worldForms {
		p := programOf(t, form.parts...)
		what := strings.Join(form.parts, "\n")
		r := wantPromise12(t, p, form.input, 2000)
		if got := stepless(r); got != form.want {
			t.Errorf("%s\n%s, want\n%s", what, got, form.want)
		}
		wantBack(t, what, r, p.wild, form.script)
		for fuel := range r.Steps + 2 {
			wantPromise12(t, p, form.input, fuel)
		}
	}
}

// intsAlone takes arrays out of what others may call.
func intsAlone(q impl.Proc) {
	for i := range q.Params {
		q.Params[i].Arr = q.Params[i].Arr && !q.Open
	}
}

// politeCall hands ints over, and tells what came back.
func politeCall(r *rand.Rand, own int) []impl.Ins {
	var l []impl.Ins
	count := r.Intn(5)
	for i := range count {
		l = append(l, impl.Ins{Op: impl.InInt, A: i, N: oneOf(r, []int{0, 0, 1, 1, 2, 3, -1, 7})})
	}
	if r.Intn(4) == 0 {
		l = append(l, impl.Ins{Op: impl.InIn, A: r.Intn(4)})
	}
	l = append(l, impl.Ins{Op: impl.InLoad, A: 4, B: 6, N: r.Intn(own)}, impl.Ins{Op: impl.InCross, A: 4, N: r.Intn(12), M: count})
	if r.Intn(2) == 0 {
		l = append(l, impl.Ins{Op: impl.InOut})
	}
	return l
}

// politeCode mostly calls others, and does some of what calm code does.
func politeCode(r *rand.Rand, own, data int) []byte {
	var l []impl.Ins
	for range 1 + r.Intn(8) {
		switch {
		case own > 0 && r.Intn(3) > 0:
			l = append(l, politeCall(r, own)...)
		case r.Intn(2) == 0:
			l = append(l, impl.Ins{Op: oneOf(r, []int{impl.InOut, impl.InIn}), A: 5})
		case r.Intn(3) == 0:
			l = append(l, calmIns(r, own, data, len(l))...)
		}
		if r.Intn(30) == 0 {
			l = append(l, impl.Ins{Op: impl.InTrap, N: r.Intn(100)})
		}
	}
	b, _ := impl.Encode(append(l, impl.Ins{Op: impl.InBack}))
	return b
}

// noiseCode is bytes of anything, more of them instructions than by chance.
func noiseCode(r *rand.Rand) []byte {
	b := make([]byte, r.Intn(300))
	for i := range b {
		b[i] = byte(r.Intn(256))
		if r.Intn(20) > 0 {
			b[i] %= []byte{23, 8, 8, 8, 9, 1, 1, 1, 5, 1, 1, 1}[i%12]
		}
	}
	return b
}

// randomWildObject exports procedures without arrays, and imports what it likes.
func randomWildObject(r *rand.Rand, name string, faces []impl.Face, last bool) (impl.Object, impl.Face) {
	f := randomFace(r, name, last)
	for _, q := range f.Procs {
		clear(q.Kinds)
	}
	o := impl.Object{Name: f.Name, Exports: exportsOf(f), Data: r.Intn(6)}
	all := importsOf(faces)
	r.Shuffle(len(all), func(i, j int) { all[i], all[j] = all[j], all[i] })
	o.Imports = all[:min(len(all), 1+r.Intn(8))]
	switch own := len(o.Imports); r.Intn(8) {
	case 0:
		o.Code = noiseCode(r)
	case 1, 2:
		o.Code = randomCode(r, own, o.Data)
	default:
		o.Code = politeCode(r, own, o.Data)
	}
	for i := range o.Exports {
		if count := len(o.Code) / 12; count > 0 && r.Intn(3) == 0 {
			o.Exports[i].At = r.Intn(count)
		}
	}
	return o, f
}

func randomProgram(r *rand.Rand) program {
	var p program
	count := 1 + r.Intn(8)
	for len(p.objs) < count {
		name, last := fmt.Sprintf("M%d", len(p.objs)), len(p.objs) == count-1
		if r.Intn(2) == 0 {
			p.addWild(randomWildObject(r, name, p.world.Faces, last))
		} else {
			p.addText(shapedText(r, name, p.world.Faces, last, intsAlone))
		}
	}
	return p
}

// TestPromise12 holds whatever bytes beside texts against the world with the
// script that Back tells.
func TestPromise12(t *testing.T) {
	t.Parallel()
	r := rand.New(rand.NewSource(126))
	ends, events := map[string]int{}, map[string]int{}
	side := map[bool]string{true: "wild", false: "text"}
	for range 4000 {
		p, input := randomProgram(r), randomInput(r)
		got := wantPromise12(t, p, input, 2000)
		ends[fmt.Sprintf("%d %d %s", got.End, min(got.Code, impl.TrapUser), side[p.wild[got.Mod]])]++
		for _, e := range got.Events {
			to := ""
			if e.Kind < impl.EvOut {
				to = " to " + side[p.wild[e.To]]
			}
			events[fmt.Sprintf("%d %s%s", e.Kind, side[p.wild[e.From]], to)]++
		}
		for _, fuel := range []int{r.Intn(got.Steps + 1), got.Steps - 1} {
			wantPromise12(t, p, input, max(fuel, 0))
		}
	}
	for end, least := range map[string]int{
		"1 0 wild": 300, "1 0 text": 300, "3 0 wild": 30, "3 0 text": 100, "2 11 wild": 50, "2 11 text": 50,
		"2 1 wild": 100, "2 2 wild": 10, "2 4 wild": 30, "2 5 text": 50, "2 6 text": 10, "2 7 text": 50, "2 8 wild": 10, "2 9 wild": 30, "2 10 text": 5,
	} {
		if ends[end] < least {
			t.Errorf("only %d ended with %s: %v", ends[end], end, ends)
		}
	}
	for _, who := range []string{"0 wild to text", "0 wild to wild", "0 text to wild", "1 wild to text", "1 wild to wild", "1 text to wild", "2 wild", "2 text", "3 wild", "3 text"} {
		if events[who] < 500 {
			t.Errorf("only %d times %s", events[who], who)
		}
	}
}

// Each trap of a wild one, which a text calls or which is main itself.
func TestTrapsOfWildOnes(t *testing.T) {
	for code, does := range map[int]string{
		1: "load A0 B0", 2: "load A0 B6 N9", 3: "store A7 B6", 4: "trap N100", 5: "index A6 B0; int A0 N9; index A6 B0", 6: "arith A0 B0 C5 N3",
		7: "room A7 N601", 8: "out A6", 9: "jump N-1", 10: "num A6", 11: "trap", 12: "trap N1", 110: "trap N99",
	} {
		p := programOf(t, "W 3 | f # f: int A0; "+does+"; back", "MODULE M; IMPORT W; PROC main*(); BEGIN OUT 1; OUT W.f(); END; END.")
		r := wantPromise12(t, p, nil, 2000)
		wantSame(t, does, stepless(r), fmt.Sprintf("trap %d by 0: out 1 1; call 1 0.0", code))
		wantBack(t, does, r, p.wild, fmt.Sprint("trap ", code))
		p = programOf(t, "MODULE A; PROC f*(); BEGIN OUT 1; END; END.", "W 3 | main | A.f # load A1 B6; cross A1; "+does+"; back")
		r = wantPromise12(t, p, nil, 2000)
		wantSame(t, does, stepless(r), fmt.Sprintf("trap %d by 1: call 1 0.0; out 0 1; back 0 1 0", code))
		wantBack(t, does, r, p.wild, fmt.Sprint("call 0.0; trap ", code))
	}
}

// V crosses to itself as deep as W says, then to U, who crosses to T.
func TestDeepBesideTexts(t *testing.T) {
	for from := range 24 {
		p := programOf(t,
			"MODULE T; PROC f*(); BEGIN OUT 1; END; END.",
			"MODULE U; IMPORT T; PROC g*(); BEGIN OUT 2; CALL T.f(); OUT 3; END; END.",
			"V | f 0 0 0 # f: if A1 =bottom; int A3 N1; arith A1 B1 C3 N1; cross A0 N2 M3; out A0; back; bottom: cross A2 N2; back",
			fmt.Sprintf("W | main | V.f, U.g # load A0 B6; load A2 B6 N1; int A1 N%d; cross A0 N2 M3; out A0; back", from))
		r := wantPromise12(t, p, nil, 2000)
		end, mod := impl.EndExit, 3
		switch {
		case from == 18:
			end, mod = impl.EndDeep, 1
		case from > 18:
			end, mod = impl.EndDeep, 2
		}
		if r.End != end || r.Mod != mod {
			t.Errorf("from %d: %s", from, stepless(r))
		}
		// Of that end no action is told: calls alone, as many as may be under way.
		var calls []string
		for n := from; n >= 0 && len(calls) < 20; n-- {
			calls = append(calls, fmt.Sprintf("call 2.0 @0 %d @0", n))
		}
		if from == 18 {
			calls = append(calls, "call 1.0")
		}
		if from >= 18 {
			wantBack(t, fmt.Sprint("from ", from), r, p.wild, strings.Join(calls, "; "))
		}
		for fuel := range r.Steps {
			wantPromise12(t, p, nil, fuel)
		}
	}
}

// As many events as 2000 steps can make are no more than a script may have.
func TestLoudPrograms(t *testing.T) {
	outs := strings.Repeat("out A1; ", 748)
	for _, parts := range [][]string{
		{"W | main # main: " + outs + "jump =main"},
		{"W | main # main: " + strings.Repeat("in A1; ", 748) + "jump =main"},
		{counter, "V | f # f: " + outs + "back", "W | main | V.f, A.echo # main: load A4 B6; cross A4; load A4 B6 N1; cross A4; jump =main"},
		{"V | f # f: " + outs + "back", "MODULE M; IMPORT V; PROC main*(); BEGIN WHILE 1 DO OUT V.f(); END; END; END."},
		{"V | f # f: back", "W | main | V.f # main: load A4 B6; cross A4; jump =main"},
		{"V | f # f: back", "W | main | V.f # " + outs[:8*740] + "load A4 B6; cross A4; trap"},
	} {
		p := programOf(t, parts...)
		for _, fuel := range []int{0, 1, 741, 743, 749, 750, 1000, 1999, 2000} {
			wantPromise12(t, p, []int{3, 4, 5}, fuel)
		}
	}
}
