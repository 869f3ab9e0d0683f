package tests

import (
	"fmt"
	"math"
	"slices"
	"strings"
	"testing"

	"loop.example/g00335/impl"
)

// coded is an object with code: "B 2 | f=5, main | A.f=5 # main: back; f: ..",
// ahead of # as object reads it, behind it as insOfText does. An export begins
// where the code names a place as it is named.
func coded(t *testing.T, text string) impl.Object {
	t.Helper()
	head, code, _ := strings.Cut(text, "#")
	o := object(head)
	b, ok := impl.Encode(insOfText(t, code))
	if !ok {
		t.Fatalf("no code: %s", code)
	}
	o.Code = b
	places := placesOfText(code)
	for i, e := range o.Exports {
		if at, named := places[string(e.Name)]; named {
			o.Exports[i].At = at
		}
	}
	return o
}

func placesOfText(text string) map[string]int {
	places, count := map[string]int{}, 0
	for _, item := range strings.Split(text, ";") {
		words := strings.Fields(item)
		for len(words) > 0 && strings.HasSuffix(words[0], ":") {
			places[strings.TrimSuffix(words[0], ":")] = count
			words = words[1:]
		}
		count += min(len(words), 1)
	}
	return places
}

func codedAll(t *testing.T, texts ...string) []impl.Object {
	t.Helper()
	var l []impl.Object
	for _, text := range texts {
		l = append(l, coded(t, text))
	}
	return l
}

// scene runs code in M, whose data are 602 .. 606: the entries of A.f and A.g,
// and three words; those of A are 600 and 601.
func scene(t *testing.T, code string) []impl.Object {
	t.Helper()
	return codedAll(t, "A 2 | f=5, g=6 # f: back; g: back", "M 3 | main | A.f=5, A.g=6 # "+code)
}

// wordText is "5", a way "602..607@602/23" (Lo, Hi, At, Perm) or an entry
// "0.1/16" (object, export, Perm).
func wordText(w impl.Word) string {
	switch w {
	case impl.Word{N: w.N}:
		return fmt.Sprint(w.N)
	case way(w.Lo, w.Hi, w.At, w.Perm):
		return fmt.Sprintf("%d..%d@%d/%d", w.Lo, w.Hi, w.At, w.Perm)
	case entry(w.Seal, w.At, w.Perm):
		return fmt.Sprintf("%d.%d/%d", w.Seal-1, w.At, w.Perm)
	}
	return fmt.Sprintf("%+v", w)
}

// changedText tells each word of l that is another one in was: "604=5".
func changedText(l, was []impl.Word) string {
	if len(l) != len(was) {
		return fmt.Sprintf("%d words for %d", len(l), len(was))
	}
	var parts []string
	for i, w := range l {
		if w != was[i] {
			parts = append(parts, fmt.Sprintf("%d=%s", i, wordText(w)))
		}
	}
	return strings.Join(parts, " ")
}

// firstRegs are those of an object that begins.
func firstRegs(m impl.Image, who, low int) []impl.Word {
	regs := make([]impl.Word, 8)
	regs[6] = way(m.Mods[who].Lo, m.Mods[who].Hi, m.Mods[who].Lo, 23)
	regs[7] = way(low, 600, low, 15)
	return regs
}

func marksText(l []int) string {
	var parts []string
	for i, n := range l {
		if n != 0 {
			parts = append(parts, fmt.Sprintf("%d:%d", i, n))
		}
	}
	return strings.Join(parts, " ")
}

// stateText is "1 low 0 | 3=5 | 604=7 | wrote 604:2 | read 604:2": Mod and Low,
// the registers that are not as at an object's beginning, the words that are
// not as they were linked, and who stored and loaded; nothing where nothing is.
func stateText(objs []impl.Object, r impl.Result) string {
	m, code := imageByRule(objs)
	if code != impl.LoadWell || r.Mod < 0 || r.Mod >= len(objs) || len(r.Wrote) != len(m.Words) || len(r.Read) != len(m.Words) {
		return fmt.Sprintf("%d: %+v", code, r)
	}
	parts := []string{fmt.Sprintf("%d low %d", r.Mod, r.Low)}
	for _, part := range []string{
		changedText(r.Regs, firstRegs(m, r.Mod, r.Low)),
		changedText(r.Words, m.Words),
		"wrote " + marksText(r.Wrote),
		"read " + marksText(r.Read),
	} {
		if part != "" && part != "wrote " && part != "read " {
			parts = append(parts, part)
		}
	}
	return strings.Join(parts, " | ")
}

func outcomeOf(r impl.Result) impl.Outcome {
	return impl.Outcome{End: r.End, Code: r.Code, Who: r.Who, Events: r.Events, Steps: r.Steps}
}

func wantRunText(t *testing.T, what string, objs []impl.Object, input []int, fuel int, want string) impl.Result {
	t.Helper()
	r := impl.Run(objs, input, fuel)
	if got := outcomeText(outcomeOf(r)); got != want {
		t.Errorf("%s: with input %v and fuel %d\n%s, want\n%s", what, input, fuel, got, want)
	}
	return r
}

// wantRun holds a run against what happens at which step, with each fuel up to
// more than it needs, and with as much as may be. An instruction that ends a
// run does nothing else.
func wantRun(t *testing.T, what string, objs []impl.Object, input []int, text string) impl.Result {
	t.Helper()
	l := momentsOf(text)
	end := l[len(l)-1]
	r := wantRunText(t, what, objs, input, impl.MaxFuel, outcomeByMoments(l, impl.MaxFuel))
	for fuel := range end.steps + 3 {
		less := wantRunText(t, what, objs, input, fuel, outcomeByMoments(l, fuel))
		if fuel >= end.steps-1 && stateText(objs, less) != stateText(objs, r) {
			t.Errorf("%s: with fuel %d\n%s, with as much as may be\n%s", what, fuel, stateText(objs, less), stateText(objs, r))
		}
	}
	return r
}

func wantState(t *testing.T, what string, objs []impl.Object, r impl.Result, want string) {
	t.Helper()
	if got := stateText(objs, r); got != want {
		t.Errorf("%s: at the end\n%s, want\n%s", what, got, want)
	}
}

func isZeroResult(r impl.Result) bool {
	return r.End == 0 && r.Code == 0 && r.Who == 0 && r.Mod == 0 && r.Low == 0 && r.Steps == 0 &&
		len(r.Events) == 0 && len(r.Regs) == 0 && len(r.Words) == 0 && len(r.Wrote) == 0 && len(r.Read) == 0
}

func wantNotRun(t *testing.T, what string, objs []impl.Object, input []int, fuel int) {
	t.Helper()
	if r := impl.Run(objs, input, fuel); !isZeroResult(r) {
		t.Errorf("%s: Run = %+v", what, outcomeOf(r))
	}
}

func TestInputAndFuelOfRun(t *testing.T) {
	objs := scene(t, "in A1; out A1; jump")
	for _, n := range []int{0, 1, -1, math.MaxInt32, math.MinInt32} {
		for _, count := range []int{1, 2, 100} {
			r := impl.Run(objs, repeated(count, n), 2)
			if got, want := outcomeText(outcomeOf(r)), fmt.Sprintf("2 fuel: in 1 %d; out 1 %d", n, n); got != want {
				t.Errorf("%s, want %s", got, want)
			}
		}
	}
	for _, fuel := range []int{0, 1, 99999, 100000} {
		if r := impl.Run(objs, nil, fuel); r.End != impl.EndFuel || r.Steps != fuel || len(r.Events) != (fuel+2)/3+(fuel+1)/3 {
			t.Errorf("fuel %d: %d after %d steps, %d events", fuel, r.End, r.Steps, len(r.Events))
		}
	}
	for _, n := range []int{math.MaxInt32 + 1, math.MinInt32 - 1, math.MaxInt, math.MinInt, 1 << 32} {
		wantNotRun(t, "one that is no int", objs, []int{n}, 5)
		wantNotRun(t, "one that is no int, the last", objs, append(make([]int, 99), n), 5)
		wantNotRun(t, "one that is no int, which nobody reads", objs, []int{1, n, 2}, 0)
	}
	wantNotRun(t, "one number too many", objs, make([]int, 101), 5)
	wantNotRun(t, "many numbers", objs, make([]int, 5000), 5)
	for _, fuel := range []int{-1, 100001, math.MinInt, math.MaxInt, -100000} {
		wantNotRun(t, fmt.Sprint("fuel ", fuel), objs, nil, fuel)
	}
}

// What Link refuses is not run, whatever it would do.
func TestObjectsThatAreNotRun(t *testing.T) {
	wantNotRun(t, "none", nil, nil, 5)
	wantNotRun(t, "nine", chain(9), nil, 5)
	for what, change := range notObjects {
		for at := range 3 {
			l := chain(3)
			change(&l[at])
			wantNotRun(t, what, l, nil, 5)
		}
	}
	for what, texts := range missing {
		wantNotRun(t, "an import "+what, objects(texts...), nil, 5)
	}
	for _, group := range linkFaults {
		for what, change := range group.changes {
			l := chain(6)
			change(&l)
			wantNotRun(t, what, l, nil, 5)
		}
	}
	if r := impl.Run(chain(8), nil, 5); r.End != impl.EndTrap {
		t.Error(r.End)
	}
}

// The part of promise 8 on Run: not even the events ahead of a crossing happen.
func TestOtherPrintsAreNotRun(t *testing.T) {
	objs := codedAll(t, "A | f=5 # f: out A0; back", "M | main | A.f=5 # out A0; load A1 B6; cross A1; back")
	wantRun(t, "its own Print", objs, nil, "1 out 1 0; 3 call 1 0.0; 4 out 0 0; 5 back 0 1 0; 6 exit")
	for bit := range 31 {
		l := codedAll(t, "A | f=5 # f: out A0; back", "M | main | A.f=5 # out A0; back")
		l[1].Imports[0].Print ^= 1 << bit
		wantNotRun(t, "another Print", l, nil, 5)
		l[1].Imports[0].Print, l[0].Exports[0].Print = 5, 5^1<<bit
		wantNotRun(t, "another Print of the export", l, nil, 5)
		l = codedAll(t, "M | main # out A0; back")
		l[0].Exports[0].Print ^= 1 << bit
		wantNotRun(t, "another Print of main", l, nil, 5)
	}
}

// What stands where at the start, of each object that may be the last.
func TestStartOfRun(t *testing.T) {
	l := codedAll(t,
		"A 3 | main # back",
		"B 0 | main | A.main # back",
		"C 200 | f=9, main | B.main, A.main # trap; main: back",
		"D 0 | main # back")
	regions := [][2]int{{600, 603}, {603, 604}, {604, 806}, {806, 806}}
	words := append(make([]impl.Word, 603), entry(1, 0, 16), entry(2, 0, 16), entry(1, 0, 16))
	words = append(words, make([]impl.Word, 200)...)
	for last, region := range regions {
		objs := l[:last+1]
		regs := make([]impl.Word, 8)
		regs[6] = impl.Word{Tag: true, Lo: region[0], Hi: region[1], At: region[0], Perm: impl.CanLoad | impl.CanStore | impl.CanCaps | impl.CanGo}
		regs[7] = impl.Word{Tag: true, Lo: 0, Hi: 600, At: 0, Perm: impl.CanLoad | impl.CanStore | impl.CanCaps | impl.CanLocal}
		for fuel, end := range []int{impl.EndFuel, impl.EndExit, impl.EndExit} {
			r := impl.Run(objs, []int{5}, fuel)
			if r.End != end || r.Code != 0 || r.Who != 0 || r.Mod != last || r.Low != 0 || r.Steps != min(fuel, 1) || len(r.Events) != 0 {
				t.Errorf("%d: fuel %d: %+v", last, fuel, outcomeOf(r))
			}
			if !slices.Equal(r.Regs, regs) || !slices.Equal(r.Words, words[:region[1]]) {
				t.Errorf("%d: %v", last, r.Regs)
			}
			if nought := make([]int, region[1]); !slices.Equal(r.Wrote, nought) || !slices.Equal(r.Read, nought) {
				t.Errorf("%d: wrote %v, read %v", last, r.Wrote, r.Read)
			}
		}
	}
}

func TestLargestRun(t *testing.T) {
	var l []impl.Object
	for i := range 8 {
		o := coded(t, fmt.Sprintf("M%d 200 | a, b, c, d, e, f, g=77, main # main: int A0 N5; store A0 B6 N199; load A1 B6 N199; out A1; back", i))
		if i > 0 {
			o.Imports = repeated(8, impl.Import{Mod: []byte(fmt.Sprintf("M%d", i-1)), Name: []byte("g"), Print: 77})
		}
		l = append(l, o)
	}
	r := wantRun(t, "the largest", l, nil, "4 out 7 5; 5 exit")
	wantState(t, "the largest", l, r, "7 low 0 | 0=5 1=5 | 2247=5 | wrote 2247:128 | read 2247:128")
}

// opForms: code of M, what happens, and the state at the end, by hand.
var opForms = []struct {
	code  string
	want  string
	state string
}{
	{"back", "1 exit", "1 low 0"},
	{"int A3 N-5; back", "2 exit", "1 low 0 | 3=-5"},
	{"int A0 N2147483647; int A6 N-2147483648; int A7 N1; int A5 N3; int A5; back", "6 exit", "1 low 0 | 0=2147483647 6=-2147483648 7=1"},
	{"copy A1 B6; copy A2 B7; load A3 B6 N1; copy A4 B3; int A5 N9; copy A6 B5; copy A7 B4; copy A0 B0; back", "9 exit",
		"1 low 0 | 1=602..607@602/23 2=0..600@0/15 3=0.1/16 4=0.1/16 5=9 6=9 7=0.1/16 | read 603:2"},
	// InArith
	{"int A1 N7; int A2 N-2; arith A0 B1 C2; arith A3 B1 C2 N1; arith A4 B1 C2 N2; arith A5 B1 C2 N3; back", "7 exit",
		"1 low 0 | 0=5 1=7 2=-2 3=9 4=-14 5=-3"},
	{"int A1 N-7; int A2 N2; arith A0 B1 C2 N3; arith A3 B1 C2 N4; arith A4 B2 C1 N4; arith A5 B1 C1 N5; arith A6 B1 C2 N5; arith A7 B1 C1 N4; back", "9 exit",
		"1 low 0 | 0=-3 1=-7 2=2 3=1 5=1 6=0 7=0"},
	{"int A1 N2147483647; int A2 N1; arith A3 B1 C2; int A4 N-2147483648; int A5 N-1; arith A0 B4 C5 N3; arith A4 B4 C2 N1; arith A1 B1 C1 N2; back", "9 exit",
		"1 low 0 | 0=-2147483648 1=1 2=1 3=-2147483648 4=2147483647 5=-1"},
	{"int A1 N6; arith A1 B1 C1; arith A1 B1 C1 N2; back", "4 exit", "1 low 0 | 1=144"},
	// InLoad, InStore and those by a register
	{"int A0 N8; store A0 B6 N2; store A0 B7; int A0 N9; store A0 B6 N4; store A0 B7 N599; load A1 B6 N2; load A2 B7 N599; load A3 B6 N3; back", "10 exit",
		"1 low 0 | 0=9 1=8 2=9 | 0=8 599=9 604=8 606=9 | wrote 0:2 599:2 604:2 606:2 | read 599:2 604:2 605:2"},
	{"int A0 N8; int A1 N2; int A2 N4; storeat A0 B6 C1; storeat A1 B6 C2 N100 M100; loadat A3 B6 C1; loadat A4 B6 C2 N-100 M1; back", "8 exit",
		"1 low 0 | 0=8 1=2 2=4 3=8 4=2 | 604=8 606=2 | wrote 604:2 606:2 | read 604:2 606:2"},
	{"load A1 B6; load A2 B6 N1; store A2 B6; store A1 B6 N4; store A1 B7 N3; back", "6 exit",
		"1 low 0 | 1=0.0/16 2=0.1/16 | 3=0.0/16 602=0.1/16 606=0.0/16 | wrote 3:2 602:2 606:2 | read 602:2 603:2"},
	{"store A6 B6 N2; load A1 B6 N2; store A6 B1 N3; store A7 B7 N9; load A7 B7 N9; store A6 B7; load A6 B7; back", "8 exit",
		"1 low 0 | 1=602..607@602/23 | 0=602..607@602/23 9=0..600@0/15 604=602..607@602/23 605=602..607@602/23 | wrote 0:2 9:2 604:2 605:2 | read 0:2 9:2 604:2"},
	{"shift A1 B6 N4; int A0 N3; store A0 B1; store A0 B1 N-1; int A2 N-2; storeat A0 B1 C2; load A3 B1; back", "8 exit",
		"1 low 0 | 0=3 1=602..607@606/23 2=-2 3=3 | 604=3 605=3 606=3 | wrote 604:2 605:2 606:2 | read 606:2"},
	{"shift A1 B6 N-4602; int A0 N3; store A0 B1 N4604; shift A2 B6 N7398; load A4 B2 N-7396; back", "6 exit",
		"1 low 0 | 0=3 1=602..607@-4000/23 2=602..607@8000/23 4=3 | 604=3 | wrote 604:2 | read 604:2"},
	{"load A1 B6; load A1 B6 N2; back", "3 exit", "1 low 0 | read 602:2 604:2"},
	{"int A1 N604; shift A2 B7 N600; shift A7 B7 N-1; load A7 B7 N1; back", "5 exit", "1 low 0 | 1=604 2=0..600@600/15 7=0 | read 0:2"},
	// InPart, InLen, InIndex
	{"part A1 B6 N2 M3; part A2 B6 M5; part A3 B6 N5; part A4 B7 N599 M1; part A5 B1 N1 M1; part A0 B1 N3; back", "7 exit",
		"1 low 0 | 0=607..607@607/3 1=604..607@604/3 2=602..607@602/3 3=607..607@607/3 4=599..600@599/3 5=605..606@605/3"},
	{"shift A1 B6 N100; part A1 B1 N-98 M2; shift A2 B7 N-1; part A2 B2 N1 M600; part A7 B7 M600; back", "6 exit",
		"1 low 0 | 1=604..606@604/3 2=0..600@0/3 7=0..600@0/3"},
	{"part A1 B6 N2 M3; int A0 N6; store A0 B1; store A0 B1 N2; load A2 B1 N2; store A1 B7 N8; load A3 B7 N8; back", "8 exit",
		"1 low 0 | 0=6 1=604..607@604/3 2=6 3=604..607@604/3 | 8=604..607@604/3 604=6 606=6 | wrote 8:2 604:2 606:2 | read 8:2 606:2"},
	{"len A1 B6; len A2 B7; part A3 B6 N2 M3; len A4 B3; part A5 B6 N5; len A5 B5; shift A3 B7 N50; len A3 B3; len A6 B6; back", "10 exit",
		"1 low 0 | 1=5 2=600 3=600 4=3 6=5"},
	{"index A6 B0; int A1 N4; index A6 B1; index A6 B1 C6 N9 M9; part A2 B6 N4 M1; index A2 B0; int A1 N599; index A7 B1; back", "9 exit",
		"1 low 0 | 1=599 2=606..607@606/3"},
	// InShift; an M other than 1 asks for no register
	{"shift A1 B6 N3; shift A2 B1 N-3; shift A7 B7 N10; int A3 N4; shift A7 B7 C3 M1; shift A4 B7 N4 C3 M1; back", "7 exit",
		"1 low 0 | 1=602..607@605/23 2=602..607@602/23 3=4 4=0..600@6/15 7=0..600@6/15"},
	{"shift A1 B6 N3 C6; shift A2 B6 N3 C6 M2; shift A3 B6 N3 C6 M-1; int A4 N9; shift A4 B6 N3 C4 M3; back", "6 exit",
		"1 low 0 | 1=602..607@605/23 2=602..607@605/23 3=602..607@605/23 4=602..607@605/23"},
	{"shift A1 B7 N8000; shift A2 B1 N-8000; shift A3 B7 N-4000; shift A4 B3 N8000; int A5 N4000; shift A5 B1 N-8000 C5 M1; back", "6 trap 1 by 1", "1 low 0 | 1=0..600@8000/15 2=0..600@0/15 3=0..600@-4000/15 4=0..600@4000/15 5=4000"},
	{"int A1 N2147483647; shift A2 B7 N2147483647 C1 M1; int A1 N-2147483648; shift A3 B7 N-2147483648 C1 M1; int A1 N-4; shift A1 B6 N-1 C1 M1; back", "7 exit",
		"1 low 0 | 1=602..607@605/23 2=0..600@0/15 3=0..600@0/15"},
	// InRoom
	{"room A7 N600; room A7; room A6 N5; shift A1 B7 N600; room A1; shift A1 B7 N-4000; room A1 N4000; shift A1 B6 N-602; room A1 N607; back", "10 exit",
		"1 low 0 | 1=602..607@0/23"},
	// jumps
	{"jump N2; trap; back", "2 exit", "1 low 0"},
	{"jump =end; trap; trap; end: back", "2 exit", "1 low 0"},
	{"if A0 N2; trap; int A0 N1; if A0 N1; int A0 N-1; if A0 N1; back", "6 exit", "1 low 0 | 0=-1"},
	{"int A1 N3; goto A1; trap; int A1 N6; goto A1 N2 M2; trap; back", "5 exit", "1 low 0 | 1=6"},
	{"int A1 N3; int A2 N1; again: out A1; arith A1 B1 C2 N1; if A1 =end; jump =again; end: back", "3 out 1 3; 7 out 1 2; 11 out 1 1; 14 exit", "1 low 0 | 2=1"},
	// InOut, InIn
	{"in A1; in A2; in A3; in A6; out A2; out A1; out A6; out A0; back", "1 in 1 7; 2 in 1 -8; 3 in 1 0; 4 in 1 0; 5 out 1 -8; 6 out 1 7; 7 out 1 0; 8 out 1 0; 9 exit",
		"1 low 0 | 1=7 2=-8 6=0"},
	{"in A7; out A7; in A7; out A7; back", "1 in 1 7; 2 out 1 7; 3 in 1 -8; 4 out 1 -8; 5 exit", "1 low 0 | 7=-8"},
	// InNum, InArr
	{"num A0; int A1 N-9; num A1; back", "4 exit", "1 low 0 | 1=-9"},
	{"shift A1 B6 N2; arr A1; arr A6; arr A7; part A2 B1 N2 M1; shift A2 B2 N50; arr A2; part A3 B1 N5; arr A3; back", "10 exit",
		"1 low 0 | 1=602..607@602/3 2=604..605@604/3 3=607..607@607/3 6=602..607@602/3 7=0..600@0/3"},
	// InBack without a crossing: r0 stays, with Tag or not, and so does the stack
	{"int A0 N4; int A1 N5; store A0 B7 N3; back; trap", "4 exit", "1 low 0 | 0=4 1=5 | 3=4 | wrote 3:2"},
	{"copy A0 B6; int A7; back A1 B2 C3 N4 M5", "3 exit", "1 low 0 | 0=602..607@602/23 7=0"},
}

func TestOps(t *testing.T) {
	for _, form := range opForms {
		objs := scene(t, form.code)
		r := wantRun(t, form.code, objs, []int{7, -8}, form.want)
		wantState(t, form.code, objs, r, form.state)
	}
}

// trapForms: code whose last instruction traps. Of an op with several reasons
// to refuse there are those alone and in pairs.
var trapForms = map[int][]string{
	impl.TrapInt: {
		"arith B6", "arith C6", "arith B6 C7", "arith B6 N6", "arith C6 N-1", "arith B6 N3", "load A1 B6; arith B1", "load A1 B6; arith C1 N3",
		"loadat B6 C6", "loadat B1 C6", "loadat B6 C7", "load A1 B6; loadat B6 C1", "load A1 B6; loadat B1 C1", "part A1 B6 M5; loadat B1 C1",
		"storeat B6 C6", "storeat B1 C6", "storeat A7 B6 C7", "load A1 B6; storeat B6 C1", "load A1 B6; storeat A7 B1 C1", "part A1 B6 M5; storeat A6 B1 C1",
		"index A6 B6", "index A7 B6", "load A1 B6; index A6 B1", "part A1 B6 N5; index A1 B1",
		"shift A0 B6 C6 M1", "shift A0 B1 C6 M1", "shift A0 B6 N9000 C7 M1", "load A1 B6; shift A0 B6 C1 M1", "load A1 B6; shift A0 B1 C1 M1",
		"if A6", "if A6 N99", "load A1 B6; if A1 N1", "goto A6", "goto A7", "load A1 B6; goto A1", "out A6", "out A7", "load A1 B6; out A1", "part A1 B6; out A1",
	},
	impl.TrapTag: {
		"load B1", "load B1 N9999", "load A1 B6; load B1", "load A1 B6; load B1 N5", "int A7 N1; load B7",
		"loadat B1 C2", "int A2 N99; loadat B1 C2", "load A1 B6; loadat B1 C2",
		"store B1", "store A6 B1", "store A7 B1 N-9", "load A1 B6; store B1", "load A1 B6; store A1 B1 N5",
		"storeat B1 C2", "int A2 N99; storeat A7 B1 C2", "load A1 B6; storeat A1 B1 C2",
		"part B1", "part B1 N1 M-1", "part B1 N5 M5", "load A1 B6; part B1", "load A1 B6; part A1 B1 N-1 M9",
		"len B1", "load A1 B6; len B1", "int A7; len A6 B7",
		"index A1 B2", "index A1 B6", "int A2 N-1; index A1 B2", "load A1 B6; index A1 B2", "load A1 B6; index A1 B1",
		"shift B1", "shift B1 N9000", "load A1 B6; shift B1", "shift B1 C2 M1", "shift B1 C6 M2", "load A1 B6; shift B1 C2 M1",
		"shift B6 N7399", "shift B6 N-4603", "shift B7 N8001", "shift B7 N-4001", "shift B7 N-8001", "shift B7 N2147483647", "shift B7 N-2147483648",
		"shift A1 B7 N8000; shift A1 B1 N-8001", "shift A1 B7 N-4000; shift A1 B1 N8001", "shift A1 B7 N-4000; shift A1 B1 N-1", "shift A1 B7 N8000; shift A1 B1 N1",
		"int A1 N-8001; shift B7 C1 M1", "int A1 N4001; shift B7 C1 M1", "int A1 N-2147483648; shift B7 N2147483647 C1 M1", "int A1 N2147483647; shift B7 N-2147483648 C1 M1",
		"cross A0", "cross A6", "cross A7 N-1 M4", "int A7; cross A0", "part A4 B6; cross A4 N601", "cross A5 N601",
	},
	impl.TrapBound: {
		"load B6 N5", "load B6 N-1", "load B7 N600", "load B7 N-1", "load B6 N2147483647", "load B6 N-2147483648", "load B7 N602",
		"part A1 B6 N2 M3; load B1 N-2", "part A1 B6 N2 M2; load B1 N2", "part A1 B6 N5; load B1", "part A1 B6 N2; load B1 N-1", "shift A6 B6 N5; load B6",
		"int A1 N5; loadat B6 C1", "int A1 N-1; loadat B6 C1 N1", "int A1 N600; loadat B7 C1", "int A1 N2147483647; loadat B6 C1",
		"store B6 N5", "store A7 B6 N5", "store A6 B6 N-1", "store B7 N600", "store A7 B7 N-1", "part A1 B6 N2 M3; store A6 B1 N3", "part A1 B6 N2 M3; store A7 B1 N-1",
		"int A1 N5; storeat B6 C1", "int A1 N5; storeat A7 B6 C1", "int A1 N-1; storeat B7 C1", "int A1 N-2147483648; storeat B6 C1",
		"part B6 N-1 M1", "part B6 N5 M1", "part B6 N6", "part B6 N1 M-1", "part B6 M6", "part B6 N-1", "part B7 N599 M2", "part B7 M601", "part B7 M-1", "part B7 N600 M-1",
		"part B6 N2147483647 M2147483647", "part B6 N-2147483648 M-2147483648", "part B6 N2147483647 M-2147483648", "shift A1 B6 N-1; part B1 M1", "shift A1 B6 N6; part B1",
		"part A1 B6 N2 M2; part B1 N-1 M1", "part A1 B6 N2 M2; part B1 N1 M2",
	},
	impl.TrapPerm: {
		"part A1 B6 M5; load B1", "part A1 B6 N1 M1; load B1", "part A1 B6 M5; int A2 N1; loadat B1 C2", "arr A6; load B6",
		"store A6 B7; part A1 B7 M9; load B1",
		"store A7 B6", "store A7 B6 N4", "part A1 B6 N2 M3; store A1 B6 N2", "part A1 B7 M3; store A1 B6 N2", "part A1 B6 N2 M3; store A1 B1", "part A1 B6 N2 M3; store A6 B1",
		"part A1 B7 M3; store A7 B1", "load A1 B6; part A2 B6 N2 M3; store A1 B2 N2", "arr A7; store A6 B7", "int A1 N2; storeat A7 B6 C1", "part A1 B6 N2 M3; int A2 N1; storeat A6 B1 C2",
	},
	impl.TrapIns: {
		"arith N6", "arith N-1", "arith N2147483647", "arith B1 C2 N7",
		"trap N-1", "trap N100", "trap N2147483647", "trap N-2147483648",
		"cross M-1", "cross M5", "load A4 B6; cross A4 M-1", "load A4 B6; cross A4 M5", "int A7; cross A6 M5", "load A4 B6; cross A4 N-1 M2147483647", "load A4 B6; int A7; cross A4 N601 M-2147483648",
	},
	impl.TrapIndex: {
		"int A1 N5; index A6 B1", "int A1 N-1; index A6 B1", "int A1 N600; index A7 B1", "part A1 B6 N5; index A1 B0", "part A1 B6 N2 M3; int A2 N3; index A1 B2",
		"int A1 N2147483647; index A6 B1", "int A1 N-2147483648; index A6 B1", "int A1 N602; index A6 B1", "shift A2 B6 N2; int A1 N5; index A2 B1",
	},
	impl.TrapZero: {"arith N3", "int A1 N5; arith B1 N3", "int A1 N-2147483648; arith B1 N3"},
	impl.TrapStack: {
		"room A7 N601", "room A7 N-1", "room A7 N4000", "room A7 N4001", "room A7 N2147483647", "room A6 N6", "room A1", "room A1 N-1", "room A1 N601", "load A1 B6; room A1", "int A7 N600; room A7",
		"shift A7 B7 N601; room A7", "shift A7 B7 N600; room A7 N1", "shift A7 B7 N1; room A7 N600", "shift A1 B7 N-4000; room A1 N4001", "shift A1 B7 N5; room A1 N-1", "shift A1 B6 N5; room A1 N1",
		"load A4 B6; cross A4 N601", "load A4 B6; cross A4 N-1", "load A4 B6; int A7; cross A4", "load A4 B6; copy A7 B4; cross A4", "load A4 B6; shift A7 B7 N-1; cross A4 N1", "load A4 B6; shift A7 B7 N1; cross A4 N600",
		"load A4 B6; shift A7 B7 N601; cross A4", "load A4 B6; copy A7 B6; cross A4", "load A4 B6; copy A7 B6; cross A4 N-602", "load A4 B6; shift A7 B7 N2; cross A4 N-1", "load A4 B6; shift A7 B7 N-4000; cross A4 N4000", "load A7 B6; cross A7",
		"load A4 B6; shift A7 B7 N-1; cross A4 N-1", "load A4 B6; shift A7 B7 N-1; cross A4 N601", "load A4 B6; int A7; cross A4 N601",
	},
	impl.TrapArg: {
		"num A6", "num A7", "load A1 B6; num A1", "part A1 B6 N5; num A1",
		"arr A0", "int A1 N600; arr A1", "load A1 B6; arr A1", "load A1 B6 N1; arr A1",
	},
	impl.TrapUser:      {"trap", "trap A7 B7 C7 M9"},
	impl.TrapUser + 1:  {"trap N1"},
	impl.TrapUser + 98: {"trap N98"},
	impl.TrapUser + 99: {"trap N99"},
	impl.TrapJump: {
		"num A0;", "int A1 N5; copy A1 B6", "jump N-1;", "jump N1", "jump N2147483647", "jump N-2147483648", "if A0 N-1", "if A0 N1", "if A0 N99", "int A1 N-1; goto A1", "int A1 N2; goto A1", "int A1 N2147483647; goto A1", "int A1 N-2147483648; goto A1",
	},
}

// A place that is no instruction is a step of its own, behind what led there.
func TestTrapsOfOps(t *testing.T) {
	for trap, codes := range trapForms {
		for _, code := range codes {
			objs := scene(t, code)
			steps := len(insOfText(t, code))
			if trap == impl.TrapJump {
				steps++
			}
			r := wantRun(t, code, objs, []int{1}, fmt.Sprintf("%d trap %d by 1", steps, trap))
			if r.Mod != 1 || r.Low != 0 {
				t.Errorf("%s: Mod %d, Low %d", code, r.Mod, r.Low)
			}
		}
	}
}

// Who traps need not be the last object, and what trapped is not Code of others.
func TestWhoTrapsInObjects(t *testing.T) {
	objs := codedAll(t,
		"A 1 | f=5, g=6, h=7 # f: trap N5; g: load A1 B0; h: ; ",
		"B 1 | f=5 | A.g=6 # f: load A4 B6; cross A4; back",
		"M 1 | main | A.f=5, B.f=5, A.h=7 # main: in A0; load A4 B6; if A0 =go; load A4 B6 N1; go: cross A4 N3; back")
	objs[0].Exports[2].At = 2
	r := wantRun(t, "the first one", objs, nil, "1 in 2 0; 4 call 2 0.0; 5 trap 16 by 0")
	wantState(t, "the first one", objs, r, "0 low 3 | read 603:4")
	r = wantRun(t, "two crossings deep", objs, []int{1}, "1 in 2 1; 5 call 2 1.0; 7 call 1 0.1; 8 trap 1 by 0")
	wantState(t, "two crossings deep", objs, r, "0 low 3 | read 601:2 603:4 604:4")
	objs[2] = coded(t, "M 1 | main | A.f=5, B.f=5, A.h=7 # load A4 B6 N2; cross A4 N600; back")
	r = wantRun(t, "no code at the export", objs, nil, "2 call 2 0.2; 3 trap 9 by 0")
	wantState(t, "no code at the export", objs, r, "0 low 600 | read 605:4")
	objs[1].Code = nil
	objs[2] = coded(t, "M 1 | main | A.f=5, B.f=5, A.h=7 # load A4 B6 N1; cross A4 N7; back")
	r = wantRun(t, "no code at all", objs, nil, "2 call 2 1.0; 3 trap 9 by 1")
	wantState(t, "no code at all", objs, r, "1 low 7 | read 604:4")
}

// Behind the last whole instruction there is none, whatever bytes are left.
func TestCodeThatIsNoWhole(t *testing.T) {
	part, _ := impl.Encode([]impl.Ins{{Op: impl.InBack}})
	for _, code := range []string{"", "num A0", "num A0; num A1"} {
		count := len(insOfText(t, code))
		for more := range 12 {
			objs := scene(t, code)
			objs[1].Code = append(objs[1].Code, part[:more]...)
			wantRun(t, "a part of an instruction", objs, nil, fmt.Sprintf("%d trap 9 by 1", count+1))
			objs = scene(t, fmt.Sprintf("jump N%d; %s", count+1, code))
			objs[1].Code = append(objs[1].Code, part[:more]...)
			wantRun(t, "a jump to a part", objs, nil, "2 trap 9 by 1")
			objs[1].Code = append(objs[1].Code, part[more:]...)
			wantRun(t, "a jump to the last one", objs, nil, "2 exit")
		}
	}
	for _, at := range []int{0, 1, 2, 3, 749, 750, 4000} {
		objs := codedAll(t, "M | main # trap; back")
		objs[0].Exports[0].At = at
		want := "1 trap 9 by 0"
		if at < 2 {
			want = []string{"1 trap 11 by 0", "1 exit"}[at]
		}
		wantRun(t, fmt.Sprint("main at ", at), objs, nil, want)
	}
	objs := codedAll(t, "M | main # main: jump N749")
	for len(objs[0].Code) < 9000-12 {
		objs[0].Code = append(objs[0].Code, 0)
	}
	objs[0].Code = append(objs[0].Code, part...)
	wantRun(t, "the last of as many as may be", objs, nil, "2 exit")
	objs[0].Code[5]++
	wantRun(t, "far behind", objs, nil, "2 trap 9 by 0")
}

// Bytes that are none trap, whatever the op asks for; what lies behind them
// does not count.
func TestBytesThatAreNoInstruction(t *testing.T) {
	for op := range 256 {
		for _, regs := range [][3]int{{0, 0, 0}, {7, 7, 7}, {8, 0, 0}, {0, 8, 0}, {0, 0, 8}, {255, 255, 255}} {
			objs := scene(t, "num A0; back")
			objs[1].Code[0], objs[1].Code[1], objs[1].Code[2], objs[1].Code[3] = byte(op), byte(regs[0]), byte(regs[1]), byte(regs[2])
			none := op < 1 || op > 22 || max(regs[0], regs[1], regs[2]) > 7
			r := impl.Run(objs, nil, 1)
			if none {
				wantRun(t, fmt.Sprint(op, regs), objs, nil, "1 trap 4 by 1")
			} else if op != impl.InArith && r.Code == impl.TrapIns {
				t.Errorf("%d %v is none", op, regs)
			}
		}
	}
}

// crossForms: M crosses to A, whose data are 600 and 601; M's are 602 .. 606,
// as in a scene.
var crossForms = []struct {
	a, m  string
	want  string
	state string
}{
	// what is handed over, and what not
	{"f: back; g: int A0 N9; back", "int A0 N4; int A1 N5; load A4 B6; cross A4; back", "4 call 1 0.0; 5 back 0 1 0; 6 exit", "1 low 0 | read 602:2"},
	{"f: back; g: int A0 N9; back", "int A0 N4; int A1 N5; load A4 B6 N1; cross A4 M2; back", "4 call 1 0.1 4 5; 6 back 0 1 9; 7 exit", "1 low 0 | 0=9 | read 603:2"},
	{"f: back; g: back", "int A0 N4; load A4 B6; cross A4 M1; back", "3 call 1 0.0 4; 4 back 0 1 4; 5 exit", "1 low 0 | 0=4 | read 602:2"},
	{"f: trap; g: trap", "int A0 N1; int A1 N2; int A2 N3; int A3 N4; int A5 N6; load A4 B6; cross A4 N20 M4; back", "7 call 1 0.0 1 2 3 4; 8 trap 11 by 0", "0 low 20 | 0=1 1=2 2=3 3=4 | read 602:2"},
	{"f: trap; g: trap", "int A0 N1; int A1 N2; int A2 N3; int A3 N4; int A5 N6; load A4 B6; cross A4 N20 M3; back", "7 call 1 0.0 1 2 3; 8 trap 11 by 0", "0 low 20 | 0=1 1=2 2=3 | read 602:2"},
	{"f: trap; g: trap", "int A0 N1; int A1 N2; int A2 N3; int A3 N4; int A5 N6; load A4 B6; cross A4 N20 M0; back", "7 call 1 0.0; 8 trap 11 by 0", "0 low 20 | read 602:2"},
	{"f: trap; g: trap", "copy A0 B6; copy A1 B7; load A2 B6 N1; part A3 B6 N2 M3; load A4 B6; cross A4 N9 M4; back", "6 call 1 0.0 @5 @600 @0 @3; 7 trap 11 by 0",
		"0 low 9 | 0=602..607@602/7 1=0..600@0/15 2=0.1/0 3=604..607@604/3 | read 602:2 603:2"},
	{"f: trap; g: trap", "shift A0 B6 N3; load A1 B6 N1; part A2 B6 N5; int A3 N-1; cross A1 N600 M4; back", "5 call 1 0.1 @5 @0 @0 -1; 6 trap 11 by 0",
		"0 low 600 | 0=602..607@605/7 1=0.1/0 2=607..607@607/3 3=-1 | read 603:2"},
	// behind the way back: the result, 6 and 7 as they were at the crossing, all others zero
	{"f: int A0 N7; int A1 N8; int A6; int A7; back; g: back", "int A1 N5; int A2 N6; int A3 N7; int A5 N9; shift A6 B6 N2; shift A7 B7 N4; load A4 B6 N-2; cross A4 N3; out A0; back",
		"8 call 1 0.0; 13 back 0 1 7; 14 out 1 7; 15 exit", "1 low 0 | 0=7 6=602..607@604/23 7=0..600@4/15 | read 602:2"},
	{"f: copy A0 B6; back; g: copy A0 B7; back", "load A4 B6; cross A4; out A0; load A4 B6 N1; int A6 N3; int A0 N5; cross A4 M1; out A0; back",
		"2 call 1 0.0; 4 back 0 1 0; 5 out 1 0; 9 call 1 0.1 5; 11 back 0 1 0; 12 out 1 0; 13 exit", "1 low 0 | 6=3 | read 602:2 603:2"},
	{"f: back; g: back", "load A4 B6; copy A0 B4; cross A4 M1; back", "3 call 1 0.0 @0; 4 back 0 1 0; 5 exit", "1 low 0 | read 602:2"},
	// the stack: below Low as it was, from there on zero on both sides
	{"f: int A0 N8; store A0 B7; store A0 B7 N596; load A1 B7 N1; out A1; back; g: back",
		"int A0 N6; store A0 B7; store A0 B7 N2; store A0 B7 N3; store A0 B7 N4; store A0 B7 N599; load A4 B6; cross A4 N3; load A1 B7 N3; out A1; load A1 B7 N2; out A1; back",
		"8 call 1 0.0; 13 out 0 0; 14 back 0 1 8; 16 out 1 0; 18 out 1 6; 19 exit", "1 low 0 | 0=8 1=6 | 0=6 2=6 | wrote 0:2 2:2 3:3 4:2 599:3 | read 2:2 3:2 4:1 602:2"},
}

func TestCrossingsOfObjects(t *testing.T) {
	for _, form := range crossForms {
		objs := codedAll(t, "A 2 | f=5, g=6 # "+form.a, "M 3 | main | A.f=5, A.g=6 # "+form.m)
		r := wantRun(t, form.m, objs, nil, form.want)
		wantState(t, form.m, objs, r, form.state)
	}
}

// What stands where behind each step: a crossing and its way back.
func TestEachStepOfACrossing(t *testing.T) {
	objs := codedAll(t,
		"A 1 | f=5 # f: store A0 B7 N1; store A0 B6; back",
		"M 1 | main | A.f=5 # int A0 N6; store A0 B7 N1; store A0 B7 N5; load A4 B6; cross A4 N2 M1; back")
	for fuel, want := range []string{
		"1 low 0",
		"1 low 0 | 0=6",
		"1 low 0 | 0=6 | 1=6 | wrote 1:2",
		"1 low 0 | 0=6 | 1=6 5=6 | wrote 1:2 5:2",
		"1 low 0 | 0=6 4=0.0/16 | 1=6 5=6 | wrote 1:2 5:2 | read 601:2",
		"0 low 2 | 0=6 | 1=6 | wrote 1:2 5:2 | read 601:2",
		"0 low 2 | 0=6 | 1=6 3=6 | wrote 1:2 3:1 5:2 | read 601:2",
		"0 low 2 | 0=6 | 1=6 3=6 600=6 | wrote 1:2 3:1 5:2 600:1 | read 601:2",
		"1 low 0 | 0=6 | 1=6 600=6 | wrote 1:2 3:1 5:2 600:1 | read 601:2",
		"1 low 0 | 0=6 | 1=6 600=6 | wrote 1:2 3:1 5:2 600:1 | read 601:2",
	} {
		wantState(t, fmt.Sprint("fuel ", fuel), objs, impl.Run(objs, nil, fuel), want)
	}
	wantRun(t, "all of it", objs, nil, "5 call 1 0.0 6; 8 back 0 1 6; 9 exit")
}

// A crossing from any way in register 7 that points into the stack from Low on.
func TestWhereTheStackGoesOn(t *testing.T) {
	for _, form := range []struct {
		setup string
		n     int
		low   int
	}{
		{"num A0", 0, 0}, {"num A0", 1, 1}, {"num A0", 600, 600}, {"shift A7 B7 N5", 0, 5}, {"shift A7 B7 N5", 595, 600}, {"shift A7 B7 N600", 0, 600},
		{"part A7 B7 N7 M2", 0, 7}, {"part A7 B7 N7 M2", 9, 16}, {"shift A7 B6 N-602", 0, 0}, {"shift A7 B6 N-590", 3, 15}, {"shift A7 B6 N-2", 0, 600},
	} {
		what := fmt.Sprint(form.setup, " N", form.n)
		objs := codedAll(t,
			"A 2 | f=5 # f: copy A3 B7; trap",
			fmt.Sprintf("M 3 | main | A.f=5, A.f=5 # %s; load A4 B6; cross A4 N%d; back", form.setup, form.n))
		r := wantRun(t, what, objs, nil, "3 call 1 0.0; 5 trap 11 by 0")
		wantState(t, what, objs, r, fmt.Sprintf("0 low %d | 3=%d..600@%d/15 | read 602:2", form.low, form.low, form.low))
	}
	// What points below Low points into the stack of who crossed.
	for _, form := range []struct {
		f, want string
		low     int
	}{
		{"cross A0", "2 call 1 0.0 @0; 3 call 0 0.0; 4 trap 1 by 0", 10},
		{"cross A0 N590", "2 call 1 0.0 @0; 3 call 0 0.0; 4 trap 1 by 0", 600},
		{"cross A0 N591", "2 call 1 0.0 @0; 3 trap 7 by 0", 10},
		{"shift A7 B7 N-1; cross A0 N1", "2 call 1 0.0 @0; 4 trap 7 by 0", 10},
		{"shift A7 B7 N-1; cross A0", "2 call 1 0.0 @0; 4 trap 7 by 0", 10},
		{"part A7 B7 N4; cross A0 N1", "2 call 1 0.0 @0; 4 call 0 0.0; 6 trap 1 by 0", 15},
	} {
		objs := codedAll(t, "A 2 | f=5 # f: "+form.f+"; back", "M 3 | main | A.f=5 # load A0 B6; cross A0 N10 M1; back")
		if r := wantRun(t, form.f, objs, nil, form.want); r.Low != form.low || r.Mod != 0 {
			t.Errorf("%s: Mod %d, Low %d", form.f, r.Mod, r.Low)
		}
	}
}

// MaxCross crossings may be under way, and no more, whoever crosses.
func TestDeepCrossings(t *testing.T) {
	want := "2 call 1 0.0 @0; "
	for step := 3; step <= 21; step++ {
		want += fmt.Sprintf("%d call 0 0.0 @0; ", step)
	}
	deep := func(frame int) []impl.Object {
		return codedAll(t,
			fmt.Sprintf("A | f=5 # f: cross A0 N%d M1; back", frame),
			fmt.Sprintf("M | main | A.f=5 # load A0 B6; cross A0 N%d M1; back", frame))
	}
	for _, frame := range []int{0, 1, 29, 30} {
		r := wantRun(t, fmt.Sprint("a frame of ", frame), deep(frame), nil, want+"22 deep")
		wantState(t, "deep", deep(frame), r, fmt.Sprintf("0 low %d | 0=0.0/0 | read 600:2", 20*frame))
	}
	cut := strings.TrimSuffix(want, "21 call 0 0.0 @0; ")
	r := wantRun(t, "a stack that is too short", deep(31), nil, cut+"21 trap 7 by 0")
	wantState(t, "a stack that is too short", deep(31), r, fmt.Sprintf("0 low %d | 0=0.0/0 | read 600:2", 19*31))
}

// down counts register 1 down by crossings of f to itself, as deep as it says;
// at the bottom the code that is handed in is done.
func down(t *testing.T, from int, bottom string) []impl.Object {
	t.Helper()
	return codedAll(t,
		"A 2 | f=5 # f: if A1 =bottom; int A2 N1; arith A1 B1 C2 N1; cross A0 N2 M2; int A2 N1; arith A0 B0 C2; back; bottom: "+bottom,
		fmt.Sprintf("M | main | A.f=5 # again: load A0 B6; int A1 N%d; cross A0 N1 M2; out A0; in A1; if A1 =end; jump =again; end: back", from))
}

// What was left is under way no more: as many crossings can follow.
func TestBackFromTheDeep(t *testing.T) {
	for from := range 22 {
		r := impl.Run(down(t, from, "int A0 N1; back"), []int{1, 1}, impl.MaxFuel)
		if from >= 20 {
			if r.End != impl.EndDeep || len(r.Events) != 20 || r.Low != 1+2*19 || r.Mod != 0 || r.Code != 0 || r.Who != 0 {
				t.Errorf("from %d: %d, %d events, Low %d", from, r.End, len(r.Events), r.Low)
			}
			continue
		}
		var want []string
		for round := range 3 {
			args := " 0.0 @0 "
			for n := from; n >= 0; n-- {
				want = append(want, fmt.Sprint("call ", truthByRule(n == from), args, n))
			}
			for n := range from + 1 {
				want = append(want, fmt.Sprint("back 0 ", truthByRule(n == from), " ", n+1))
			}
			want = append(want, fmt.Sprint("out 1 ", from+1), fmt.Sprint("in 1 ", truthByRule(round < 2)))
		}
		var got []string
		for _, e := range r.Events {
			got = append(got, eventText(e))
		}
		if r.End != impl.EndExit || r.Low != 0 || r.Mod != 1 || !slices.Equal(got, want) {
			t.Errorf("from %d: %d, %v, want\n%v", from, r.End, got, want)
		}
	}
}

// crossFaults: how a crossing at the bottom of down is refused, by what it
// tells of each alone.
var crossFaults = []struct {
	want    string
	changes []func(c *crossing)
}{
	{"trap 4 by 0", []func(c *crossing){func(c *crossing) { c.m = -1 }, func(c *crossing) { c.m = 5 }, func(c *crossing) { c.m = math.MinInt32 }}},
	{"trap 1 by 0", []func(c *crossing){func(c *crossing) { c.a = 1 }, func(c *crossing) { c.a = 6 }, func(c *crossing) { c.a = 5 }}},
	{"deep", []func(c *crossing){func(c *crossing) { c.deep = 19 }}},
	{"trap 7 by 0", []func(c *crossing){
		func(c *crossing) { c.setup = "int A7 N50" },
		func(c *crossing) { c.setup = "copy A7 B0" },
		func(c *crossing) { c.setup, c.n = "shift A7 B7 N-1", 1 },
		func(c *crossing) { c.n = -1 },
		func(c *crossing) { c.setup, c.n = "shift A7 B7 N9", -1 },
		func(c *crossing) { c.setup, c.n = "shift A7 B7 N-9", 601 },
		func(c *crossing) { c.n = 600 },
		func(c *crossing) { c.setup, c.n = "copy A7 B6", 1 },
	}},
}

type crossing struct {
	setup   string
	deep    int
	a, n, m int
}

func (c crossing) objs(t *testing.T) []impl.Object {
	return down(t, c.deep, fmt.Sprintf("copy A5 B6; %s; cross A%d N%d M%d; back", c.setup, c.a, c.n, c.m))
}

// Of every two reasons, and of every three and four, the first one is told.
func TestWhichReasonOfACrossingIsTold(t *testing.T) {
	plain := crossing{setup: "num A1", deep: 3, m: 1}
	if r := impl.Run(plain.objs(t), nil, 19); len(r.Events) != 5 || r.Events[4].From != 0 {
		t.Fatalf("no fault: %+v", outcomeOf(r))
	}
	var combine func(group int, c crossing, want string)
	combine = func(group int, c crossing, want string) {
		if want != "" {
			r := impl.Run(c.objs(t), nil, 1000)
			if got := endText(outcomeOf(r)); got != want || len(r.Events) != c.deep+1 {
				t.Errorf("%+v: %s behind %d events, want %s", c, got, len(r.Events), want)
			}
		}
		for ; group < len(crossFaults); group++ {
			for _, change := range crossFaults[group].changes {
				changed, told := c, want
				change(&changed)
				if told == "" {
					told = crossFaults[group].want
				}
				combine(group+1, changed, told)
			}
		}
	}
	combine(0, plain, "")
}

// Each way back goes to who crossed last: by C, B and A, and over again.
func TestWaysBack(t *testing.T) {
	objs := codedAll(t,
		"A 1 | f=1, g=2 # f: out A0; int A0 N10; back; g: int A7; int A6; int A0 N11; back",
		"B 1 | f=3 | A.f=1, A.g=2 # f: store A0 B7; load A4 B6; cross A4 N3 M1; out A0; load A4 B6 N1; cross A4 N5; out A0; load A0 B7; back",
		"C 1 | main | B.f=3, A.f=1 # int A0 N7; store A0 B7 N1; load A4 B6; cross A4 N4 M1; out A0; load A4 B6 N1; cross A4 N6 M1; out A0; load A0 B7 N1; out A0; back")
	r := wantRun(t, "three objects", objs, nil,
		"4 call 2 1.0 7; 7 call 1 0.0 7; 8 out 0 7; 10 back 0 1 10; 11 out 1 10; 13 call 1 0.1; 17 back 0 1 11; 18 out 1 11; 20 back 1 2 7; 21 out 2 7;"+
			"23 call 2 0.0 7; 24 out 0 7; 26 back 0 2 10; 27 out 2 10; 29 out 2 7; 30 exit")
	wantState(t, "three objects", objs, r, "2 low 0 | 0=7 | 1=7 | wrote 1:4 4:2 | read 1:4 4:2 601:2 602:2 604:4 605:4")
	for fuel, want := range map[int]string{
		4:  "1 low 4 | 0=7 | 1=7 | wrote 1:4 | read 604:4",
		7:  "0 low 7 | 0=7 | 1=7 4=7 | wrote 1:4 4:2 | read 601:2 604:4",
		10: "1 low 4 | 0=10 | 1=7 4=7 | wrote 1:4 4:2 | read 601:2 604:4",
		13: "0 low 9 | 1=7 4=7 | wrote 1:4 4:2 | read 601:2 602:2 604:4",
		16: "0 low 9 | 0=11 6=0 7=0 | 1=7 4=7 | wrote 1:4 4:2 | read 601:2 602:2 604:4",
		17: "1 low 4 | 0=11 | 1=7 4=7 | wrote 1:4 4:2 | read 601:2 602:2 604:4",
		20: "2 low 0 | 0=7 | 1=7 | wrote 1:4 4:2 | read 4:2 601:2 602:2 604:4",
		23: "0 low 6 | 0=7 | 1=7 | wrote 1:4 4:2 | read 4:2 601:2 602:2 604:4 605:4",
	} {
		wantState(t, fmt.Sprint("fuel ", fuel), objs, impl.Run(objs, nil, fuel), want)
	}
}

// What is handed over can be used, handed on and kept on the stack, but not in
// the data; what crossings make zero is told of nobody.
func TestWhoGoesThroughOneWord(t *testing.T) {
	objs := codedAll(t,
		"A 2 | f=1 # f: len A1 B0; out A1; load A1 B0 N1; out A1; int A1 N30; store A1 B0 N1; store A0 B7; load A2 B7; load A1 B2 N1; out A1; int A3 N1; storeat A1 B0 C3; store A0 B6; back",
		"B 2 | f=2 | A.f=1 # f: int A1 N20; store A1 B0 N1; load A4 B6; shift A0 B0 N50; arr A0; cross A4 N1 M1; back",
		"C 2 | main | B.f=2 # int A1 N10; store A1 B6 N2; part A0 B6 N1 M2; load A4 B6; cross A4 N2 M1; back")
	r := wantRun(t, "a part handed on", objs, nil,
		"5 call 2 1.0 @2; 11 call 1 0.0 @2; 13 out 0 2; 15 out 0 20; 21 out 0 30; 24 trap 3 by 0")
	wantState(t, "a part handed on", objs, r,
		"0 low 3 | 0=606..608@606/3 1=30 2=606..608@606/3 3=1 | 3=606..608@606/3 607=30 | wrote 3:1 607:7 | read 3:1 602:2 605:4 607:1")
	objs[0] = coded(t, "A 2 | f=1 # f: load A1 B0 N1; out A1; back")
	r = wantRun(t, "a part handed on and back", objs, nil,
		"5 call 2 1.0 @2; 11 call 1 0.0 @2; 13 out 0 20; 14 back 0 1 0; 15 back 1 2 0; 16 exit")
	wantState(t, "a part handed on and back", objs, r, "2 low 0 | 607=20 | wrote 607:6 | read 602:2 605:4 607:1")
	// Its own data, a stack and an entry, each without CanGo, can't be kept in data.
	for _, handed := range []string{"copy A0 B6", "copy A0 B7", "load A0 B6", "part A0 B6 N1 M1"} {
		for keep, end := range map[string]string{"store A0 B6": "6 trap 3 by 0", "store A0 B7": "7 back 0 2 0; 8 exit", "store A0 B6 N2": "6 trap 2 by 0", "load A1 B7; store A0 B7": "8 back 0 2 0; 9 exit"} {
			objs := codedAll(t,
				"A 2 | f=1 # f: num A1; "+keep+"; back", "B", "C 2 | main | A.f=1 # num A1; "+handed+"; load A4 B6; cross A4 M1; back")
			r := impl.Run(objs, nil, 100)
			size := map[string]int{"copy A0 B6": 3, "copy A0 B7": 600, "part A0 B6 N1 M1": 1}[handed]
			wantRun(t, handed+"; "+keep, objs, nil, fmt.Sprintf("4 call 2 0.0 @%d; %s", size, end))
			if r.Words[600].Tag || r.Words[601].Tag || r.Words[0].Tag {
				t.Errorf("%s; %s: %s", handed, keep, stateText(objs, r))
			}
		}
	}
}
