package tests

import (
	"fmt"
	"math"
	"math/rand"
	"slices"
	"strings"
	"testing"

	"loop.example/g00335/impl"
)

// wilds reads ".x": of two modules the last one is bytes of anything.
func wilds(text string) []bool {
	var l []bool
	for _, letter := range text {
		l = append(l, letter == 'x')
	}
	return l
}

func wildsText(l []bool) string {
	text := ""
	for _, is := range l {
		text += string(".x"[truthByRule(is)])
	}
	return text
}

// actionText is "call 0.2 5 @3" (To and Proc, Args, and "N7" where that is not
// 0), "back 7", "out 7", "in" or "trap 7", with all fields behind it where one
// is not zero that must be.
func actionText(a impl.Action) string {
	text := ""
	rest := a
	rest.Kind, rest.N = 0, 0
	switch a.Kind {
	case impl.AcCall:
		text = fmt.Sprintf("call %d.%d", a.To, a.Proc)
		for _, arg := range a.Args {
			text += " " + argText(arg)
		}
		if a.N != 0 {
			text += fmt.Sprintf(" N%d", a.N)
		}
		rest.To, rest.Proc, rest.Args = 0, 0, nil
	case impl.AcBack:
		text = fmt.Sprintf("back %d", a.N)
	case impl.AcOut:
		text = fmt.Sprintf("out %d", a.N)
	case impl.AcIn:
		text = "in"
		rest.N = a.N
	case impl.AcTrap:
		text = fmt.Sprintf("trap %d", a.N)
	}
	if text == "" || rest.To != 0 || rest.Proc != 0 || rest.N != 0 || len(rest.Args) != 0 {
		return fmt.Sprintf("%s %+v", text, a)
	}
	return text
}

func scriptText(l []impl.Action, ok bool) string {
	var parts []string
	for _, a := range l {
		parts = append(parts, actionText(a))
	}
	text := strings.Join(parts, "; ")
	if !ok {
		return "refused" + text
	}
	return text
}

func scriptOf(r impl.Result, wild []bool) string { return scriptText(impl.Back(r, wild)) }

func wantBack(t *testing.T, what string, r impl.Result, wild []bool, want string) {
	t.Helper()
	if got := scriptOf(r, wild); got != want {
		t.Errorf("%s: Back of %s, %q\n%s, want\n%s", what, wildsText(wild), endOf(r), got, want)
	}
}

func endOf(r impl.Result) string { return fmt.Sprintf("%d %d by %d", r.End, r.Code, r.Who) }

func happened(l ...impl.Event) impl.Result { return impl.Result{End: impl.EndFuel, Events: l} }

func evCall(from, to, proc int, args ...impl.Arg) impl.Event {
	return impl.Event{Kind: impl.EvCall, From: from, To: to, Proc: proc, Args: args}
}

func evBack(from, to, n int) impl.Event {
	return impl.Event{Kind: impl.EvBack, From: from, To: to, N: n}
}

func evOut(from, n int) impl.Event { return impl.Event{Kind: impl.EvOut, From: from, N: n} }

func evIn(from, n int) impl.Event { return impl.Event{Kind: impl.EvIn, From: from, N: n} }

// fullEvent has every field set.
func fullEvent(kind, from int) impl.Event {
	return impl.Event{Kind: kind, From: from, To: 3, Proc: 4, Args: []impl.Arg{{N: 5}, {Arr: true, N: 6}}, N: 7}
}

// farInts are no modules, as near and as far as ints go.
var farInts = []int{-1, -2, -8, 8, 9, 100, math.MaxInt32, math.MinInt32, 1 << 32, -1 << 32, 1<<32 + 1, math.MaxInt, math.MinInt, math.MaxInt - 1, math.MinInt + 1}

// everyWild calls each with all that wild can be of so many.
func everyWild(most int, each func(wild []bool)) {
	for size := 1; size <= most; size++ {
		for mask := range 1 << size {
			wild := make([]bool, size)
			for i := range wild {
				wild[i] = mask>>i&1 == 1
			}
			each(wild)
		}
	}
}

func TestOrdinaryBack(t *testing.T) {
	r := impl.Result{End: impl.EndExit, Mod: 2, Steps: 40, Events: []impl.Event{
		evIn(2, 9), evCall(2, 1, 0, anInt(9), anInt(-1)), evOut(1, 3), evCall(1, 0, 2), evIn(0, 8), evOut(0, 8), evBack(0, 1, -8),
		evBack(1, 2, 4), evOut(2, 4),
	}}
	for wild, want := range map[string]string{
		"...": "",
		"x..": "in; out 8; back -8",
		".x.": "out 3; call 0.2; back 4",
		"xx.": "out 3; call 0.2; in; out 8; back -8; back 4",
		"..x": "in; call 1.0 9 -1; out 4; back 0",
		"x.x": "in; call 1.0 9 -1; in; out 8; back -8; out 4; back 0",
		".xx": "in; call 1.0 9 -1; out 3; call 0.2; back 4; out 4; back 0",
		"xxx": "in; call 1.0 9 -1; out 3; call 0.2; in; out 8; back -8; back 4; out 4; back 0",
	} {
		wantBack(t, "a run that came to its end", r, wilds(wild), want)
	}
}

func TestKindsOfEvents(t *testing.T) {
	told := map[int]string{impl.EvCall: "call 3.4 5 @6 N7", impl.EvBack: "back 7", impl.EvOut: "out 7", impl.EvIn: "in"}
	if len(told) != 4 || impl.EvCall != 0 || impl.EvIn != 3 {
		t.Fatal("the kinds are other ones")
	}
	kinds := append([]int{0, 1, 2, 3, 4, 5, 6, 7, 256, 259}, farInts...)
	for _, kind := range kinds {
		what := fmt.Sprint("kind ", kind)
		wantBack(t, what, happened(fullEvent(kind, 1)), wilds(".x"), told[kind])
		wantBack(t, what, happened(fullEvent(kind, 0)), wilds(".x"), "")
		want := "out 1"
		if told[kind] != "" {
			want += "; " + told[kind]
		}
		wantBack(t, what, happened(evOut(0, 1), fullEvent(kind, 0), evOut(0, 2)), wilds("x"), want+"; out 2")
	}
}

func TestNumbersOfEvents(t *testing.T) {
	for _, n := range append([]int{0, 1, 2, 3, 7}, farInts...) {
		r := happened(
			impl.Event{Kind: impl.EvCall, To: n}, impl.Event{Kind: impl.EvCall, Proc: n}, impl.Event{Kind: impl.EvCall, N: n},
			evBack(0, 5, n), evBack(0, n, 5), evOut(0, n), evIn(0, n),
			evCall(0, 1, 2, anInt(n)), evCall(0, 1, 2, anArray(n)))
		call := "call 0.0"
		if n != 0 {
			call += fmt.Sprint(" N", n)
		}
		wantBack(t, fmt.Sprint("with ", n), r, wilds("x"),
			fmt.Sprintf("call %d.0; call 0.%d; %s; back %d; back 5; out %d; in; call 1.2 %d; call 1.2 @%d", n, n, call, n, n, n, n))
	}
}

// What is no call has no To, no Proc and no Args, and what is read is not told.
func TestFieldsOfActions(t *testing.T) {
	l, ok := impl.Back(happened(fullEvent(0, 0), fullEvent(1, 0), fullEvent(2, 0), fullEvent(3, 0)), wilds("x"))
	if !ok || len(l) != 4 {
		t.Fatal(l, ok)
	}
	want := []impl.Action{{Kind: 0, To: 3, Proc: 4, N: 7}, {Kind: 1, N: 7}, {Kind: 2, N: 7}, {Kind: 3}}
	for i, a := range l {
		w := want[i]
		if a.Kind != w.Kind || a.To != w.To || a.Proc != w.Proc || a.N != w.N || len(a.Args) != 2*truthByRule(i == 0) {
			t.Errorf("%+v, want %+v", a, w)
		}
	}
	if !slices.Equal(l[0].Args, []impl.Arg{{N: 5}, {Arr: true, N: 6}}) {
		t.Error(l[0].Args)
	}
}

func TestArgsOfCalls(t *testing.T) {
	for text, args := range map[string][]impl.Arg{
		"":                 nil,
		" 0":               {{}},
		" @0":              {{Arr: true}},
		" 5":               {{N: 5}},
		" @5":              {{Arr: true, N: 5}},
		" 1 2 3 4":         {{N: 1}, {N: 2}, {N: 3}, {N: 4}},
		" @1 @2 @3 @4":     {{Arr: true, N: 1}, {Arr: true, N: 2}, {Arr: true, N: 3}, {Arr: true, N: 4}},
		" 1 @2 3 @-4":      {{N: 1}, {Arr: true, N: 2}, {N: 3}, {Arr: true, N: -4}},
		" @1 2 3 4 5 6 @7": {{Arr: true, N: 1}, {N: 2}, {N: 3}, {N: 4}, {N: 5}, {N: 6}, {Arr: true, N: 7}},
	} {
		wantBack(t, "one call", happened(evCall(1, 0, 3, args...)), wilds("xx"), "call 0.3"+text)
		wantBack(t, "a call of another one", happened(evCall(0, 0, 3, args...)), wilds(".x"), "")
		wantBack(t, "two calls", happened(evCall(0, 1, 2, args...), evCall(0, 0, 0), evCall(0, 1, 2, args...)), wilds("x"),
			"call 1.2"+text+"; call 0.0; call 1.2"+text)
	}
	wantBack(t, "a list of length 0", happened(evCall(0, 1, 2, []impl.Arg{{N: 9}}[:0]...)), wilds("x"), "call 1.2")
	many := repeated(5000, anInt(3))
	wantBack(t, "very many", happened(evCall(0, 1, 2, many...)), wilds("x"), "call 1.2"+strings.Repeat(" 3", 5000))
}

// Each event is told just if it is From one of them.
func TestWhoseEvents(t *testing.T) {
	froms := append([]int{0, 1, 2, 3, 4, 5, 6, 7}, farInts...)
	var l []impl.Event
	for i, from := range froms {
		l = append(l, evOut(from, 100+i), evIn(from, 5))
	}
	everyWild(8, func(wild []bool) {
		var want []string
		for i, is := range wild {
			if is {
				want = append(want, fmt.Sprintf("out %d; in", 100+i))
			}
		}
		wantBack(t, "events From all", happened(l...), wild, strings.Join(want, "; "))
	})
	for _, from := range farInts {
		for kind := range 4 {
			for _, wild := range []string{"x", "xx", "xxxxxxxx"} {
				wantBack(t, fmt.Sprintf("kind %d From %d", kind, from), happened(fullEvent(kind, from)), wilds(wild), "")
			}
		}
	}
}

// To tells nothing of who did it.
func TestEventsToOthers(t *testing.T) {
	for to := -1; to < 4; to++ {
		wantBack(t, "From none of them", happened(evCall(0, to, 0), evBack(0, to, 5)), wilds(".x"), "")
		wantBack(t, "From one of them", happened(evCall(1, to, 0), evBack(1, to, 5)), wilds(".x"), fmt.Sprintf("call %d.0; back 5", to))
	}
}

func TestLengthsOfWild(t *testing.T) {
	r := happened(evOut(0, 1), evOut(1, 2), evOut(7, 3), evOut(8, 4))
	for size := range 30 {
		for _, letter := range []string{"x", "."} {
			wild := wilds(strings.Repeat(letter, size))
			want := ""
			switch {
			case size == 0 || size > 8:
				want = "refused"
			case letter == "x":
				want = strings.Join(strings.Split("out 1; out 2; out 3", "; ")[:1+truthByRule(size > 1)+truthByRule(size > 7)], "; ")
			}
			wantBack(t, fmt.Sprint(size, " of wild"), r, wild, want)
			if size == 0 || size > 8 {
				for _, empty := range []impl.Result{{}, {End: impl.EndExit}, {End: impl.EndTrap}} {
					wantBack(t, fmt.Sprint(size, " of wild, no events"), empty, wild, "refused")
				}
			}
		}
	}
	wantBack(t, "no list", r, nil, "refused")
	wantBack(t, "a list of length 0", r, []bool{true, true}[:0], "refused")
	wantBack(t, "very many", r, make([]bool, 100000), "refused")
	if impl.MaxMods != 8 || impl.MaxScript != 2000 {
		t.Error("the limits are other ones")
	}
}

// A wild that is shorter or longer than there are modules.
func TestWildAndModules(t *testing.T) {
	objs := codedAll(t,
		"A | f=5 # f: out A0; back",
		"B | g=6 | A.f=5 # g: load A4 B6; int A0 N7; cross A4 M1; back",
		"C | main | B.g=6 # load A4 B6; cross A4; trap N2")
	r := impl.Run(objs, nil, 100)
	for wild, want := range map[string]string{
		"x":        "out 7; back 7",
		".":        "",
		"xx":       "call 0.0 7; out 7; back 7; back 7",
		".x":       "call 0.0 7; back 7",
		"..x":      "call 1.0; trap 13",
		"..xx":     "call 1.0; trap 13",
		"..x.":     "call 1.0; trap 13",
		"...xxxxx": "",
		"xxxxxxxx": "call 1.0; call 0.0 7; out 7; back 7; back 7; trap 13",
	} {
		wantBack(t, "three modules", r, wilds(wild), want)
	}
	// Whether main goes back is told by the last of wild, whatever module that is.
	objs[2] = coded(t, "C | main | B.g=6 # back")
	r = impl.Run(objs, nil, 100)
	for wild, want := range map[string]string{"..x": "back 0", "...": "", "x": "back 0", ".x": "back 0", "..x.": "", "..xx": "back 0", "...x": "back 0", "xx.": ""} {
		wantBack(t, "three modules and an exit", r, wilds(wild), want)
	}
}

var allEnds = append([]int{0, 1, 2, 3, 4, 5, 6, 7}, farInts...)

func TestEndsOfBack(t *testing.T) {
	codes := append([]int{0, 1, 2, 3, 7, 10, 11, 110, 111}, farInts...)
	whos := append([]int{0, 1, 2, 3, 7}, farInts...)
	for _, end := range allEnds {
		for _, code := range codes {
			for _, who := range whos {
				for _, wild := range []string{".", "x", ".x", "x.", "xx", "x.x", ".x.", "xxxxxxxx", ".......x", "x......."} {
					r := impl.Result{End: end, Code: code, Who: who, Events: []impl.Event{evOut(0, 4)}}
					var want []string
					if wild[0] == 'x' {
						want = append(want, "out 4")
					}
					switch {
					case end == 2 && who >= 0 && who < len(wild) && wild[who] == 'x':
						want = append(want, fmt.Sprint("trap ", code))
					case end == 1 && strings.HasSuffix(wild, "x"):
						want = append(want, "back 0")
					}
					wantBack(t, "an end", r, wilds(wild), strings.Join(want, "; "))
				}
			}
		}
	}
}

func TestNoEvents(t *testing.T) {
	for _, events := range [][]impl.Event{nil, {}, []impl.Event{evOut(0, 1)}[:0]} {
		for _, form := range []struct {
			end  int
			wild string
			want string
		}{
			{impl.EndRefused, "x", ""}, {impl.EndFuel, "x", ""}, {impl.EndDeep, "x", ""}, {impl.EndExit, ".", ""}, {impl.EndTrap, ".", ""},
			{impl.EndExit, "x", "back 0"}, {impl.EndTrap, "x", "trap 5"}, {impl.EndTrap, ".x", ""}, {impl.EndExit, ".x", "back 0"},
		} {
			wantBack(t, "no events", impl.Result{End: form.end, Code: 5, Events: events}, wilds(form.wild), form.want)
		}
	}
	wantBack(t, "the zero value", impl.Result{}, wilds("xxx"), "")
}

// MaxScript actions are told, whatever they are of; one more is refused.
func TestMostActions(t *testing.T) {
	ends := []struct {
		r    impl.Result
		last string
	}{
		{impl.Result{End: impl.EndFuel}, ""}, {impl.Result{End: impl.EndDeep}, ""}, {impl.Result{End: impl.EndRefused}, ""},
		{impl.Result{End: impl.EndTrap, Code: 3, Who: 1}, "trap 3"}, {impl.Result{End: impl.EndTrap, Code: 3, Who: 0}, ""},
		{impl.Result{End: impl.EndExit}, "back 0"},
	}
	others := []impl.Event{evOut(0, 1), evOut(-1, 1), evOut(2, 2), fullEvent(4, 1), fullEvent(-1, 1)}
	for _, end := range ends {
		for _, count := range []int{0, 1, 1998, 1999, 2000, 2001, 2002, 4000, 100000} {
			for kind, text := range []string{"call 3.4 5 @6 N7", "back 7", "out 7", "in"} {
				r := end.r
				r.Events = repeated(count, fullEvent(kind, 1))
				want := strings.Repeat(text+"; ", min(count, 2000)) + end.last
				if count+truthByRule(end.last != "") > 2000 {
					want = "refused"
				}
				want = strings.TrimSuffix(want, "; ")
				wantSame(t, fmt.Sprintf("%d events and %s", count, endOf(r)), scriptOf(r, wilds(".x")), want)
				// What is no action does not count, ahead of the others and behind them.
				r.Events = slices.Concat(repeated(1000, others[kind]), r.Events, repeated(1500, others[kind+1]))
				wantSame(t, fmt.Sprintf("%d events beside others and %s", count, endOf(r)), scriptOf(r, wilds(".x")), want)
			}
		}
	}
}

// wantSame spares to write out what is very long.
func wantSame(t *testing.T, what, got, want string) {
	t.Helper()
	if got != want {
		t.Errorf("%s: %.60q of %d bytes, want %.60q of %d", what, got, len(got), want, len(want))
	}
}

func TestMostActionsOfARun(t *testing.T) {
	// 749 outs and a jump: of fuel steps one in 750 is no event.
	loud := codedAll(t, "M | main # "+strings.Repeat("out A0; ", 749)+"jump")
	for fuel, count := range map[int]int{0: 0, 749: 749, 750: 749, 2000: 1998, 2001: 1999, 2002: 2000, 2003: -1, 3000: -1, 100000: -1} {
		want := "refused"
		if count >= 0 {
			want = strings.TrimSuffix(strings.Repeat("out 0; ", count), "; ")
		}
		wantSame(t, fmt.Sprint("fuel ", fuel), scriptOf(impl.Run(loud, nil, fuel), wilds("x")), want)
		wantSame(t, fmt.Sprint("fuel ", fuel), scriptOf(impl.Run(loud, nil, fuel), wilds(".")), "")
	}
}

// Nothing but the end, its Code and Who, and the events plays a part.
func TestFieldsOfResultsThatMeanNothing(t *testing.T) {
	r := impl.Result{End: impl.EndTrap, Code: 12, Who: 1, Events: []impl.Event{evCall(1, 0, 2, anInt(3)), evIn(0, 4), evBack(0, 1, 5), evIn(1, 6)}}
	want := "call 0.2 3; in; trap 12"
	wantBack(t, "as it is", r, wilds(".x"), want)
	for _, n := range append([]int{0, 1, 2}, farInts...) {
		x := r
		x.Mod, x.Low, x.Steps = n, -n, n
		x.Wrote, x.Read = []int{n}, []int{n, n}
		x.Regs, x.Words = []impl.Word{{N: n}}, []impl.Word{{Tag: true, Lo: n, Hi: -n, Seal: n}}
		wantBack(t, "with other fields", x, wilds(".x"), want)
	}
}

// scriptByRule tells the actions from the last one to the first.
func scriptByRule(r impl.Result, wild []bool) ([]impl.Action, bool) {
	if len(wild) == 0 || len(wild) > 8 {
		return nil, false
	}
	played := map[int]impl.Action{}
	for i, is := range wild {
		if is {
			played[i] = impl.Action{}
		}
	}
	var l []impl.Action
	if _, is := played[r.Who]; is && r.End == 2 {
		l = append(l, impl.Action{Kind: 4, N: r.Code})
	}
	if _, is := played[len(wild)-1]; is && r.End == 1 {
		l = append(l, impl.Action{Kind: 1})
	}
	for i := len(r.Events) - 1; i >= 0; i-- {
		e := r.Events[i]
		if _, is := played[e.From]; !is || e.Kind < 0 || e.Kind > 3 {
			continue
		}
		a := impl.Action{Kind: e.Kind}
		if e.Kind == 0 {
			a.To, a.Proc, a.Args = e.To, e.Proc, slices.Clone(e.Args)
		}
		if e.Kind != 3 {
			a.N = e.N
		}
		l = append(l, a)
	}
	if len(l) > 2000 {
		return nil, false
	}
	slices.Reverse(l)
	return l, true
}

func sameAction(a, b impl.Action) bool {
	return a.Kind == b.Kind && a.To == b.To && a.Proc == b.Proc && a.N == b.N && slices.Equal(a.Args, b.Args)
}

// randomResult may be nothing that a run tells.
func randomResult(r *rand.Rand, most int) impl.Result {
	number := func() int {
		if r.Intn(12) == 0 {
			return oneOf(r, farInts)
		}
		return r.Intn(8)
	}
	x := impl.Result{End: r.Intn(5), Code: number(), Who: number(), Mod: number(), Low: number(), Steps: number()}
	if r.Intn(10) == 0 {
		x.End = oneOf(r, allEnds)
	}
	for range r.Intn(most) {
		e := impl.Event{Kind: r.Intn(4), From: number(), To: number(), Proc: number(), N: number()}
		if r.Intn(10) == 0 {
			e.Kind = number()
		}
		for range r.Intn(6) {
			e.Args = append(e.Args, impl.Arg{Arr: r.Intn(2) == 0, N: number()})
		}
		x.Events = append(x.Events, e)
	}
	return x
}

func randomWild(r *rand.Rand) []bool {
	wild := make([]bool, 1+r.Intn(8))
	if r.Intn(20) == 0 {
		wild = make([]bool, 9*r.Intn(2))
	}
	for i := range wild {
		wild[i] = r.Intn(2) == 0
	}
	return wild
}

func TestBackByRule(t *testing.T) {
	r := rand.New(rand.NewSource(123))
	told := map[bool]int{}
	kinds := map[int]int{}
	for i := range 8000 {
		most := 30
		if i%100 == 0 {
			most = 9000
		}
		x, wild := randomResult(r, most), randomWild(r)
		got, ok := impl.Back(x, wild)
		want, wantOk := scriptByRule(x, wild)
		if ok != wantOk || !slices.EqualFunc(got, want, sameAction) {
			t.Fatalf("Back(%+v, %v)\n%.2000s, want\n%.2000s", x, wild, scriptText(got, ok), scriptText(want, wantOk))
		}
		told[ok]++
		for _, a := range got {
			kinds[a.Kind]++
		}
	}
	if told[false] < 200 || len(kinds) != 5 || kinds[impl.AcTrap] < 200 {
		t.Error(told, kinds)
	}
}

// result has room behind all lists, with what would be told if it were read.
func (w *watcher) result(x impl.Result) impl.Result {
	events := slices.Clone(x.Events)
	for i, e := range events {
		events[i].Args = widened(w, e.Args, anArray(3), anInt(5))
	}
	x.Events = widened(w, events, evOut(0, 77), evCall(1, 0, 0), evIn(2, 1))
	x.Regs = widened(w, x.Regs, impl.Word{N: 5})
	x.Words = widened(w, x.Words, impl.Word{N: 5})
	x.Wrote = widened(w, x.Wrote, 5)
	x.Read = widened(w, x.Read, 5)
	return x
}

func TestWhatIsToldBackStays(t *testing.T) {
	r := rand.New(rand.NewSource(124))
	for range 1000 {
		x, told := randomResult(r, 20), randomWild(r)
		x.Regs, x.Words, x.Wrote, x.Read = make([]impl.Word, 8), make([]impl.Word, 9), make([]int, 9), make([]int, 9)
		want := scriptText(scriptByRule(x, told))
		var w watcher
		wide, wild := w.result(x), widened(&w, told, true, false, true)
		for range 2 {
			if got := scriptOf(wide, wild); got != want {
				t.Fatalf("%s, want\n%s: Back looks behind a list's length, or keeps something", got, want)
			}
		}
		if !w.asItWas() {
			t.Fatal("what was handed in has changed")
		}
	}
}

func TestBackSharesNothing(t *testing.T) {
	r := rand.New(rand.NewSource(125))
	args := 0
	for range 1000 {
		x, told := randomResult(r, 30), randomWild(r)
		// Args that share memory in what is handed in share none in the answer.
		shared := []impl.Arg{{N: 1}, {N: 2}, {N: 3}, {N: 4}}
		for i := range x.Events {
			if r.Intn(3) == 0 {
				x.Events[i].Args = shared[r.Intn(3):][:r.Intn(2)]
			}
		}
		var w watcher
		wide, wild := w.result(x), widened(&w, told, true)
		one, ok := impl.Back(wide, wild)
		other, _ := impl.Back(wide, wild)
		direct, _ := impl.Back(x, told)
		want := scriptText(one, ok)
		for i, a := range one {
			kept := slices.Clone(a.Args)
			fillAll(a.Args, impl.Arg{Arr: true, N: 5555})
			args += len(a.Args)
			copy(one[i].Args, kept)
			if scriptText(one, ok) != want {
				t.Fatal("two lists of one answer share memory")
			}
		}
		for _, a := range one {
			fillAll(a.Args, impl.Arg{N: 5556})
		}
		fillAll(one, impl.Action{Kind: 9})
		if scriptText(other, ok) != want || !w.asItWas() {
			t.Fatal("an answer shares memory with another one, or with what was handed in")
		}
		for _, a := range direct {
			fillAll(a.Args, impl.Arg{N: 5557})
		}
		if scriptOf(x, told) != want {
			t.Fatal("an answer shares memory with what was handed in")
		}
	}
	if args < 1000 {
		t.Errorf("only %d Args", args)
	}
}
