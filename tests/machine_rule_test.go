package tests

import (
	"bytes"
	"fmt"
	"math"
	"math/rand"
	"slices"
	"testing"

	"loop.example/g00335/impl"
)

// bench is a second machine: an object that is crossed to runs within the
// function that crosses, whose variables are what is kept.
type bench struct {
	objs    []impl.Object
	image   impl.Image
	memory  impl.Memory
	input   []int
	fuel    int
	steps   int
	deep    int
	who     int
	low     int
	regs    []impl.Word
	wrote   []int
	read    []int
	events  []impl.Event
	visited map[string]int
}

// halt is what a bench panics with at the end.
type halt struct {
	end, code, who int
}

func resultByRule(objs []impl.Object, input []int, fuel int) (r impl.Result) {
	r, _ = resultAndVisits(objs, input, fuel)
	return r
}

// resultAndVisits tells, too, how often each op was done.
func resultAndVisits(objs []impl.Object, input []int, fuel int) (r impl.Result, visited map[string]int) {
	image, code := imageByRule(objs)
	noInt := func(n int) bool { return n < math.MinInt32 || n > math.MaxInt32 }
	if code != 0 || fuel < 0 || fuel > 100000 || len(input) > 100 || slices.ContainsFunc(input, noInt) {
		return impl.Result{}, nil
	}
	b := &bench{objs: objs, image: image, input: input, fuel: fuel, visited: map[string]int{}}
	b.memory = impl.Memory{Words: slices.Clone(image.Words)}
	b.wrote, b.read = make([]int, len(image.Words)), make([]int, len(image.Words))
	defer func() {
		x := recover()
		h, ok := x.(halt)
		if !ok {
			panic(x)
		}
		r = impl.Result{
			End: h.end, Code: h.code, Who: h.who, Mod: b.who, Low: b.low, Steps: b.steps,
			Events: b.events, Regs: b.regs, Words: b.memory.Words, Wrote: b.wrote, Read: b.read,
		}
		visited = b.visited
	}()
	b.object(len(objs)-1, image.Start, 0, nil)
	return
}

func (b *bench) trap(code int) { panic(halt{end: 2, code: code, who: b.who}) }

func (b *bench) num(reg int) int {
	if b.regs[reg].Tag {
		b.trap(8)
	}
	return b.regs[reg].N
}

func (b *bench) way(reg int) impl.Word {
	if !wayByRule(b.regs[reg]) {
		b.trap(1)
	}
	return b.regs[reg]
}

// must traps where a clause of the chapter refuses.
func (b *bench) must(holds bool, code int) {
	if !holds {
		b.trap(code)
	}
}

func (b *bench) next(at int) impl.Ins {
	if b.steps == b.fuel {
		panic(halt{end: 3})
	}
	b.steps++
	code := b.objs[b.who].Code
	b.must(at >= 0 && 12*at+12 <= len(code), 9)
	n := insByRule(code[12*at : 12*at+12])
	b.must(n.Op >= 1 && n.Op <= 22 && n.A <= 7 && n.B <= 7 && n.C <= 7, 4)
	b.visited[insText(impl.Ins{Op: n.Op})]++
	return n
}

func (b *bench) object(who, at, low int, handed []impl.Word) impl.Word {
	b.who, b.low = who, low
	b.noughts()
	b.regs = firstRegs(b.image, who, low)
	for i, w := range handed {
		if w.Perm >= 16 {
			w.Perm -= 16
		}
		b.regs[i] = w
	}
	for {
		n := b.next(at)
		at++
		switch n.Op {
		case 13:
			at = n.N
		case 14:
			if b.num(n.A) == 0 {
				at = n.N
			}
		case 15:
			at = b.num(n.A)
		case 19:
			b.cross(n)
		case 20:
			if b.deep == 0 {
				panic(halt{end: 1})
			}
			if b.regs[0].Tag {
				return impl.Word{}
			}
			return b.regs[0]
		default:
			b.plain(n)
		}
	}
}

func (b *bench) noughts() {
	for i := b.low; i < 600; i++ {
		b.memory.Words[i] = impl.Word{}
	}
}

func (b *bench) cross(n impl.Ins) {
	who, low, data, stack := b.who, b.low, b.regs[6], b.regs[7]
	e := b.regs[n.A]
	b.must(n.M >= 0 && n.M <= 4, 4)
	b.must(okByRule(e) && e.Tag && e.Seal > 0, 1)
	if b.deep == 20 {
		panic(halt{end: 4})
	}
	b.must(wayByRule(stack), 7)
	b.must(stack.At >= low, 7)
	b.must(n.N >= 0 && n.N <= 600, 7)
	b.must(stack.At+n.N <= 600, 7)
	call := impl.Event{Kind: 0, From: who, To: e.Seal - 1, Proc: e.At}
	for _, w := range b.regs[:n.M] {
		call.Args = append(call.Args, impl.Arg{Arr: w.Tag, N: w.N + w.Hi - w.Lo})
	}
	b.events = append(b.events, call)
	b.deep++
	result := b.object(call.To, b.objs[call.To].Exports[e.At].At, stack.At+n.N, slices.Clone(b.regs[:n.M]))
	b.deep--
	b.events = append(b.events, impl.Event{Kind: 1, From: call.To, To: who, N: result.N})
	b.noughts()
	b.who, b.low = who, low
	b.regs = []impl.Word{result, {}, {}, {}, {}, {}, data, stack}
}

// narrowByRule is the document's Narrow with CanLoad and CanStore.
func narrowByRule(w impl.Word, lo, hi int) (impl.Word, bool) {
	if !wayByRule(w) || lo < w.Lo || hi > w.Hi || lo > hi {
		return impl.Word{}, false
	}
	return way(lo, hi, lo, w.Perm&3), true
}

func (b *bench) plain(n impl.Ins) {
	set := func(w impl.Word) { b.regs[n.A] = w }
	setInt := func(x int) { set(impl.Word{N: x}) }
	switch n.Op {
	case 1:
		setInt(n.N)
	case 2:
		set(b.regs[n.B])
	case 3:
		x, y := b.num(n.B), b.num(n.C)
		z, trap := arithByRule(n.N, x, y)
		b.must(trap == 0, trap)
		setInt(z)
	case 4:
		b.load(n, n.N)
	case 5:
		b.store(n, n.N)
	case 6:
		b.load(n, b.num(n.C))
	case 7:
		b.store(n, b.num(n.C))
	case 8:
		w := b.way(n.B)
		part, ok := narrowByRule(w, w.At+n.N, w.At+n.N+n.M)
		b.must(ok, 2)
		set(part)
	case 9:
		w := b.way(n.B)
		setInt(w.Hi - w.Lo)
	case 10:
		w := b.way(n.A)
		at := b.num(n.B)
		b.must(at >= 0 && at < w.Hi-w.Lo, 5)
	case 11:
		by := n.N
		if n.M == 1 {
			by = n.N - b.num(n.C)
		}
		w := b.regs[n.B]
		b.must(wayByRule(w) && by >= -8000 && by <= 8000 && w.At+by >= -4000 && w.At+by <= 8000, 1)
		set(way(w.Lo, w.Hi, w.At+by, w.Perm))
	case 12:
		w := b.regs[n.A]
		b.must(wayByRule(w) && n.N >= 0 && n.N <= 4000 && w.At+n.N <= w.Hi, 7)
	case 16:
		b.events = append(b.events, impl.Event{Kind: 2, From: b.who, N: b.num(n.A)})
	case 17:
		x := append(slices.Clone(b.input), 0)[0]
		b.input = b.input[min(1, len(b.input)):]
		b.events = append(b.events, impl.Event{Kind: 3, From: b.who, N: x})
		setInt(x)
	case 18:
		b.must(n.N >= 0 && n.N <= 99, 4)
		b.trap(11 + n.N)
	case 21:
		b.must(!b.regs[n.A].Tag, 10)
	case 22:
		w, ok := narrowByRule(b.regs[n.A], b.regs[n.A].Lo, b.regs[n.A].Hi)
		b.must(ok && w.Perm == 3, 10)
		set(w)
	}
}

func (b *bench) load(n impl.Ins, by int) {
	w, trap := loadByRule(b.memory, b.regs[n.B], by)
	b.must(trap == 0, trap)
	b.read[b.regs[n.B].At+by] |= 1 << b.who
	b.regs[n.A] = w
}

func (b *bench) store(n impl.Ins, by int) {
	m, trap := storeByRule(b.memory, b.regs[n.B], by, b.regs[n.A])
	b.must(trap == 0, trap)
	b.wrote[b.regs[n.B].At+by] |= 1 << b.who
	b.memory = m
}

func sameEvent(a, b impl.Event) bool {
	return a.Kind == b.Kind && a.From == b.From && a.To == b.To && a.Proc == b.Proc && a.N == b.N && slices.Equal(a.Args, b.Args)
}

// sameState asks for all that stands in the machine, not for the end.
func sameState(a, b impl.Result) bool {
	return a.Mod == b.Mod && a.Low == b.Low && slices.EqualFunc(a.Events, b.Events, sameEvent) && slices.Equal(a.Regs, b.Regs) &&
		slices.Equal(a.Words, b.Words) && slices.Equal(a.Wrote, b.Wrote) && slices.Equal(a.Read, b.Read)
}

func sameResult(a, b impl.Result) bool {
	return a.End == b.End && a.Code == b.Code && a.Who == b.Who && a.Steps == b.Steps && sameState(a, b)
}

func codeText(objs []impl.Object) string {
	text := ""
	for _, o := range objs {
		text += fmt.Sprintf("%s %d %v %v:", o.Name, o.Data, o.Exports, o.Imports)
		for chunk := range slices.Chunk(o.Code, 12) {
			if len(chunk) == 12 && chunk[0] < 23 && chunk[0] > 0 {
				text += " " + insText(insByRule(chunk)) + ";"
			} else {
				text += fmt.Sprintf(" %v;", chunk)
			}
		}
		text += "\n"
	}
	return text
}

func wantRunByRule(t *testing.T, objs []impl.Object, input []int, fuel int) (impl.Result, map[string]int) {
	t.Helper()
	got := impl.Run(objs, input, fuel)
	want, visited := resultAndVisits(objs, input, fuel)
	if !sameResult(got, want) {
		if isZeroResult(got) != isZeroResult(want) {
			t.Fatalf("Run of\n%s= %+v, want %+v", codeText(objs), outcomeOf(got), outcomeOf(want))
		}
		t.Fatalf("Run of\n%swith %v and fuel %d\n%s\n%s, want\n%s\n%s", codeText(objs), input, fuel,
			outcomeText(outcomeOf(got)), stateText(objs, got), outcomeText(outcomeOf(want)), stateText(objs, want))
	}
	return got, visited
}

// setups put a word into a register: ints, entries and ways of all sorts that
// there can be in a scene.
var setups = []string{
	"int A%d", "int A%d N1", "int A%d N2", "int A%d N3", "int A%d N4", "int A%d N5", "int A%d N-1", "int A%d N599", "int A%d N600", "int A%d N4000",
	"int A%d N2147483647", "int A%d N-2147483648", "int A%d N8000", "int A%d N-8000",
	"load A%d B6", "load A%d B6 N1", "load A%d B6 N2", "copy A%d B6", "copy A%d B7",
	"part A%d B6 N2 M3", "part A%d B6 M5", "part A%d B6 N5", "part A%d B7 N4 M2", "part A%d B7 M600",
	"shift A%d B6 N2", "shift A%d B6 N5", "shift A%d B6 N-1", "shift A%d B6 N-602", "shift A%d B6 N-4602", "shift A%d B6 N7398",
	"shift A%d B7 N1", "shift A%d B7 N599", "shift A%d B7 N600", "shift A%d B7 N601", "shift A%d B7 N-1", "shift A%d B7 N-4000", "shift A%d B7 N8000",
}

var operands = []int{
	0, 0, 0, 1, 1, 2, 3, 4, 5, 6, -1, -2, 99, 100, 598, 599, 600, 601, 602, -602, 3999, 4000, 4001, -4000, -4001, 7398, 7399, 8000, 8001, -8000, -8001,
	math.MaxInt32, math.MinInt32,
}

func oneOf[T any](r *rand.Rand, l []T) T { return l[r.Intn(len(l))] }

// Each op, with words of all sorts in its registers.
func TestOneOpByRule(t *testing.T) {
	t.Parallel()
	r := rand.New(rand.NewSource(111))
	told := map[string]int{}
	for i := range 22 * 2000 {
		n := impl.Ins{Op: 1 + i%22, A: r.Intn(8), B: r.Intn(8), C: r.Intn(8), N: oneOf(r, operands), M: oneOf(r, operands)}
		if r.Intn(3) > 0 {
			n.A, n.B, n.C = 1, 2, 3
		}
		if r.Intn(3) > 0 {
			n.M = r.Intn(5)
		}
		text := ""
		for _, reg := range []int{n.A, n.B, n.C} {
			text += fmt.Sprintf(oneOf(r, setups), reg) + "; "
		}
		if r.Intn(20) == 0 {
			text += fmt.Sprintf(oneOf(r, setups), 7) + "; "
		}
		text += insText(n) + "; back; back; back; back; back"
		got, _ := wantRunByRule(t, scene(t, text), []int{9}, 4+r.Intn(4))
		told[fmt.Sprintf("%d: %d %d", n.Op, got.End, got.Code)]++
	}
	for key, least := range map[string]int{
		"1: 1 0": 300, "2: 1 0": 300,
		"3: 1 0": 50, "3: 2 8": 300, "3: 2 4": 50, "3: 2 6": 1,
		"4: 1 0": 50, "4: 2 1": 300, "4: 2 2": 300, "4: 2 3": 1,
		"5: 1 0": 50, "5: 2 1": 300, "5: 2 2": 300, "5: 2 3": 30,
		"6: 1 0": 20, "6: 2 1": 100, "6: 2 2": 100, "6: 2 3": 1, "6: 2 8": 300,
		"7: 1 0": 20, "7: 2 1": 100, "7: 2 2": 100, "7: 2 3": 5, "7: 2 8": 300,
		"8: 1 0": 50, "8: 2 1": 300, "8: 2 2": 300,
		"9: 1 0": 300, "9: 2 1": 300,
		"10: 1 0": 50, "10: 2 1": 300, "10: 2 5": 50, "10: 2 8": 300,
		"11: 1 0": 300, "11: 2 1": 300, "11: 2 8": 50,
		"12: 1 0": 50, "12: 2 7": 300,
		"13: 1 0": 50, "13: 2 9": 300, "14: 1 0": 50, "14: 2 9": 50, "14: 2 8": 300, "15: 1 0": 50, "15: 2 9": 50, "15: 2 8": 300,
		"16: 1 0": 300, "16: 2 8": 300, "17: 1 0": 300, "18: 2 4": 300, "18: 2 11": 50, "18: 2 110": 10,
		"19: 1 0": 5, "19: 2 4": 300, "19: 2 1": 300, "19: 2 7": 30, "20: 1 0": 300,
		"21: 1 0": 300, "21: 2 10": 300, "22: 1 0": 300, "22: 2 10": 300,
	} {
		if told[key] < least {
			t.Errorf("only %d with %q", told[key], key)
		}
	}
}

// calmIns is code that mostly does something: registers 0, 3 and 5 are ints, 1
// and 2 ways, 4 an entry.
func calmIns(r *rand.Rand, own, data, at int) []impl.Ins {
	number, lead := oneOf(r, []int{0, 3, 5}), oneOf(r, []int{1, 2})
	base, word := 7, r.Intn(12)
	if data > 0 && r.Intn(2) == 0 {
		base, word = 6, own+r.Intn(data)
	}
	switch r.Intn(24) {
	case 0, 1:
		return []impl.Ins{{Op: impl.InInt, A: number, N: r.Intn(12) - 3}}
	case 2:
		return []impl.Ins{{Op: impl.InCopy, A: oneOf(r, []int{0, 1, 2, 3, 4}), B: r.Intn(8)}}
	case 3, 4:
		return []impl.Ins{{Op: impl.InArith, A: number, B: oneOf(r, []int{0, 3, 5}), C: oneOf(r, []int{0, 3, 5}), N: oneOf(r, []int{0, 1, 2, 4, 5, 0, 1, 3})}}
	case 5, 6:
		return []impl.Ins{{Op: impl.InLoad, A: number, B: base, N: word}}
	case 7, 8:
		return []impl.Ins{{Op: impl.InStore, A: number, B: base, N: word}}
	case 9:
		return []impl.Ins{{Op: impl.InPart, A: lead, B: base, N: word, M: r.Intn(2)}}
	case 10:
		return []impl.Ins{{Op: impl.InPart, A: lead, B: 7, N: r.Intn(4), M: r.Intn(9)}, {Op: impl.InLen, A: number, B: lead}}
	case 11:
		op := oneOf(r, []int{impl.InLoadAt, impl.InStoreAt})
		return []impl.Ins{{Op: impl.InPart, A: 1, B: 7, N: r.Intn(4), M: 1 + r.Intn(5)}, {Op: impl.InInt, A: 5, N: r.Intn(4)}, {Op: impl.InIndex, A: 1, B: 5}, {Op: op, A: 3, B: 1, C: 5}}
	case 12:
		return []impl.Ins{{Op: impl.InShift, A: lead, B: base, N: r.Intn(5), C: number, M: r.Intn(2)}}
	case 13:
		return []impl.Ins{{Op: impl.InShift, A: 7, B: 7, N: r.Intn(5)}, {Op: impl.InRoom, A: 7, N: oneOf(r, []int{0, 9, 20, 300, 560})}}
	case 14:
		return []impl.Ins{{Op: impl.InIf, A: number, N: at + 1 + r.Intn(5)}}
	case 15:
		return []impl.Ins{{Op: impl.InJump, N: at + 1 + r.Intn(3) - r.Intn(2)*r.Intn(10)}}
	case 16:
		return []impl.Ins{{Op: impl.InIn, A: number}, {Op: impl.InOut, A: number}}
	case 17:
		op := oneOf(r, []int{impl.InNum, impl.InOut, impl.InNum, impl.InOut, impl.InArr, impl.InTrap})
		return []impl.Ins{{Op: op, A: number, N: r.Intn(3)}}
	case 18:
		return []impl.Ins{{Op: impl.InStore, A: oneOf(r, []int{1, 2, 4, 6, 7}), B: 7, N: r.Intn(5)}, {Op: impl.InLoad, A: lead, B: 7, N: r.Intn(5)}}
	case 19:
		return []impl.Ins{{Op: impl.InStore, A: oneOf(r, []int{4, 6}), B: 6, N: word}, {Op: impl.InInt, A: number, N: at + 2}, {Op: impl.InGoto, A: number}}
	}
	if own == 0 && r.Intn(6) > 0 {
		return []impl.Ins{{Op: impl.InInt, A: 0, N: r.Intn(9)}, {Op: impl.InOut, A: 0}}
	}
	if own == 0 || r.Intn(9) == 0 {
		// What was handed over may be an entry of who runs: so crossings nest.
		return []impl.Ins{{Op: impl.InCross, A: r.Intn(2), N: r.Intn(20), M: r.Intn(5)}}
	}
	handed := []impl.Ins{{Op: impl.InLoad, A: 4, B: 6, N: r.Intn(own)}}
	for range r.Intn(3) {
		handed = append(handed, impl.Ins{Op: impl.InCopy, A: r.Intn(4), B: oneOf(r, []int{1, 2, 4, 4, 4, 6, 7})})
	}
	return append(handed, impl.Ins{Op: impl.InCross, A: 4, N: r.Intn(40), M: r.Intn(5)})
}

// randomIns may be any instruction at all.
func randomIns(r *rand.Rand) impl.Ins {
	return impl.Ins{Op: 1 + r.Intn(22), A: r.Intn(8), B: r.Intn(8), C: r.Intn(8), N: oneOf(r, operands), M: oneOf(r, operands)}
}

func randomCode(r *rand.Rand, own, data int) []byte {
	var l []impl.Ins
	for range r.Intn(14) {
		if r.Intn(30) == 0 {
			l = append(l, randomIns(r))
		} else {
			l = append(l, calmIns(r, own, data, len(l))...)
		}
	}
	b, _ := impl.Encode(append(l, impl.Ins{Op: impl.InBack}))
	if r.Intn(60) == 0 {
		b[r.Intn(len(b))] = byte(r.Intn(256))
	}
	if r.Intn(60) == 0 {
		b = b[:r.Intn(len(b)+1)]
	}
	return b
}

// runnable objects can be linked, and have mostly calm code.
func runnable(r *rand.Rand) []impl.Object {
	l := randomObjects(r)
	for i := range l {
		own := len(l[i].Imports)
		l[i].Code = randomCode(r, own, l[i].Data)
		for j := range l[i].Exports {
			l[i].Exports[j].At = 0
			if count := len(l[i].Code) / 12; count > 0 && r.Intn(4) == 0 {
				l[i].Exports[j].At = r.Intn(count)
			}
		}
	}
	return l
}

// wild objects can be linked; their code is bytes of anything.
func wild(r *rand.Rand) []impl.Object {
	l := randomObjects(r)
	for i := range l {
		l[i].Code = make([]byte, r.Intn(200))
		for j := range l[i].Code {
			l[i].Code[j] = byte(r.Intn(256))
			if r.Intn(8) > 0 {
				l[i].Code[j] %= []byte{23, 8, 8, 8, 9, 2, 1, 1, 5, 2, 1, 1}[j%12]
			}
		}
		for j := range l[i].Exports {
			l[i].Exports[j].At = r.Intn(3)
		}
	}
	return l
}

func TestRunByRule(t *testing.T) {
	t.Parallel()
	r := rand.New(rand.NewSource(112))
	ends, kinds, ops := map[string]int{}, map[int]int{}, map[string]int{}
	const most = 300
	for i := range 5000 {
		objs := runnable(r)
		if i%5 == 4 {
			objs = wild(r)
		}
		input := randomInput(r)
		got, visited := wantRunByRule(t, objs, input, most)
		for op, count := range visited {
			ops[op] += count
		}
		ends[fmt.Sprintf("%d %d", got.End, got.Code)]++
		for _, e := range got.Events {
			kinds[e.Kind]++
		}
		for _, fuel := range []int{r.Intn(got.Steps + 1), got.Steps - 1, got.Steps} {
			wantRunByRule(t, objs, input, max(fuel, 0))
		}
	}
	for _, end := range []string{"1 0", "3 0", "2 1", "2 2", "2 4", "2 7", "2 8", "2 9"} {
		if ends[end] < 50 {
			t.Errorf("only %d ended with %s: %v", ends[end], end, ends)
		}
	}
	for _, end := range []string{"4 0", "2 3", "2 5", "2 6", "2 10", "2 11"} {
		if ends[end] < 2 {
			t.Errorf("only %d ended with %s: %v", ends[end], end, ends)
		}
	}
	for kind := range 4 {
		if kinds[kind] < 500 {
			t.Errorf("only %d events %d", kinds[kind], kind)
		}
	}
	for op := 1; op <= 22; op++ {
		if name := insText(impl.Ins{Op: op}); ops[name] < 100 {
			t.Errorf("only %d times %s", ops[name], name)
		}
	}
}

func TestRunRefusesByRule(t *testing.T) {
	r := rand.New(rand.NewSource(113))
	refused := 0
	for range 2000 {
		objs := runnable(r)
		if r.Intn(2) == 0 {
			objs = spoilObjects(r, objs)
		}
		input, fuel := randomInput(r), r.Intn(50)
		switch r.Intn(6) {
		case 0:
			input = make([]int, oneOf(r, []int{99, 100, 101, 200}))
		case 1:
			input = append(input, oneOf(r, []int{math.MaxInt32, math.MaxInt32 + 1, math.MinInt32, math.MinInt32 - 1, math.MaxInt}))
		case 2:
			fuel = oneOf(r, []int{-1, 0, 100001, math.MaxInt, math.MinInt})
		}
		if got, _ := wantRunByRule(t, objs, input, fuel); isZeroResult(got) {
			refused++
		}
	}
	if refused < 400 || refused > 1600 {
		t.Error(refused)
	}
}

// TestPromise9OfRun: with more fuel a run does what it did; where it ended, it
// ends alike. Noughts behind the input change nothing.
func TestPromise9OfRun(t *testing.T) {
	r := rand.New(rand.NewSource(114))
	ended, on := 0, 0
	for range 3000 {
		objs, input := runnable(r), randomInput(r)
		less := r.Intn(120)
		one, more := impl.Run(objs, input, less), impl.Run(objs, input, less+1+r.Intn(300))
		if one.Steps > less || len(one.Events) > len(more.Events) {
			t.Fatalf("fuel %d: %+v", less, outcomeOf(one))
		}
		switch {
		case one.End != impl.EndFuel:
			ended++
			if !sameResult(one, more) {
				t.Fatalf("with fuel %d\n%+v, with more\n%+v", less, outcomeOf(one), outcomeOf(more))
			}
		default:
			on++
			if one.Steps != less || more.Steps <= less || one.Code != 0 || one.Who != 0 || !slices.EqualFunc(one.Events, more.Events[:len(one.Events)], sameEvent) {
				t.Fatalf("with fuel %d\n%+v, with more\n%+v", less, outcomeOf(one), outcomeOf(more))
			}
			for at, marks := range one.Wrote {
				if marks&^more.Wrote[at] != 0 || one.Read[at]&^more.Read[at] != 0 {
					t.Fatalf("with more fuel the word %d was touched by fewer", at)
				}
			}
		}
		noughts := append(slices.Clone(input), make([]int, r.Intn(impl.MaxInput-len(input)+1))...)
		if got := impl.Run(objs, noughts, less); !sameResult(got, one) {
			t.Fatalf("with noughts behind the input\n%+v, without\n%+v", outcomeOf(got), outcomeOf(one))
		}
	}
	if ended < 500 || on < 200 {
		t.Error(ended, on)
	}
	reader := scene(t, "again: in A1; out A1; jump =again")
	want := impl.Run(reader, []int{4, 5}, 1000)
	for count := range impl.MaxInput - 1 {
		if got := impl.Run(reader, append([]int{4, 5}, make([]int, count)...), 1000); !sameResult(got, want) {
			t.Errorf("%d noughts: %+v", count, outcomeOf(got))
		}
	}
	wantNotRun(t, "one nought too many", reader, append([]int{4, 5}, make([]int, impl.MaxInput-1)...), 1000)
}

// TestPromise10 takes whatever objects: a run ends within its fuel, and a trap
// is told where it was.
func TestPromise10(t *testing.T) {
	r := rand.New(rand.NewSource(115))
	traps, others := 0, 0
	for i := range 12000 {
		objs := wild(r)
		if i%3 == 0 {
			objs = runnable(r)
		}
		fuel := r.Intn(60)
		got := impl.Run(objs, randomInput(r), fuel)
		if got.Steps > fuel || got.End < impl.EndExit || got.End > impl.EndDeep || got.End == impl.EndFuel && got.Steps != fuel {
			t.Fatalf("fuel %d: %+v", fuel, outcomeOf(got))
		}
		if got.Mod < 0 || got.Mod >= len(objs) || got.Low < 0 || got.Low > 600 || len(got.Regs) != 8 {
			t.Fatalf("Mod %d, Low %d", got.Mod, got.Low)
		}
		if got.End != impl.EndTrap {
			if got.Code != 0 || got.Who != 0 {
				t.Fatalf("%+v", outcomeOf(got))
			}
			continue
		}
		if got.Code < impl.TrapTag || got.Code > impl.TrapUser+99 || got.Who != got.Mod || got.Steps < 1 {
			t.Fatalf("%+v, Mod %d", outcomeOf(got), got.Mod)
		}
		if ahead := impl.Run(objs, nil, got.Steps-1); len(got.Events) == 0 && !sameState(ahead, got) {
			t.Fatal("what traps has done something")
		}
		traps++
		if got.Who != len(objs)-1 {
			others++
		}
	}
	if traps < 4000 || others < 100 {
		t.Error(traps, others)
	}
	// As many steps as may be, with a crossing in every other one.
	objs := codedAll(t, "A | f=5 # f: back", "M | main | A.f=5 # again: load A4 B6; cross A4; jump =again")
	if got := impl.Run(objs, nil, impl.MaxFuel); got.End != impl.EndFuel || got.Steps != impl.MaxFuel || len(got.Events) != impl.MaxFuel/2 {
		t.Errorf("%d after %d steps, %d events", got.End, got.Steps, len(got.Events))
	}
}

// TestPromise14 goes through the events alone: who runs is who was crossed to
// last and has not gone back.
func TestPromise14(t *testing.T) {
	r := rand.New(rand.NewSource(116))
	nested, backs := 0, 0
	for range 6000 {
		objs := runnable(r)
		got := impl.Run(objs, randomInput(r), 400)
		under := []int{len(objs) - 1}
		for i, e := range got.Events {
			if e.From != under[len(under)-1] {
				t.Fatalf("%v at %d, when %v are under way", e, i, under)
			}
			switch e.Kind {
			case impl.EvCall:
				under = append(under, e.To)
			case impl.EvBack:
				under = under[:len(under)-1]
				if len(under) == 0 || e.To != under[len(under)-1] {
					t.Fatalf("%v at %d goes to another one than crossed", e, i)
				}
				backs++
			}
			if len(under) > 21 {
				t.Fatal("more than MaxCross are under way")
			}
			if len(under) > 2 {
				nested++
			}
		}
		if got.Mod != under[len(under)-1] || got.End == impl.EndExit && len(under) > 1 || got.End == impl.EndDeep && len(under) != 21 {
			t.Fatalf("%d in %d, when %v are under way", got.End, got.Mod, under)
		}
	}
	if nested < 500 || backs < 1000 {
		t.Error(nested, backs)
	}
}

// checkStep holds what stands behind a step against what stood ahead of it.
func checkStep(objs []impl.Object, was, is impl.Result) string {
	lo, hi := 0, 0
	for i, o := range objs {
		if i == 0 {
			lo = 600
		} else {
			lo = hi
		}
		hi = lo + len(o.Imports) + o.Data
		if i == is.Mod {
			break
		}
	}
	data, stack := way(lo, hi, lo, 23), way(is.Low, 600, is.Low, 15)
	changed := 0
	for at := range is.Words {
		if is.Words[at] != was.Words[at] {
			changed++
		}
	}
	if len(is.Events) == len(was.Events) || is.Events[len(is.Events)-1].Kind > impl.EvBack {
		if changed > 1 || is.Mod != was.Mod || is.Low != was.Low {
			return "a step that is no crossing changes more than a word"
		}
		return ""
	}
	e := is.Events[len(is.Events)-1]
	for at, w := range is.Words {
		from := is.Low
		if e.Kind == impl.EvBack {
			from = was.Low
		}
		if at >= from && at < 600 && w != (impl.Word{}) {
			return fmt.Sprintf("the word %d is not zero", at)
		}
		if (at < from || at >= 600) && w != was.Words[at] {
			return fmt.Sprintf("the word %d is another one", at)
		}
	}
	if !slices.Equal(is.Wrote, was.Wrote) || !slices.Equal(is.Read, was.Read) {
		return "a crossing is told as a store or a load"
	}
	if e.Kind == impl.EvBack {
		for at, w := range is.Regs {
			if at == 0 && w != (impl.Word{N: e.N}) || at > 0 && at < 6 && w != (impl.Word{}) {
				return fmt.Sprintf("register %d is %s behind a way back", at, wordText(w))
			}
		}
		return ""
	}
	for at, w := range is.Regs {
		want := impl.Word{}
		switch {
		case at == 6:
			want = data
		case at == 7:
			want = stack
		case at < len(e.Args):
			want = was.Regs[at]
			want.Perm &= 15
			if e.Args[at].Arr != want.Tag || want.Tag && e.Args[at].N != want.Hi-want.Lo || !want.Tag && e.Args[at].N != want.N {
				return fmt.Sprintf("%v is told of %s", e.Args[at], wordText(want))
			}
		}
		if w != want {
			return fmt.Sprintf("register %d is %s, want %s", at, wordText(w), wordText(want))
		}
	}
	return ""
}

// TestPromise15 runs objects step by step: who is crossed to finds all zero but
// what was handed over, 6 and 7.
func TestPromise15(t *testing.T) {
	t.Parallel()
	r := rand.New(rand.NewSource(117))
	calls, backs, full := 0, 0, 0
	for range 1500 {
		objs, input := runnable(r), randomInput(r)
		was := impl.Run(objs, input, 0)
		kept := map[int][]impl.Word{}
		for fuel := 1; fuel <= 150; fuel++ {
			is := impl.Run(objs, input, fuel)
			if told := checkStep(objs, was, is); told != "" {
				t.Fatalf("step %d of\n%s: %s", fuel, codeText(objs), told)
			}
			if len(is.Events) > len(was.Events) {
				under := 0
				for _, e := range is.Events {
					under += truthByRule(e.Kind == impl.EvCall) - truthByRule(e.Kind == impl.EvBack)
				}
				switch e := is.Events[len(is.Events)-1]; e.Kind {
				case impl.EvCall:
					calls++
					kept[under] = []impl.Word{was.Regs[6], was.Regs[7], {N: was.Low}, {N: was.Mod}}
					full += truthByRule(len(e.Args) == 4)
				case impl.EvBack:
					backs++
					if !slices.Equal(kept[under+1], []impl.Word{is.Regs[6], is.Regs[7], {N: is.Low}, {N: is.Mod}}) {
						t.Fatalf("step %d of\n%s: who crossed goes on with other words", fuel, codeText(objs))
					}
				}
			}
			if is.End != impl.EndFuel {
				break
			}
			was = is
		}
	}
	if calls < 400 || backs < 150 || full < 80 {
		t.Error(calls, backs, full)
	}
}

// What is left of other objects in the registers and on the stack plays no part
// in what who is crossed to does.
func TestWhatIsNotHandedOver(t *testing.T) {
	r := rand.New(rand.NewSource(118))
	for range 400 {
		a := object("A 3 | f=5")
		a.Code = randomCode(r, 0, 3)
		var want string
		for _, rest := range []string{
			"num A0; num A0; num A0; num A0; num A0; num A0",
			"int A1 N77; int A2 N78; int A3 N79; int A5 N80; store A1 B7 N9; store A1 B7 N599",
			"copy A1 B6; copy A2 B7; load A3 B6; copy A5 B6; store A6 B7 N9; store A7 B7 N10",
			"store A6 B6 N1; int A1 N5; store A1 B6 N2; store A1 B7 N2; int A1 N60; store A1 B7 N59",
		} {
			objs := []impl.Object{a, coded(t, "M 3 | main | A.f=5 # "+rest+"; int A0 N6; load A4 B6; cross A4 N2 M1; back")}
			got := impl.Run(objs, []int{1, 2, 3}, 150)
			text := outcomeText(outcomeOf(got)) + fmt.Sprint(got.Words[600:603])
			if want == "" {
				want = text
			}
			if text != want {
				t.Fatalf("behind %s\n%s, want\n%s of\n%s", rest, text, want, codeText(objs))
			}
		}
	}
}

// Where no ways are handed over, nobody but an object itself stores or loads
// its data. Each way that there is leads to the stack or to data, not to both,
// and has CanLoad and CanStore: so none comes up that InArr refuses for these.
func TestDataOfObjects(t *testing.T) {
	r := rand.New(rand.NewSource(119))
	apart, shared := 0, 0
	for range 5000 {
		objs := runnable(r)
		got := impl.Run(objs, randomInput(r), 300)
		image, _ := imageByRule(objs)
		if !impl.MemoryOk(impl.Memory{Words: got.Words}) {
			t.Fatal("no memory")
		}
		for _, w := range slices.Concat(got.Words, got.Regs) {
			if !okByRule(w) || w.Tag && w.Seal == 0 && (w.Perm&3 != 3 || w.Hi > len(got.Words) || w.Lo < 600 && w.Hi > 600) {
				t.Fatalf("%+v", w)
			}
		}
		if slices.ContainsFunc(got.Events, func(e impl.Event) bool {
			return slices.ContainsFunc(e.Args, func(a impl.Arg) bool { return a.Arr })
		}) {
			shared++
			continue
		}
		apart++
		for i, region := range image.Mods {
			for at := region.Lo; at < region.Hi; at++ {
				if (got.Wrote[at]|got.Read[at])&^(1<<i) != 0 {
					t.Fatalf("the word %d of %d: %d, %d", at, i, got.Wrote[at], got.Read[at])
				}
			}
		}
	}
	if apart < 1000 || shared < 300 {
		t.Error(apart, shared)
	}
}

// Texts that are compiled and run do what they mean, as far as they come.
func TestCompiledTextsRun(t *testing.T) {
	t.Parallel()
	r := rand.New(rand.NewSource(120))
	ends, crossed := map[string]int{}, 0
	for range 600 {
		var w impl.World
		count := 1 + r.Intn(4)
		for len(w.Mods) < count {
			m := randomText(r, fmt.Sprintf("M%d", len(w.Mods)), w.Faces, len(w.Mods) == count-1)
			if _, code := impl.Compile(m, w.Faces); code == impl.CompWell {
				w.Mods, w.Faces = append(w.Mods, m), append(w.Faces, faceByRule(m))
			}
		}
		input := randomInput(r)
		got, means := impl.Run(compiledWorld(t, w), input, 1500), impl.Eval(w, input, 10000)
		if len(got.Events) > len(means.Events) || !slices.EqualFunc(got.Events, means.Events[:len(got.Events)], sameEvent) {
			t.Fatalf("%s\nis no beginning of\n%s", outcomeText(outcomeOf(got)), outcomeText(means))
		}
		ends[fmt.Sprintf("%d %d", got.End, got.Code)]++
		for _, e := range got.Events {
			crossed += truthByRule(e.Kind == impl.EvCall)
		}
		if got.End != impl.EndFuel && got.Code != impl.TrapStack && (got.End != means.End || got.Code != means.Code || got.Who != means.Who || len(got.Events) != len(means.Events)) {
			t.Fatalf("%s, but it means\n%s", outcomeText(outcomeOf(got)), outcomeText(means))
		}
	}
	for end, least := range map[string]int{"1 0": 300, "3 0": 20, "2 5": 20, "2 6": 5} {
		if ends[end] < least {
			t.Errorf("only %d ended with %s: %v", ends[end], end, ends)
		}
	}
	if crossed < 300 {
		t.Error(crossed)
	}
}

func TestWhatIsRunStays(t *testing.T) {
	r := rand.New(rand.NewSource(121))
	for i := range 600 {
		l, numbers := runnable(r), randomInput(r)
		if i%4 == 3 {
			l = spoilObjects(r, l)
		}
		if len(l) == 0 {
			continue
		}
		want := resultByRule(l, numbers, 200)
		wide, asItWas := roomyObjects(l)
		var w watcher
		input := widened(&w, numbers, 99, -1, math.MaxInt)
		for range 2 {
			if got := impl.Run(wide, input, 200); !sameResult(got, want) {
				t.Fatalf("Run = %+v: it looks behind a list's length, or keeps something", outcomeOf(got))
			}
		}
		if !asItWas() || !w.asItWas() {
			t.Fatal("what was handed in has changed")
		}
	}
}

func copied(r impl.Result) impl.Result {
	r.Events = slices.Clone(r.Events)
	for i, e := range r.Events {
		r.Events[i].Args = slices.Clone(e.Args)
	}
	r.Regs, r.Words = slices.Clone(r.Regs), slices.Clone(r.Words)
	r.Wrote, r.Read = slices.Clone(r.Wrote), slices.Clone(r.Read)
	return r
}

// writings write all over one list of an answer, with the room behind it.
func writings(r impl.Result) []func() {
	l := []func(){
		func() { fillAll(r.Regs, impl.Word{N: 5555}) },
		func() { fillAll(r.Words, impl.Word{N: 5556}) },
		func() { fillAll(r.Wrote, 5557) },
		func() { fillAll(r.Read, 5558) },
	}
	for _, e := range r.Events {
		l = append(l, func() { fillAll(e.Args, impl.Arg{N: 5559}) })
	}
	return l
}

func fillAll[T any](l []T, one T) {
	l = l[:cap(l)]
	for i := range l {
		l[i] = one
	}
}

// differences counts the lists in which both are unlike.
func differences(a, b impl.Result) int {
	count := truthByRule(!slices.Equal(a.Regs, b.Regs)) + truthByRule(!slices.Equal(a.Words, b.Words)) +
		truthByRule(!slices.Equal(a.Wrote, b.Wrote)) + truthByRule(!slices.Equal(a.Read, b.Read))
	for i := range a.Events {
		count += truthByRule(!slices.Equal(a.Events[i].Args, b.Events[i].Args))
	}
	return count
}

func TestRunSharesNothing(t *testing.T) {
	r := rand.New(rand.NewSource(122))
	args := 0
	for range 300 {
		l, input := runnable(r), randomInput(r)
		wide, asItWas := roomyObjects(l)
		kept := slices.Clone(input)
		one, other := impl.Run(wide, input, 200), impl.Run(wide, input, 200)
		want := copied(one)
		for i := range writings(one) {
			fresh := impl.Run(wide, input, 200)
			fillRoom(fresh.Events)
			writings(fresh)[i]()
			if differences(fresh, want) > 1 {
				t.Fatal("two lists of one answer share memory")
			}
			args += truthByRule(i > 3)
		}
		for _, write := range writings(one) {
			write()
		}
		fillAll(one.Events, impl.Event{Kind: 9})
		if !sameResult(other, want) || !asItWas() || !slices.Equal(input, kept) {
			t.Fatal("an answer shares memory with another one, or with what was handed in")
		}
	}
	if args < 300 {
		t.Errorf("only %d Args", args)
	}
}

// A list of length 0 and none are the same, and Code may be any length.
func TestEmptyListsOfRun(t *testing.T) {
	o := coded(t, "M | main # in A0; out A0; back")
	o.Imports = []impl.Import{{Mod: []byte("Zz"), Name: []byte("z")}}[:0]
	want := impl.Run([]impl.Object{o}, nil, 9)
	if got := impl.Run([]impl.Object{o}, []int{7}[:0], 9); !sameResult(got, want) || got.End != impl.EndExit {
		t.Errorf("%+v", outcomeOf(got))
	}
	o.Code = bytes.Repeat([]byte{1, 0, 0}, 3)[:0]
	if got := impl.Run([]impl.Object{o}, nil, 9); got.End != impl.EndTrap || got.Code != impl.TrapJump || got.Steps != 1 {
		t.Errorf("%+v", outcomeOf(got))
	}
}
