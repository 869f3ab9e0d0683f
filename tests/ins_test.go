package tests

import (
	"bytes"
	"math"
	"math/big"
	"slices"
	"testing"

	"loop.example/g00335/impl"
)

// insForms: instructions with their bytes, written out by hand.
var insForms = []struct {
	n     impl.Ins
	bytes []byte
}{
	{impl.Ins{Op: 1}, []byte{1, 0, 0, 0, 0, 0, 0, 0, 0, 0, 0, 0}},
	{impl.Ins{Op: 22}, []byte{22, 0, 0, 0, 0, 0, 0, 0, 0, 0, 0, 0}},
	{impl.Ins{Op: 3, A: 1, B: 2, C: 3, N: 4, M: 5}, []byte{3, 1, 2, 3, 4, 0, 0, 0, 5, 0, 0, 0}},
	{impl.Ins{Op: 20, A: 7, B: 7, C: 7, N: -1, M: -1}, []byte{20, 7, 7, 7, 255, 255, 255, 255, 255, 255, 255, 255}},
	{impl.Ins{Op: 13, A: 7}, []byte{13, 7, 0, 0, 0, 0, 0, 0, 0, 0, 0, 0}},
	{impl.Ins{Op: 13, B: 7}, []byte{13, 0, 7, 0, 0, 0, 0, 0, 0, 0, 0, 0}},
	{impl.Ins{Op: 13, C: 7}, []byte{13, 0, 0, 7, 0, 0, 0, 0, 0, 0, 0, 0}},
	{impl.Ins{Op: 8, A: 1, B: 6, N: -2, M: 3}, []byte{8, 1, 6, 0, 254, 255, 255, 255, 3, 0, 0, 0}},
	{impl.Ins{Op: 2, N: 0x04030201, M: 0x7f000080}, []byte{2, 0, 0, 0, 1, 2, 3, 4, 128, 0, 0, 127}},
	{impl.Ins{Op: 19, N: 256, M: 65536}, []byte{19, 0, 0, 0, 0, 1, 0, 0, 0, 0, 1, 0}},
	{impl.Ins{Op: 21, N: math.MaxInt32, M: math.MinInt32}, []byte{21, 0, 0, 0, 255, 255, 255, 127, 0, 0, 0, 128}},
	{impl.Ins{Op: 21, N: math.MinInt32, M: math.MaxInt32}, []byte{21, 0, 0, 0, 0, 0, 0, 128, 255, 255, 255, 127}},
	{impl.Ins{Op: 12, N: math.MinInt32 + 1, M: 16777216}, []byte{12, 0, 0, 0, 1, 0, 0, 128, 0, 0, 0, 1}},
}

// no32: numbers that do not go into 32 bits.
var no32 = []int{
	math.MaxInt32 + 1, math.MinInt32 - 1, math.MaxUint32, math.MaxUint32 + 1, -1 << 32, 1<<32 + 5,
	math.MaxInt, math.MinInt,
}

// ends32: both ends of 32 bits, and numbers within.
var ends32 = []int{
	math.MinInt32, math.MinInt32 + 1, -65536, -65535, -256, -255, -7, -2, -1, 0,
	1, 2, 7, 127, 128, 255, 256, 46340, 46341, 65535, 65536, 1 << 30, math.MaxInt32 - 1, math.MaxInt32,
}

// badIns: each may not be, for one reason.
func badIns() []impl.Ins {
	bad := []impl.Ins{{}}
	for _, op := range []int{-1, 0, 23, 24, 255, 256, 257, 256 + 22, 1 << 32, 1<<32 + 1, -255, math.MaxInt, math.MinInt} {
		bad = append(bad, impl.Ins{Op: op, A: 1, B: 2, C: 3, N: 4, M: 5})
	}
	for op := 1; op <= 22; op++ {
		for _, reg := range []int{-1, 8, 9, 255, 256, 257, -256, 1 << 32, math.MaxInt, math.MinInt} {
			bad = append(bad, impl.Ins{Op: op, A: reg}, impl.Ins{Op: op, B: reg}, impl.Ins{Op: op, C: reg})
		}
		for _, n := range no32 {
			bad = append(bad, impl.Ins{Op: op, N: n}, impl.Ins{Op: op, M: n})
		}
	}
	return bad
}

func wantBytes(t *testing.T, l []impl.Ins, want []byte) {
	t.Helper()
	if b, ok := impl.Encode(l); !ok || !bytes.Equal(b, want) {
		t.Errorf("Encode(%v) = %v, %v; want %v, true", l, b, ok, want)
	}
}

func wantNoBytes(t *testing.T, l []impl.Ins) {
	t.Helper()
	if b, ok := impl.Encode(l); ok || len(b) != 0 {
		t.Errorf("Encode of %d instructions = %d bytes, %v; want none, false", len(l), len(b), ok)
	}
}

func wantIns(t *testing.T, b []byte, at int, want impl.Ins) {
	t.Helper()
	if n, ok := impl.Decode(b, at); !ok || n != want {
		t.Errorf("Decode(%v, %d) = %v, %v; want %v, true", b, at, n, ok, want)
	}
}

func wantNoIns(t *testing.T, b []byte, at int) {
	t.Helper()
	if n, ok := impl.Decode(b, at); ok || n != (impl.Ins{}) {
		t.Errorf("Decode(%v, %d) = %v, %v; want none, false", b, at, n, ok)
	}
}

func TestCodesOfInstructions(t *testing.T) {
	ops := [22]int{
		impl.InInt, impl.InCopy, impl.InArith, impl.InLoad, impl.InStore, impl.InLoadAt, impl.InStoreAt,
		impl.InPart, impl.InLen, impl.InIndex, impl.InShift, impl.InRoom, impl.InJump, impl.InIf,
		impl.InGoto, impl.InOut, impl.InIn, impl.InTrap, impl.InCross, impl.InBack, impl.InNum, impl.InArr,
	}
	for i, op := range ops {
		if op != i+1 {
			t.Errorf("the op at %d is %d", i, op)
		}
	}
	ariths := [6]int{impl.ArAdd, impl.ArSub, impl.ArMul, impl.ArDiv, impl.ArLess, impl.ArSame}
	if ariths != [6]int{0, 1, 2, 3, 4, 5} || impl.Regs != 8 {
		t.Error(ariths, impl.Regs)
	}
}

func TestInsOk(t *testing.T) {
	for _, f := range insForms {
		if !impl.InsOk(f.n) {
			t.Errorf("InsOk(%v) is false", f.n)
		}
	}
	for op := 1; op <= 22; op++ {
		for reg := range 8 {
			for _, n := range []impl.Ins{{A: reg}, {B: reg}, {C: reg}, {A: reg, B: 7 - reg, C: reg, N: math.MinInt32, M: math.MaxInt32}} {
				n.Op = op
				if !impl.InsOk(n) {
					t.Errorf("InsOk(%v) is false", n)
				}
			}
		}
	}
	for _, n := range badIns() {
		if impl.InsOk(n) {
			t.Errorf("InsOk(%v) is true", n)
		}
	}
}

func TestInstructionsAsBytes(t *testing.T) {
	var all []impl.Ins
	var whole []byte
	for _, f := range insForms {
		wantBytes(t, []impl.Ins{f.n}, f.bytes)
		wantIns(t, f.bytes, 0, f.n)
		all, whole = append(all, f.n), join(whole, f.bytes)
	}
	wantBytes(t, all, whole)
	for i, n := range all {
		wantIns(t, whole, i, n)
	}
	wantNoIns(t, whole, len(all))
}

func TestNoInstructionsAtAll(t *testing.T) {
	wantBytes(t, nil, nil)
	wantBytes(t, []impl.Ins{}, nil)
	for _, at := range append([]int{0, 1}, placesOff...) {
		wantNoIns(t, nil, at)
		wantNoIns(t, []byte{}, at)
	}
}

// counted is a list of so many instructions, no two of them alike.
func counted(count int) []impl.Ins {
	l := make([]impl.Ins, count)
	for i := range l {
		l[i] = impl.Ins{Op: i%22 + 1, A: i % 8, B: i / 8 % 8, C: i / 64 % 8, N: i - 2000, M: -i}
	}
	return l
}

func TestAsManyInstructionsAsMayBe(t *testing.T) {
	l := counted(4000)
	b, ok := impl.Encode(l)
	if !ok || len(b) != 48000 {
		t.Fatal(len(b), ok)
	}
	for i, n := range l {
		wantIns(t, b, i, n)
	}
	wantNoIns(t, b, 4000)
	wantNoBytes(t, counted(4001))
	wantNoBytes(t, counted(5000))
	wantNoBytes(t, make([]impl.Ins, 4001))
	// The limit is Encode's: Decode goes as far as the bytes do.
	longer := join(b, b)
	wantIns(t, longer, 4000, l[0])
	wantIns(t, longer, 7999, l[3999])
	wantNoIns(t, longer, 8000)
}

func TestEncodeRefuses(t *testing.T) {
	for _, n := range badIns() {
		wantNoBytes(t, []impl.Ins{n})
		first, last := counted(5), counted(5)
		first[0], last[4] = n, n
		wantNoBytes(t, first)
		wantNoBytes(t, last)
	}
	full := counted(4000)
	full[3999].Op = 23
	wantNoBytes(t, full)
}

func TestDecodeRefusesPlaces(t *testing.T) {
	b, _ := impl.Encode(counted(3))
	for _, at := range placesOff {
		wantNoIns(t, b, at)
	}
	// Twelve times these goes round, to a place among the bytes or near it.
	for _, at := range []int{1 << 62, -1 << 62, 1<<62 + 1, 1<<62 + 2, 1 << 61, 1 << 63 / 12, 1<<63/12 + 1, 1<<64/12 + 1, 1<<64/12 + 2, math.MaxInt/3 + 1, -1 << 63 / 12} {
		wantNoIns(t, b, at)
		wantNoIns(t, nil, at)
	}
	for _, at := range []int{3, 4, 12, 24, 36, 1 << 32} {
		wantNoIns(t, b, at)
	}
}

func TestDecodeRefusesShortBytes(t *testing.T) {
	b, _ := impl.Encode(counted(3))
	for size := range len(b) + 1 {
		for at := range 4 {
			if size >= 12*at+12 {
				wantIns(t, b[:size], at, counted(3)[at])
			} else {
				wantNoIns(t, b[:size], at)
			}
		}
	}
	// A byte too many is no instruction, and hinders none.
	longer := join(b, []byte{1})
	wantIns(t, longer, 2, counted(3)[2])
	wantNoIns(t, longer, 3)
	wantNoIns(t, join(longer, make([]byte, 10)), 3)
	wantIns(t, join(longer, make([]byte, 11)), 3, impl.Ins{Op: 1})
}

// Each of the first four bytes is tried with all values, those behind them
// with some: what is read as an instruction has just these bytes.
func TestBytesReadAreJustTheInstructions(t *testing.T) {
	limits := [4][2]int{{1, 22}, {0, 7}, {0, 7}, {0, 7}}
	for place := range 12 {
		for x := range 256 {
			b := []byte{5, 1, 2, 3, 10, 20, 30, 40, 50, 60, 70, 80}
			b[place] = byte(x)
			n, ok := impl.Decode(b, 0)
			if want := place > 3 || x >= limits[place][0] && x <= limits[place][1]; ok != want {
				t.Errorf("Decode(%v, 0) = %v, %v; want %v", b, n, ok, want)
			}
			if !ok {
				wantNoIns(t, b, 0)
				continue
			}
			if !impl.InsOk(n) || n != insByRule(b) {
				t.Errorf("Decode(%v, 0) = %v; want %v", b, n, insByRule(b))
			}
			wantBytes(t, []impl.Ins{n}, b)
		}
	}
	wantNoIns(t, make([]byte, 12), 0)
	wantNoIns(t, bytes.Repeat([]byte{255}, 12), 0)
}

// insByRule is what twelve bytes say, by the document.
func insByRule(b []byte) impl.Ins {
	return impl.Ins{Op: int(b[0]), A: int(b[1]), B: int(b[2]), C: int(b[3]), N: intByRule(b[4:8]), M: intByRule(b[8:12])}
}

func intByRule(b []byte) int {
	n := int(b[0]) + 256*int(b[1]) + 65536*int(b[2]) + 16777216*int(b[3])
	if n > math.MaxInt32 {
		n -= 4294967296
	}
	return n
}

func TestInstructionsComeBack(t *testing.T) {
	for op := 1; op <= 22; op++ {
		for _, n := range ends32 {
			for _, m := range ends32 {
				ins := impl.Ins{Op: op, A: op % 8, B: (op + 3) % 8, C: (op + 6) % 8, N: n, M: m}
				b, ok := impl.Encode([]impl.Ins{{Op: 20}, ins})
				if !ok || len(b) != 24 || insByRule(b[12:]) != ins {
					t.Fatalf("Encode of %v = %v, %v", ins, b, ok)
				}
				wantIns(t, b, 1, ins)
			}
		}
	}
}

// A bad instruction elsewhere does not hinder Decode.
func TestDecodeLooksAtOneAlone(t *testing.T) {
	b, _ := impl.Encode(counted(3))
	for i := range 12 {
		b[i], b[24+i] = 255, 255
	}
	wantNoIns(t, b, 0)
	wantIns(t, b, 1, counted(3)[1])
	wantNoIns(t, b, 2)
}

func TestEncodeLeavesItsListAlone(t *testing.T) {
	for _, bad := range []bool{false, true} {
		whole := counted(10)
		whole[7].Op = 99 // behind the length: not looked at
		if bad {
			whole[3].A = 8
		}
		kept := slices.Clone(whole)
		b, ok := impl.Encode(whole[:5])
		if ok == bad {
			t.Error("Encode looks behind the length")
		}
		spoil(b)
		if !slices.Equal(whole, kept) {
			t.Error("Encode changed its list")
		}
	}
	again, _ := impl.Encode(counted(5))
	first := bytes.Clone(again)
	other, _ := impl.Encode(counted(5))
	spoil(other)
	if !bytes.Equal(again, first) {
		t.Error("two answers share memory")
	}
}

func TestDecodeLeavesItsBytesAlone(t *testing.T) {
	text, _ := impl.Encode(counted(4))
	b, room := roomy(text)
	was := bytes.Clone(room)
	for at := -1; at < 7; at++ {
		impl.Decode(b, at)
	}
	if !bytes.Equal(room, was) {
		t.Error("Decode changed its bytes")
	}
	// The room behind holds a whole instruction, which is not read.
	wantNoIns(t, text[:36], 3)
	wantNoIns(t, text[:47], 3)
	wantIns(t, text[:36], 2, counted(4)[2])
}

func wantArith(t *testing.T, op, a, b, want, trap int) {
	t.Helper()
	if got, gotTrap := impl.Arith(op, a, b); got != want || gotTrap != trap {
		t.Errorf("Arith(%d, %d, %d) = %d, %d; want %d, %d", op, a, b, got, gotTrap, want, trap)
	}
}

func TestArith(t *testing.T) {
	const least, most = math.MinInt32, math.MaxInt32
	for _, c := range []struct{ op, a, b, want, trap int }{
		{impl.ArAdd, 2, 3, 5, 0},
		{impl.ArAdd, most, 1, least, 0},
		{impl.ArAdd, least, -1, most, 0},
		{impl.ArAdd, most, most, -2, 0},
		{impl.ArAdd, least, least, 0, 0},
		{impl.ArSub, 2, 3, -1, 0},
		{impl.ArSub, least, 1, most, 0},
		{impl.ArSub, most, -1, least, 0},
		{impl.ArSub, 0, least, least, 0},
		{impl.ArMul, -7, 6, -42, 0},
		{impl.ArMul, 65536, 65536, 0, 0},
		{impl.ArMul, 65536, 32768, least, 0},
		{impl.ArMul, 46341, 46341, -2147479015, 0},
		{impl.ArMul, most, most, 1, 0},
		{impl.ArMul, least, least, 0, 0},
		{impl.ArMul, least, -1, least, 0},
		{impl.ArDiv, 7, 2, 3, 0},
		{impl.ArDiv, -7, 2, -3, 0},
		{impl.ArDiv, 7, -2, -3, 0},
		{impl.ArDiv, -7, -2, 3, 0},
		{impl.ArDiv, 1, 2, 0, 0},
		{impl.ArDiv, -1, 2, 0, 0},
		{impl.ArDiv, least, -1, least, 0},
		{impl.ArDiv, least, 1, least, 0},
		{impl.ArDiv, least, 2, -1 << 30, 0},
		{impl.ArDiv, most, -1, -most, 0},
		{impl.ArDiv, 0, 5, 0, 0},
		{impl.ArDiv, 5, 0, 0, impl.TrapZero},
		{impl.ArDiv, 0, 0, 0, impl.TrapZero},
		{impl.ArDiv, least, 0, 0, impl.TrapZero},
		{impl.ArLess, 2, 3, 1, 0},
		{impl.ArLess, 3, 3, 0, 0},
		{impl.ArLess, 3, 2, 0, 0},
		{impl.ArLess, least, most, 1, 0},
		{impl.ArLess, most, least, 0, 0},
		{impl.ArLess, -1, 0, 1, 0},
		{impl.ArSame, 3, 3, 1, 0},
		{impl.ArSame, 3, -3, 0, 0},
		{impl.ArSame, least, most, 0, 0},
		{impl.ArSame, least, least, 1, 0},
		{impl.ArSame, 0, 0, 1, 0},
	} {
		wantArith(t, c.op, c.a, c.b, c.want, c.trap)
	}
}

func TestArithBeyond32Bits(t *testing.T) {
	for _, c := range []struct{ op, a, b, want, trap int }{
		{impl.ArAdd, 1 << 32, 1, 1, 0},
		{impl.ArAdd, math.MaxInt, 1, 0, 0},
		{impl.ArSub, math.MinInt, 1, -1, 0},
		{impl.ArMul, 1<<32 + 3, 1<<40 + 5, 15, 0},
		{impl.ArDiv, 1<<32 + 9, 1<<32 + 2, 4, 0},
		{impl.ArDiv, 1, 1 << 32, 0, impl.TrapZero},
		{impl.ArDiv, 1, math.MinInt, 0, impl.TrapZero},
		{impl.ArDiv, 1 << 31, math.MaxInt, math.MinInt32, 0},
		{impl.ArDiv, 1 << 31, 2, -1 << 30, 0},
		{impl.ArLess, 1 << 31, 0, 1, 0},
		{impl.ArLess, 0, 1 << 31, 0, 0},
		{impl.ArLess, 1 << 32, 1, 1, 0},
		{impl.ArSame, 1 << 32, 0, 1, 0},
		{impl.ArSame, math.MaxInt, -1, 1, 0},
		{impl.ArSame, 1 << 31, math.MinInt32, 1, 0},
	} {
		wantArith(t, c.op, c.a, c.b, c.want, c.trap)
	}
}

func TestArithRefusesOps(t *testing.T) {
	for _, op := range []int{-1, 6, 7, 255, 256, 1 << 32, 1<<32 + 3, -1 << 32, math.MaxInt, math.MinInt} {
		for _, b := range []int{0, 1, 5, 1 << 32} {
			wantArith(t, op, 5, b, 0, impl.TrapIns)
		}
	}
}

// wrapByRule is the number in 32 bits that n is like, modulo 2^32.
func wrapByRule(n *big.Int) int {
	modulus, half := big.NewInt(1<<32), big.NewInt(1<<31)
	r := new(big.Int).Add(n, half)
	r.Mod(r, modulus)
	return int(r.Sub(r, half).Int64())
}

func arithByRule(op, a, b int) (int, int) {
	a, b = wrapByRule(big.NewInt(int64(a))), wrapByRule(big.NewInt(int64(b)))
	x, y, r := big.NewInt(int64(a)), big.NewInt(int64(b)), new(big.Int)
	switch op {
	case 0:
		r.Add(x, y)
	case 1:
		r.Sub(x, y)
	case 2:
		r.Mul(x, y)
	case 3:
		if b == 0 {
			return 0, 6
		}
		r.Quo(x, y)
	case 4:
		if x.Cmp(y) < 0 {
			r.SetInt64(1)
		}
	case 5:
		if x.Cmp(y) == 0 {
			r.SetInt64(1)
		}
	default:
		return 0, 4
	}
	return wrapByRule(r), 0
}

func TestArithByRule(t *testing.T) {
	numbers := slices.Concat(ends32, no32)
	for op := -1; op <= 6; op++ {
		for _, a := range numbers {
			for _, b := range numbers {
				want, trap := arithByRule(op, a, b)
				wantArith(t, op, a, b, want, trap)
			}
		}
	}
}
