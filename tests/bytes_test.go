package tests

import (
	"bytes"
	"math"
	"slices"
	"testing"

	"loop.example/g00335/impl"
)

// numForms: numbers with their bytes, written out by hand.
var numForms = []struct {
	n     int
	bytes []byte
}{
	{0, []byte{0}},
	{1, []byte{1}},
	{127, []byte{127}},
	{128, []byte{128, 1}},
	{255, []byte{255, 1}},
	{256, []byte{128, 2}},
	{300, []byte{172, 2}},
	{16383, []byte{255, 127}},
	{16384, []byte{128, 128, 1}},
	{2097151, []byte{255, 255, 127}},
	{2097152, []byte{128, 128, 128, 1}},
	{268435455, []byte{255, 255, 255, 127}},
	{268435456, []byte{128, 128, 128, 128, 1}},
	{2147483646, []byte{254, 255, 255, 255, 7}},
	{impl.MaxNum, []byte{255, 255, 255, 255, 7}},
}

// placesOff: places that no list has.
var placesOff = []int{-1, -2, math.MinInt, math.MaxInt, math.MaxInt - 4}

func join(parts ...[]byte) []byte {
	return slices.Concat(parts...)
}

func wantNum(t *testing.T, b []byte, at int, n int, next int) {
	t.Helper()
	if gotN, gotNext := impl.GetNum(b, at); gotN != n || gotNext != next {
		t.Errorf("GetNum(%v, %d) = %d, %d; want %d, %d", b, at, gotN, gotNext, n, next)
	}
}

func wantText(t *testing.T, b []byte, at int, text []byte, next int) {
	t.Helper()
	if got, gotNext := impl.GetText(b, at); !bytes.Equal(got, text) || gotNext != next {
		t.Errorf("GetText(%v, %d) = %v, %d; want %v, %d", b, at, got, gotNext, text, next)
	}
}

func TestLimitsOfBytes(t *testing.T) {
	if impl.MaxNum != 2147483647 || impl.MaxText != 40 {
		t.Fatal(impl.MaxNum, impl.MaxText)
	}
}

func TestWrap(t *testing.T) {
	for _, c := range []struct{ n, want int }{
		{0, 0},
		{1, 1},
		{-1, -1},
		{-5, -5},
		{1<<31 - 1, 1<<31 - 1},
		{1 << 31, -1 << 31},
		{1<<31 + 1, -1<<31 + 1},
		{-1 << 31, -1 << 31},
		{-1<<31 - 1, 1<<31 - 1},
		{1<<32 - 1, -1},
		{1 << 32, 0},
		{1<<32 + 7, 7},
		{-1 << 32, 0},
		{-1<<32 - 7, -7},
		{3 << 31, -1 << 31},
		{math.MaxInt, -1},
		{math.MaxInt - 1, -2},
		{math.MinInt, 0},
		{math.MinInt + 1, 1},
	} {
		if got := impl.Wrap(c.n); got != c.want {
			t.Errorf("Wrap(%d) = %d; want %d", c.n, got, c.want)
		}
	}
}

func TestPutNumForms(t *testing.T) {
	for _, ahead := range [][]byte{nil, {9}, {128, 255, 0}} {
		for _, f := range numForms {
			if got, want := impl.PutNum(ahead, f.n), join(ahead, f.bytes); !bytes.Equal(got, want) {
				t.Errorf("PutNum(%v, %d) = %v; want %v", ahead, f.n, got, want)
			}
		}
		for _, n := range []int{-1, -128, impl.MaxNum + 1, 1 << 32, 1 << 35, math.MaxInt, math.MinInt} {
			if got := impl.PutNum(ahead, n); !bytes.Equal(got, ahead) {
				t.Errorf("PutNum(%v, %d) = %v; want what was ahead", ahead, n, got)
			}
		}
	}
}

func TestGetNumForms(t *testing.T) {
	for _, ahead := range [][]byte{nil, {9}, {128, 255, 0}} {
		for _, behind := range [][]byte{nil, {0}, {255, 255}} {
			for _, f := range numForms {
				b := join(ahead, f.bytes, behind)
				wantNum(t, b, len(ahead), f.n, len(ahead)+len(f.bytes))
			}
		}
	}
}

func TestNumsComeBack(t *testing.T) {
	for n := 0; n <= impl.MaxNum; n += 1 + n/300 {
		b := impl.PutNum([]byte{200}, n)
		wantNum(t, b, 1, n, len(b))
	}
}

func TestGetNumRefusesPlaces(t *testing.T) {
	for _, b := range [][]byte{nil, {}, {5}, {1, 2, 3}} {
		for _, at := range append([]int{len(b), len(b) + 1, -len(b) - 1}, placesOff...) {
			wantNum(t, b, at, 0, -1)
		}
	}
}

func TestGetNumRefusesBytes(t *testing.T) {
	for _, b := range [][]byte{
		{128},
		{255, 128},
		{128, 128, 128, 128},
		{255, 255, 255, 255, 255},
		{128, 0},
		{255, 0},
		{129, 128, 0},
		{255, 255, 255, 255, 0},
		{128, 128, 128, 128, 8},
		{255, 255, 255, 255, 8},
		{255, 255, 255, 255, 127},
		{128, 128, 128, 128, 128, 0},
		{128, 128, 128, 128, 128, 1},
		{255, 255, 255, 255, 255, 7},
		{129, 128, 128, 128, 128, 128, 0},
	} {
		wantNum(t, b, 0, 0, -1)
		wantNum(t, join([]byte{3}, b), 1, 0, -1)
	}
	// All the bytes but the last one are not all the bytes, wherever the list's room ends.
	for _, f := range numForms {
		for cut := range f.bytes {
			wantNum(t, f.bytes[:cut], 0, 0, -1)
		}
	}
}

// numByRule finds the number that b begins with by trying each count of bytes
// against what PutNum writes.
func numByRule(b []byte) (int, int) {
	n := 0
	for i, x := range b {
		if i == 5 {
			break
		}
		n += int(x%128) << (7 * i)
		if bytes.Equal(impl.PutNum(nil, n), b[:i+1]) {
			return n, i + 1
		}
	}
	return 0, -1
}

func TestBytesReadAreJustTheNumbers(t *testing.T) {
	for x := range 256 {
		for y := range 256 {
			b := []byte{byte(x), byte(y)}
			n, next := numByRule(b)
			wantNum(t, b, 0, n, next)
		}
	}
	edges := []byte{0, 1, 7, 8, 127, 128, 129, 255}
	for code := range 1 << 18 {
		b := make([]byte, 6)
		for i := range b {
			b[i] = edges[code>>(3*i)&7]
		}
		n, next := numByRule(b)
		wantNum(t, b, 0, n, next)
	}
}

func letters(count int) []byte {
	text := make([]byte, count)
	for i := range text {
		text[i] = byte(250 + 3*i)
	}
	return text
}

func TestTextsComeBack(t *testing.T) {
	for count := range impl.MaxText + 1 {
		text := letters(count)
		for _, ahead := range [][]byte{nil, {9}, {128, 255, 0}} {
			b := impl.PutText(ahead, text)
			if want := join(ahead, []byte{byte(count)}, text); !bytes.Equal(b, want) {
				t.Errorf("PutText(%v, %v) = %v; want %v", ahead, text, b, want)
			}
			wantText(t, b, len(ahead), text, len(b))
			wantText(t, join(b, []byte{1, 255}), len(ahead), text, len(b))
		}
	}
	wantText(t, impl.PutText(nil, nil), 0, nil, 1)
}

func TestPutTextRefusesLong(t *testing.T) {
	for _, count := range []int{impl.MaxText + 1, impl.MaxText + 2, 128, 1000} {
		for _, ahead := range [][]byte{nil, {9}, {128, 255, 0}} {
			if got := impl.PutText(ahead, letters(count)); !bytes.Equal(got, ahead) {
				t.Errorf("PutText(%v, %d bytes) = %v; want what was ahead", ahead, count, got)
			}
		}
	}
}

func TestGetTextRefuses(t *testing.T) {
	whole := impl.PutText(nil, []byte("text"))
	for _, at := range append([]int{len(whole), len(whole) + 1}, placesOff...) {
		wantText(t, whole, at, nil, -1)
	}
	for cut := range whole {
		wantText(t, whole[:cut], 0, nil, -1)
	}
	wantText(t, nil, 0, nil, -1)
	for _, count := range []int{impl.MaxText + 1, 128, impl.MaxNum} {
		long := join(impl.PutNum(nil, count), letters(200))
		wantText(t, long, 0, nil, -1)
	}
	greatest := join([]byte{impl.MaxText}, letters(impl.MaxText))
	wantText(t, greatest[:impl.MaxText], 0, nil, -1)
	// How long it is told by bytes that are no number.
	wantText(t, []byte{128, 0, 1, 2}, 0, nil, -1)
	wantText(t, []byte{130, 0, 'a', 'b'}, 0, nil, -1)
	wantText(t, []byte{255, 255, 255, 255, 8, 1}, 0, nil, -1)
	wantText(t, []byte{128, 128, 128, 128, 128, 0, 1}, 0, nil, -1)
}

func TestBytesReadAreJustTheTexts(t *testing.T) {
	for x := range 256 {
		for y := range 256 {
			b := join([]byte{byte(x), byte(y)}, letters(50))
			text, next := impl.GetText(b, 0)
			if next == -1 {
				if len(text) != 0 || x <= impl.MaxText {
					t.Errorf("GetText of %d, %d, .. = %v, -1", x, y, text)
				}
			} else if next < 1 || next > len(b) || !bytes.Equal(impl.PutText(nil, text), b[:next]) {
				t.Errorf("GetText of %d, %d, .. = %v, %d", x, y, text, next)
			}
		}
	}
}

func TestSum(t *testing.T) {
	for _, c := range []struct {
		b    []byte
		want int
	}{
		{nil, 7},
		{[]byte{}, 7},
		{[]byte{0}, 1800},
		{[]byte{255}, 2055},
		{[]byte("a"), 1897},
		{[]byte("ab"), 487628},
		{[]byte("ba"), 487884},
		{[]byte{0, 0, 0}, 118888458},
		{[]byte{0, 0, 0, 0}, 489562649},
		{bytes.Repeat([]byte{255}, 9), sumByRule(bytes.Repeat([]byte{255}, 9))},
		{letters(1000), sumByRule(letters(1000))},
	} {
		if got := impl.Sum(c.b); got != c.want {
			t.Errorf("Sum(%v) = %d; want %d", c.b, got, c.want)
		}
	}
}

// sumByRule takes the modulus off by hand, time after time.
func sumByRule(b []byte) int {
	sum := 7
	for _, x := range b {
		sum = 257*sum + int(x) + 1
		for sum >= 2147483647 {
			sum -= 2147483647
		}
	}
	return sum
}

// roomy is text in a list with more room behind it, all of it 77.
func roomy(text []byte) (list []byte, whole []byte) {
	whole = join(text, bytes.Repeat([]byte{77}, 64))
	return whole[:len(text)], whole
}

func TestPutsLeaveArgumentsAlone(t *testing.T) {
	for _, n := range []int{-1, 0, 300, impl.MaxNum, impl.MaxNum + 1} {
		b, room := roomy([]byte{1, 2, 3})
		was := bytes.Clone(room)
		got := impl.PutNum(b, n)
		spoil(got)
		if !bytes.Equal(room, was) {
			t.Errorf("PutNum of %d: b is no longer %v but %v", n, was, room)
		}
	}
	for _, count := range []int{0, 2, impl.MaxText, impl.MaxText + 1} {
		b, room := roomy([]byte{1, 2, 3})
		text, textRoom := roomy(letters(count))
		was, textWas := bytes.Clone(room), bytes.Clone(textRoom)
		got := impl.PutText(b, text)
		spoil(got)
		if !bytes.Equal(room, was) || !bytes.Equal(textRoom, textWas) {
			t.Errorf("PutText of %d bytes changed b or t", count)
		}
	}
}

func TestPutTextOfOneMemory(t *testing.T) {
	whole := []byte("abcdefgh")
	if got := impl.PutText(whole[:3], whole[2:6]); string(got) != "abc\x04cdef" {
		t.Errorf("PutText of two pieces of one list = %q", got)
	}
	if string(whole) != "abcdefgh" {
		t.Errorf("the list is now %q", whole)
	}
}

func TestGetsLeaveArgumentsAlone(t *testing.T) {
	for count := range impl.MaxText + 1 {
		b, room := roomy(join([]byte{byte(count)}, letters(count)))
		was := bytes.Clone(room)
		impl.GetNum(b, 0)
		impl.Sum(b)
		text, _ := impl.GetText(b, 0)
		spoil(text)
		if !bytes.Equal(room, was) {
			t.Errorf("reading %d bytes changed b", count)
		}
	}
}

// spoil writes all over an answer, and over the room behind it.
func spoil(answer []byte) {
	answer = answer[:cap(answer)]
	for i := range answer {
		answer[i] ^= 255
	}
}

func TestRoomBehindIsNotRead(t *testing.T) {
	whole := []byte{128, 1, 2, 3}
	wantNum(t, whole[:1], 0, 0, -1)
	wantText(t, []byte{3, 'a', 'b', 'c'}[:3], 0, nil, -1)
	if got := impl.Sum(whole[:0]); got != 7 {
		t.Errorf("Sum of nothing, with room behind it = %d", got)
	}
	// Nothing of b's room is handed out behind the answer either.
	b, _ := roomy([]byte{1})
	got := impl.PutNum(b, 5)
	if bytes.Contains(got[:cap(got)], []byte{77}) {
		t.Errorf("PutNum hands out b's room: %v", got[:cap(got)])
	}
}

func TestBytesKeepNothing(t *testing.T) {
	first := impl.PutText(nil, []byte("one"))
	kept := bytes.Clone(first)
	impl.PutText(nil, []byte("two"))
	impl.PutNum(nil, 12345)
	if !bytes.Equal(first, kept) {
		t.Errorf("an answer was changed by a later call: %v", first)
	}
	text, _ := impl.GetText(first, 0)
	impl.GetText(impl.PutText(nil, []byte("two")), 0)
	if string(text) != "one" {
		t.Errorf("a text was changed by a later call: %q", text)
	}
}
