package impl

const MaxNum = 2147483647
const MaxText = 40

// rowSize is how many bytes MaxNum takes, so no number takes more.
const rowSize = 5

// more is added to each byte of a number but the last one.
const more = 128

const sumModulus = 2147483647

// How the bytes at a place end, read as a number's.
const (
	rowWhole = iota
	rowCut
	rowLong
)

// numRow is what a number becomes: the first size bytes; those behind them
// stay 0, so that two rows are the same just if their bytes are.
type numRow struct {
	bytes [rowSize]byte
	size  int
}

func Wrap(n int) int { return int(int32(n)) }

func PutNum(b []byte, n int) []byte {
	if n < 0 || n > MaxNum {
		return joined(b, nil)
	}
	row := rowOf(n)
	return joined(b, row.bytes[:row.size])
}

func GetNum(b []byte, at int) (int, int) {
	row, end := rowAt(b, at)
	if end != rowWhole {
		return 0, -1
	}
	n := row.number()
	// A number has one row alone: a needless 0 at the end is found by this, too.
	if n > MaxNum || rowOf(n) != row {
		return 0, -1
	}
	return n, at + row.size
}

func PutText(b []byte, t []byte) []byte {
	if len(t) > MaxText {
		return joined(b, nil)
	}
	return joined(PutNum(b, len(t)), t)
}

func GetText(b []byte, at int) ([]byte, int) {
	n, from := GetNum(b, at)
	if from < 0 || n > MaxText || n > len(b)-from {
		return nil, -1
	}
	return joined(nil, b[from:from+n]), from + n
}

func Sum(b []byte) int {
	sum := 7
	for _, x := range b {
		sum = (257*sum + int(x) + 1) % sumModulus
	}
	return sum
}

// rowOf wants n in 0 .. MaxNum: no other fits.
func rowOf(n int) numRow {
	var row numRow
	for n >= more {
		row.bytes[row.size] = byte(n%more + more)
		row.size++
		n /= more
	}
	row.bytes[row.size] = byte(n)
	row.size++
	return row
}

// rowAt takes the bytes from at on, up to the first one without more, and
// tells how they end.
func rowAt(b []byte, at int) (numRow, int) {
	var row numRow
	if at < 0 || at > len(b) {
		return row, rowCut
	}
	for _, x := range b[at:] {
		if row.size == rowSize {
			return row, rowLong
		}
		row.bytes[row.size] = x
		row.size++
		if x < more {
			return row, rowWhole
		}
	}
	return row, rowCut
}

// number may be above MaxNum: five bytes hold 35 bits.
func (r numRow) number() int {
	n := 0
	for i := r.size - 1; i >= 0; i-- {
		n = n*more + int(r.bytes[i]%more)
	}
	return n
}

// joined is new memory always: append could write into the room behind b.
func joined(b []byte, c []byte) []byte {
	all := make([]byte, len(b)+len(c))
	copy(all, b)
	copy(all[len(b):], c)
	return all
}
