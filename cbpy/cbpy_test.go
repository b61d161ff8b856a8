package cbpy_test

import (
	"math"
	"strings"
	"testing"

	"overspill/api"
	"overspill/cbpy"
	"overspill/inbits"
	"overspill/outbits"
)

// table has the chapter's rows: the pattern that each tells in a cell that is
// intra. In other cells it tells 15 less it.
func table() map[string]int {
	return map[string]int{
		"0011": 0, "00101": 1, "00100": 2, "1001": 3, "00011": 4, "0111": 5, "000010": 6, "1011": 7,
		"00010": 8, "000011": 9, "0101": 10, "1010": 11, "0100": 12, "1000": 13, "0110": 14, "11": 15,
	}
}

// kind is what a pattern of the table is in a cell that is intra, or is not.
func kind(intra bool, pattern int) int {
	if intra {
		return pattern
	}
	return 15 - pattern
}

// ends are numbers below and above all patterns.
func ends() []int {
	return []int{
		-1, -2, -3, -8, -15, -16, -17, -256, math.MinInt32, math.MinInt + 1, math.MinInt + 15, math.MinInt,
		16, 17, 18, 30, 31, 32, 64, 255, 256, 1 << 32, 1<<32 + 3, math.MaxInt32, math.MaxInt - 15, math.MaxInt - 1, math.MaxInt,
	}
}

// text is the bits of rows, one behind the other, and 0 bits up to a byte's end.
func text(t *testing.T, rows ...string) string {
	t.Helper()
	s, err := outbits.Pack(strings.Join(rows, ""))
	if err != api.OK {
		t.Fatalf("Pack(%v): %d", rows, err)
	}
	return s
}

// reader stands at that bit of s.
func reader(t *testing.T, s string, at int) *inbits.Reader {
	t.Helper()
	r := inbits.New(s)
	if err := r.Seek(at); err != api.OK {
		t.Fatalf("Seek(%d) of % x: %d", at, s, err)
	}
	return r
}

// ending stands ahead of these bits, which are the last ones of its text; 1 bits
// stand ahead of them.
func ending(t *testing.T, bits string) *inbits.Reader {
	t.Helper()
	ahead := 8 + (8-len(bits)%8)%8
	return reader(t, text(t, strings.Repeat("1", ahead), bits), ahead)
}

// take asks for one pattern, and how far the reader goes; it reads on in the same
// text then.
func take(t *testing.T, what string, r *inbits.Reader, intra bool, want int, wrong api.Errno, far int) {
	t.Helper()
	s, at := r.Text(), r.At()
	pattern, err := cbpy.Take(r, intra)
	if pattern != want || err != wrong {
		t.Fatalf("%s: Take(%v) = %d, %d, want %d, %d", what, intra, pattern, err, want, wrong)
	}
	if r.Text() != s || r.At() != at+far || r.Left() != 8*len(s)-at-far {
		t.Fatalf("%s: Take(%v) went from %d to %d, with %d bits left, want %d", what, intra, at, r.At(), r.Left(), at+far)
	}
}

// told is what stands at the beginning of bits, by the chapters' words: bit by
// bit, and how far a reader goes.
func told(intra bool, bits string) (int, api.Errno, int) {
	for n := 1; n <= len(bits); n++ {
		if pattern, is := table()[bits[:n]]; is {
			return kind(intra, pattern), api.OK, n
		}
		begins := false
		for row := range table() {
			begins = begins || strings.HasPrefix(row, bits[:n])
		}
		if !begins {
			return 0, api.ErrCode, 0
		}
	}
	return 0, api.ErrShort, 0
}

func TestExample(t *testing.T) {
	if row, is := cbpy.Row(true, 15); row != "11" || !is {
		t.Errorf("Row(true, 15) = %q, %v", row, is)
	}
	if row, is := cbpy.Row(false, 15); row != "0011" || !is {
		t.Errorf("Row(false, 15) = %q, %v", row, is)
	}
	take(t, "11", inbits.New("\xc0"), false, 0, api.OK, 2)
}

// All patterns, in both kinds of cells.
func TestRow(t *testing.T) {
	if len(table()) != 16 {
		t.Fatalf("the test has %d rows", len(table()))
	}
	for want, pattern := range table() {
		if row, is := cbpy.Row(true, pattern); row != want || !is {
			t.Errorf("Row(true, %d) = %q, %v, want %q", pattern, row, is, want)
		}
		if row, is := cbpy.Row(false, 15-pattern); row != want || !is {
			t.Errorf("Row(false, %d) = %q, %v, want %q", 15-pattern, row, is, want)
		}
	}
}

// A pattern has the row that 15 less it has in the other kind of cells.
func TestRowOfTheOtherKind(t *testing.T) {
	for pattern := range 16 {
		a, is := cbpy.Row(true, pattern)
		b, also := cbpy.Row(false, 15-pattern)
		c, never := cbpy.Row(false, pattern)
		if a != b || !is || !also || c == a || !never {
			t.Errorf("pattern %d: %q, %v, and 15 less it %q, %v, and itself %q, %v", pattern, a, is, b, also, c, never)
		}
	}
}

func TestNoRow(t *testing.T) {
	for _, intra := range []bool{false, true} {
		for _, pattern := range ends() {
			if row, is := cbpy.Row(intra, pattern); row != "" || is {
				t.Errorf("Row(%v, %d) = %q, %v, want none", intra, pattern, row, is)
			}
		}
		for pattern := -300; pattern < 300; pattern++ {
			row, is := cbpy.Row(intra, pattern)
			if want := pattern >= 0 && pattern <= 15; is != want || (row != "") != want {
				t.Errorf("Row(%v, %d) = %q, %v", intra, pattern, row, is)
			}
		}
	}
}

// P7.3: no row begins another one, or is the same.
func TestNoRowBeginsAnother(t *testing.T) {
	for _, intra := range []bool{false, true} {
		for i := range 16 {
			for j := range 16 {
				a, _ := cbpy.Row(intra, i)
				b, _ := cbpy.Row(intra, j)
				if a == "" || strings.Trim(a, "01") != "" || i != j && strings.HasPrefix(a, b) {
					t.Errorf("intra %v: row %q begins with %q, or is none", intra, a, b)
				}
			}
		}
	}
}

// Each row, from each bit of a byte on, with other bits ahead and behind, or none
// behind.
func TestTake(t *testing.T) {
	for row, pattern := range table() {
		for _, intra := range []bool{false, true} {
			for ahead := range 17 {
				for _, bit := range []string{"0", "1"} {
					for _, behind := range []string{"", "0", "1", "000000000", "111111111", row} {
						r := reader(t, text(t, strings.Repeat(bit, ahead), row, behind), ahead)
						take(t, row, r, intra, kind(intra, pattern), api.OK, len(row))
					}
				}
			}
			take(t, row+" at the text's end", ending(t, row), intra, kind(intra, pattern), api.OK, len(row))
		}
	}
}

// All bits that a text can end with: the first ones tell which, and whether they
// are too few, or no row.
func TestTakeOfAllBits(t *testing.T) {
	for _, intra := range []bool{false, true} {
		found := map[api.Errno]int{}
		for n := range 11 {
			for v := range 1 << n {
				bits, err := outbits.Row(v, n)
				if err != api.OK {
					t.Fatalf("Row(%d, %d): %d", v, n, err)
				}
				want, wrong, far := told(intra, bits)
				found[wrong]++
				take(t, bits, ending(t, bits), intra, want, wrong, far)
			}
		}
		if len(found) != 3 || found[api.OK] == 0 || found[api.ErrShort] == 0 || found[api.ErrCode] == 0 {
			t.Errorf("intra %v: the bits tell %v", intra, found)
		}
	}
}

// Bits that end within a row are too few, however many rows they begin.
func TestBitsThatEndWithinRows(t *testing.T) {
	for row := range table() {
		for n := range row {
			take(t, row[:n], ending(t, row[:n]), true, 0, api.ErrShort, 0)
			take(t, row[:n], ending(t, row[:n]), false, 0, api.ErrShort, 0)
		}
	}
}

// The first bit with which no row begins is told as such, be there another one
// behind it or not.
func TestBitsOfNoRow(t *testing.T) {
	for _, intra := range []bool{false, true} {
		take(t, "as many noughts as may be", ending(t, "0000"), intra, 0, api.ErrShort, 0)
		for _, bits := range []string{"00000", "000000", "0000000000000000"} {
			take(t, bits, ending(t, bits), intra, 0, api.ErrCode, 0)
		}
		for ahead := range 8 {
			for _, behind := range []string{"", "0", "1", "11111111", "11000011"} {
				r := reader(t, text(t, strings.Repeat("1", ahead), "00000", behind), ahead)
				take(t, "00000"+behind, r, intra, 0, api.ErrCode, 0)
			}
		}
	}
}

func TestNoReader(t *testing.T) {
	for _, intra := range []bool{false, true} {
		if pattern, err := cbpy.Take(nil, intra); pattern != 0 || err != api.ErrArg {
			t.Errorf("Take(nil, %v) = %d, %d, want ErrArg", intra, pattern, err)
		}
		take(t, "a zero reader", &inbits.Reader{}, intra, 0, api.ErrShort, 0)
		take(t, "an empty text", inbits.New(""), intra, 0, api.ErrShort, 0)
		take(t, "a text's end", reader(t, "\xff", 8), intra, 0, api.ErrShort, 0)
		take(t, "a text's end", reader(t, "\x00\x00", 16), intra, 0, api.ErrShort, 0)
	}
}

// Behind an error the reader reads on where it stood.
func TestReaderBehindErrors(t *testing.T) {
	for ahead := range 9 {
		r := reader(t, text(t, strings.Repeat("1", ahead), "000001", "11"), ahead)
		for n := range 6 {
			take(t, "000001", r, n%2 == 0, 0, api.ErrCode, 0)
		}
		for i, want := range []int{0, 0, 0, 0, 0, 1} {
			if bit, err := r.Take(1); bit != want || err != api.OK {
				t.Fatalf("bit %d behind an error: %d, %d", i, bit, err)
			}
		}
		take(t, "behind it", r, true, 15, api.OK, 2)
	}
	r := ending(t, "0001")
	take(t, "0001", r, true, 0, api.ErrShort, 0)
	take(t, "0001", r, false, 0, api.ErrShort, 0)
	if v, err := r.Take(4); v != 1 || err != api.OK {
		t.Errorf("behind an error 4 bits are %d, %d", v, err)
	}
	take(t, "no bit", r, true, 0, api.ErrShort, 0)
}

// The same bits tell 15 less it in the other kind of cells, asked in turn.
func TestSameBitsInBothKinds(t *testing.T) {
	for row, pattern := range table() {
		s := text(t, row)
		for range 2 {
			take(t, row, inbits.New(s), true, pattern, api.OK, len(row))
			take(t, row, inbits.New(s), false, 15-pattern, api.OK, len(row))
		}
	}
}

// P7.3: what Row tells is taken again, row behind row, from each bit of a byte
// on.
func TestTakenAgain(t *testing.T) {
	for ahead := range 8 {
		w := outbits.New()
		w.Put(0, ahead)
		for n := range 512 {
			row, is := cbpy.Row(n/256 == 0, n%256*11/16%16)
			if !is || w.Add(row) != api.OK {
				t.Fatalf("row %d is %q", n, row)
			}
		}
		r := reader(t, w.Text(), ahead)
		for n := range 512 {
			intra, pattern := n/256 == 0, n%256*11/16%16
			row, _ := cbpy.Row(intra, pattern)
			take(t, row, r, intra, pattern, api.OK, len(row))
		}
		if r.At() != w.Len() {
			t.Errorf("%d bits were taken of %d", r.At(), w.Len())
		}
	}
}

// All rows two by two, of the same kind of cells and of unlike ones.
func TestTakenAgainTwoByTwo(t *testing.T) {
	for n := range 32 * 32 {
		a, b := n%32, n/32
		first, _ := cbpy.Row(a >= 16, a%16)
		second, _ := cbpy.Row(b >= 16, b%16)
		r := inbits.New(text(t, first, second))
		take(t, first, r, a >= 16, a%16, api.OK, len(first))
		take(t, second, r, b >= 16, b%16, api.OK, len(second))
	}
}
