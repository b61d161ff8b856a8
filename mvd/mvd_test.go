package mvd_test

import (
	"math"
	"strings"
	"testing"

	"overspill/api"
	"overspill/inbits"
	"overspill/mvd"
	"overspill/outbits"
)

// amounts has the chapter's rows, from that of 0 on.
func amounts() []string {
	return []string{
		"1", "01", "001", "0001", "000011", "0000101", "0000100", "0000011",
		"000001011", "000001010", "000001001", "0000010001", "0000010000",
		"0000001111", "0000001110", "0000001101", "0000001100", "0000001011", "0000001010",
		"0000001001", "0000001000", "0000000111", "0000000110", "0000000101", "0000000100",
		"00000000111", "00000000110", "00000000101", "00000000100", "00000000011", "00000000010",
		"000000000011", "000000000010",
	}
}

// table has the rows of all differences: the difference that each tells.
func table() map[string]int {
	m := map[string]int{}
	for amount, row := range amounts() {
		switch {
		case amount == 0:
			m[row] = 0
		case amount == 32:
			m[row+"1"] = -32
		default:
			m[row+"0"] = amount
			m[row+"1"] = -amount
		}
	}
	return m
}

// beginnings has all bits with which a row begins, and the rows.
func beginnings() map[string]bool {
	m := map[string]bool{}
	for row := range table() {
		for n := range len(row) + 1 {
			m[row[:n]] = true
		}
	}
	return m
}

// ends are numbers below and above all differences.
func ends() []int {
	return []int{
		-33, -34, -63, -64, -65, -256, math.MinInt32, math.MinInt + 1, math.MinInt + 31, math.MinInt + 32, math.MinInt,
		32, 33, 34, 63, 64, 65, 256, 1 << 32, 1<<32 + 3, -(1 << 32), 3 - 1<<32, math.MaxInt32,
		math.MaxInt - 32, math.MaxInt - 31, math.MaxInt - 1, math.MaxInt,
	}
}

// text is the bits of rows, one behind the other, and 0 bits up to a byte's end.
func text(t *testing.T, rows ...string) string {
	t.Helper()
	s, err := outbits.Pack(strings.Join(rows, ""))
	if err != api.OK {
		t.Fatalf("Pack(%v): %d", rows, err)
	}
	return s
}

// reader stands at that bit of s.
func reader(t *testing.T, s string, at int) *inbits.Reader {
	t.Helper()
	r := inbits.New(s)
	if err := r.Seek(at); err != api.OK {
		t.Fatalf("Seek(%d) of % x: %d", at, s, err)
	}
	return r
}

// ending stands ahead of these bits, which are the last ones of its text; 1 bits
// stand ahead of them.
func ending(t *testing.T, bits string) *inbits.Reader {
	t.Helper()
	ahead := 8 + (8-len(bits)%8)%8
	return reader(t, text(t, strings.Repeat("1", ahead), bits), ahead)
}

// take asks for one difference, and how far the reader goes; it reads on in the
// same text then.
func take(t *testing.T, what string, r *inbits.Reader, want int, wrong api.Errno, far int) {
	t.Helper()
	s, at := r.Text(), r.At()
	d, err := mvd.Take(r)
	if d != want || err != wrong {
		t.Fatalf("%s: Take = %d, %d, want %d, %d", what, d, err, want, wrong)
	}
	if r.Text() != s || r.At() != at+far || r.Left() != 8*len(s)-at-far {
		t.Fatalf("%s: Take went from %d to %d, with %d bits left, want %d", what, at, r.At(), r.Left(), at+far)
	}
}

// told is what stands at the beginning of bits, by the chapters' words: bit by
// bit, and how far a reader goes.
func told(rows map[string]int, begins map[string]bool, bits string) (int, api.Errno, int) {
	for n := 1; n <= len(bits); n++ {
		if d, is := rows[bits[:n]]; is {
			return d, api.OK, n
		}
		if !begins[bits[:n]] {
			return 0, api.ErrCode, 0
		}
	}
	return 0, api.ErrShort, 0
}

func TestExample(t *testing.T) {
	for d, want := range map[int]string{0: "1", -1: "011", 4: "0000110", -32: "0000000000101"} {
		if row, is := mvd.Row(d); row != want || !is {
			t.Errorf("Row(%d) = %q, %v, want %q", d, row, is, want)
		}
		take(t, want, inbits.New(text(t, want)), d, api.OK, len(want))
	}
	if row, is := mvd.Row(32); row != "" || is {
		t.Errorf("Row(32) = %q, %v, want none", row, is)
	}
}

// All differences.
func TestRow(t *testing.T) {
	if len(table()) != 64 || len(amounts()) != 33 {
		t.Fatalf("the test has %d rows of %d amounts", len(table()), len(amounts()))
	}
	for want, d := range table() {
		if row, is := mvd.Row(d); row != want || !is {
			t.Errorf("Row(%d) = %q, %v, want %q", d, row, is, want)
		}
	}
}

// The row of 0 has no digit behind it; each other one and its opposite's are the
// same but for the last digit.
func TestRowOfTheOpposite(t *testing.T) {
	if row, is := mvd.Row(0); row != amounts()[0] || !is {
		t.Errorf("Row(0) = %q, %v", row, is)
	}
	for d := 1; d <= 31; d++ {
		a, is := mvd.Row(d)
		b, also := mvd.Row(-d)
		if !is || !also || a != amounts()[d]+"0" || b != amounts()[d]+"1" {
			t.Errorf("Row(%d) = %q, %v, and of its opposite %q, %v", d, a, is, b, also)
		}
	}
	a, is := mvd.Row(-32)
	b, never := mvd.Row(32)
	if a != amounts()[32]+"1" || !is || b != "" || never {
		t.Errorf("Row(-32) = %q, %v, Row(32) = %q, %v", a, is, b, never)
	}
}

func TestNoRow(t *testing.T) {
	for _, d := range ends() {
		if row, is := mvd.Row(d); row != "" || is {
			t.Errorf("Row(%d) = %q, %v, want none", d, row, is)
		}
	}
	for d := -300; d < 300; d++ {
		row, is := mvd.Row(d)
		if want := d >= -32 && d <= 31; is != want || (row != "") != want {
			t.Errorf("Row(%d) = %q, %v", d, row, is)
		}
	}
}

// P8.3: no row begins another one, or is the same.
func TestNoRowBeginsAnother(t *testing.T) {
	for i := -32; i <= 31; i++ {
		for j := -32; j <= 31; j++ {
			a, _ := mvd.Row(i)
			b, _ := mvd.Row(j)
			if a == "" || strings.Trim(a, "01") != "" || i != j && strings.HasPrefix(a, b) {
				t.Errorf("row %q begins with %q, or is none", a, b)
			}
		}
	}
}

// Each row, from each bit of a byte on, with other bits ahead and behind, or none
// behind; the shortest and the longest ones among them.
func TestTake(t *testing.T) {
	short, long := 99, 0
	for row, d := range table() {
		short, long = min(short, len(row)), max(long, len(row))
		for ahead := range 17 {
			for _, bit := range []string{"0", "1"} {
				for _, behind := range []string{"", "0", "1", "000000000", "111111111", row} {
					r := reader(t, text(t, strings.Repeat(bit, ahead), row, behind), ahead)
					take(t, row, r, d, api.OK, len(row))
				}
			}
		}
		take(t, row+" at the text's end", ending(t, row), d, api.OK, len(row))
	}
	if short != 1 || long != 13 {
		t.Errorf("the rows are from %d to %d digits", short, long)
	}
}

// All bits that a text can end with: the first ones tell which, and whether they
// are too few, or no row.
func TestTakeOfAllBits(t *testing.T) {
	rows, begins := table(), beginnings()
	found := map[api.Errno]int{}
	seen := map[int]bool{}
	for n := range 16 {
		for v := range 1 << n {
			bits, err := outbits.Row(v, n)
			if err != api.OK {
				t.Fatalf("Row(%d, %d): %d", v, n, err)
			}
			want, wrong, far := told(rows, begins, bits)
			found[wrong]++
			if wrong == api.OK {
				seen[want] = true
			}
			take(t, bits, ending(t, bits), want, wrong, far)
		}
	}
	if len(found) != 3 || found[api.OK] == 0 || found[api.ErrShort] == 0 || found[api.ErrCode] == 0 || len(seen) != 64 {
		t.Errorf("the bits tell %v, of %d differences", found, len(seen))
	}
}

// Bits that end within a row are too few, however many rows they begin: the
// amount's digits without the one behind them, too.
func TestBitsThatEndWithinRows(t *testing.T) {
	for row := range table() {
		for n := range row {
			take(t, row[:n], ending(t, row[:n]), 0, api.ErrShort, 0)
		}
	}
	for _, row := range amounts()[1:] {
		take(t, row, ending(t, row), 0, api.ErrShort, 0)
	}
}

// The amount 32 is that of a difference below 0 alone.
func TestNoDifferenceOf32(t *testing.T) {
	row := amounts()[32]
	take(t, row, ending(t, row), 0, api.ErrShort, 0)
	take(t, row+"1", ending(t, row+"1"), -32, api.OK, 13)
	for ahead := range 8 {
		for _, behind := range []string{"", "0", "1", "11111111", "00000000"} {
			s := text(t, strings.Repeat("1", ahead), row, "0", behind)
			take(t, row+"0"+behind, reader(t, s, ahead), 0, api.ErrCode, 0)
		}
	}
	take(t, row+"0", ending(t, row+"0"), 0, api.ErrCode, 0)
}

// The first bit with which no row begins is told as such, be there another one
// behind it or not.
func TestBitsOfNoRow(t *testing.T) {
	noughts := strings.Repeat("0", 11)
	take(t, "as many noughts as may be", ending(t, noughts[1:]), 0, api.ErrShort, 0)
	for more := range 30 {
		bits := noughts + strings.Repeat("0", more)
		take(t, bits, ending(t, bits), 0, api.ErrCode, 0)
	}
	for ahead := range 8 {
		for _, behind := range []string{"", "0", "1", "01", "10", "11", "11111111", "11000011"} {
			r := reader(t, text(t, strings.Repeat("1", ahead), noughts, behind), ahead)
			take(t, noughts+behind, r, 0, api.ErrCode, 0)
			take(t, noughts+behind, ending(t, noughts+behind), 0, api.ErrCode, 0)
		}
	}
}

func TestNoReader(t *testing.T) {
	if d, err := mvd.Take(nil); d != 0 || err != api.ErrArg {
		t.Errorf("Take(nil) = %d, %d, want ErrArg", d, err)
	}
	take(t, "a zero reader", &inbits.Reader{}, 0, api.ErrShort, 0)
	take(t, "an empty text", inbits.New(""), 0, api.ErrShort, 0)
	take(t, "a text's end", reader(t, "\xff", 8), 0, api.ErrShort, 0)
	take(t, "a text's end", reader(t, "\x00\x00", 16), 0, api.ErrShort, 0)
}

// Behind an error the reader reads on where it stood.
func TestReaderBehindErrors(t *testing.T) {
	for _, wrong := range []string{strings.Repeat("0", 11), amounts()[32] + "0"} {
		for ahead := range 9 {
			r := reader(t, text(t, strings.Repeat("1", ahead), wrong, "0001", "1"), ahead)
			for range 4 {
				take(t, wrong, r, 0, api.ErrCode, 0)
			}
			for i, digit := range wrong {
				if bit, err := r.Take(1); bit != int(digit-'0') || err != api.OK {
					t.Fatalf("bit %d behind an error: %d, %d", i, bit, err)
				}
			}
			take(t, "behind it", r, -3, api.OK, 5)
		}
	}
	r := ending(t, "0001")
	take(t, "0001", r, 0, api.ErrShort, 0)
	take(t, "0001", r, 0, api.ErrShort, 0)
	if v, err := r.Take(4); v != 1 || err != api.OK {
		t.Errorf("behind an error 4 bits are %d, %d", v, err)
	}
	take(t, "no bit", r, 0, api.ErrShort, 0)
}

// P8.3: what Row tells is taken again, row behind row, from each bit of a byte
// on.
func TestTakenAgain(t *testing.T) {
	for ahead := range 8 {
		w := outbits.New()
		w.Put(0, ahead)
		for n := range 512 {
			row, is := mvd.Row(n*27%64 - 32)
			if !is || w.Add(row) != api.OK {
				t.Fatalf("row %d is %q", n, row)
			}
		}
		r := reader(t, w.Text(), ahead)
		for n := range 512 {
			d := n*27%64 - 32
			row, _ := mvd.Row(d)
			take(t, row, r, d, api.OK, len(row))
		}
		if r.At() != w.Len() {
			t.Errorf("%d bits were taken of %d", r.At(), w.Len())
		}
	}
}

// All rows two by two.
func TestTakenAgainTwoByTwo(t *testing.T) {
	for n := range 64 * 64 {
		a, b := n%64-32, n/64-32
		first, _ := mvd.Row(a)
		second, _ := mvd.Row(b)
		r := inbits.New(text(t, first, second))
		take(t, first, r, a, api.OK, len(first))
		take(t, second, r, b, api.OK, len(second))
	}
}
