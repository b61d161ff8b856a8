package marks_test

import (
	"fmt"
	"math"
	"strings"
	"testing"

	"overspill/api"
	"overspill/marks"
	"overspill/outbits"
)

// markRow is a mark's bits.
func markRow(number int) string {
	return fmt.Sprintf("%016b1%05b", 0, number)
}

// fill is noughts up to a byte's end behind so many bits.
func fill(bits int) string {
	return strings.Repeat("0", (8-bits%8)%8)
}

// text is the bytes of a right row.
func text(t *testing.T, row string) string {
	t.Helper()
	s, err := outbits.Pack(row)
	if err != api.OK {
		t.Fatalf("Pack(%s): %d", row, err)
	}
	return s
}

// atOf, zerosOf, nextOf and findOf are the calls by their words, of a text's
// row.
func atOf(row string, bit int) (int, api.Errno) {
	if bit < 0 || bit > len(row) {
		return 0, api.ErrArg
	}
	if len(row)-bit < 22 {
		return 0, api.ErrShort
	}
	behind, ok := strings.CutPrefix(row[bit:], "00000000000000001")
	if !ok {
		return 0, api.ErrMark
	}
	number := 0
	for _, digit := range behind[:5] {
		number = 2*number + int(digit-'0')
	}
	return number, api.OK
}

func zerosOf(row string, bit int) int {
	if bit < 0 || bit >= len(row) {
		return 0
	}
	n := strings.IndexByte(row[bit:], '1')
	if n < 0 {
		return len(row) - bit
	}
	return n
}

func nextOf(row string, bit int) (int, bool) {
	if bit < 0 || bit > len(row) {
		return 0, false
	}
	ahead := fill(bit)
	if !strings.HasPrefix(row[bit:], ahead) {
		return 0, false
	}
	number, err := atOf(row, bit+len(ahead))
	return number, err == api.OK
}

func findOf(row string, from int) (int, int, bool) {
	for i := range len(row) / 8 {
		number, err := atOf(row, 8*i)
		if i >= from && err == api.OK && (number == 0 || number == 31) {
			return i, number, true
		}
	}
	return 0, 0, false
}

// wrongBits are numbers of bits that a text of so many bytes has not: just
// outside of it, and at the ends of an int, where a sum or a product wraps.
func wrongBits(bytes int) []int {
	end := 8 * bytes
	return []int{
		-1, -2, -7, -8, -9, -16, -22, -end - 1, math.MinInt, math.MinInt + 1, math.MinInt + 8, math.MinInt32, -1 << 61,
		end + 1, end + 2, end + 7, end + 8, end + 22, 8*end + 99, math.MaxInt32, 1 << 61, 1<<61 + 1, math.MaxInt - 22, math.MaxInt - 7, math.MaxInt - 1, math.MaxInt,
	}
}

// holds asks all calls of all places of a text, and of those outside of it.
func holds(t *testing.T, s string) {
	t.Helper()
	row := outbits.Show(s)
	places := wrongBits(len(s))
	for bit := range len(row) + 1 {
		places = append(places, bit)
	}
	for _, bit := range places {
		want, wrong := atOf(row, bit)
		if got, err := marks.At(s, bit); got != want || err != wrong {
			t.Fatalf("At(% x, %d) = %d, %d, want %d, %d", s, bit, got, err, want, wrong)
		}
		if got, want := marks.Zeros(s, bit), zerosOf(row, bit); got != want {
			t.Fatalf("Zeros(% x, %d) = %d, want %d", s, bit, got, want)
		}
		want, told := nextOf(row, bit)
		if got, ok := marks.Next(s, bit); got != want || ok != told {
			t.Fatalf("Next(% x, %d) = %d, %t, want %d, %t", s, bit, got, ok, want, told)
		}
		place, want, told := findOf(row, bit)
		if i, got, ok := marks.Find(s, bit); i != place || got != want || ok != told {
			t.Fatalf("Find(% x, %d) = %d, %d, %t, want %d, %d, %t", s, bit, i, got, ok, place, want, told)
		}
	}
}

func TestNumbers(t *testing.T) {
	if marks.First != 0 || marks.End != 31 {
		t.Errorf("First %d, End %d, want 0, 31", marks.First, marks.End)
	}
}

func TestExample(t *testing.T) {
	w := outbits.New()
	if err := marks.Put(w, 0); err != api.OK || w.Len() != 22 || w.Text() != "\x00\x00\x80" {
		t.Errorf("Put(0): %d, %d bits, % x", err, w.Len(), w.Text())
	}
	if number, err := marks.At(w.Text(), 0); number != marks.First || err != api.OK {
		t.Errorf("At bit 0 = %d, %d, want First", number, err)
	}
	if number, err := marks.At(w.Text(), 8); number != 0 || err != api.ErrShort {
		t.Errorf("At bit 8 = %d, %d, want ErrShort", number, err)
	}
	if a, b := marks.Zeros(w.Text(), 0), marks.Zeros(w.Text(), 17); a != 16 || b != 7 {
		t.Errorf("Zeros at bits 0 and 17 = %d, %d, want 16, 7", a, b)
	}
}

// P4.1, of the numbers at their ends and an ordinary one, spelt out.
func TestPutOfSomeNumbers(t *testing.T) {
	for _, c := range []struct {
		number int
		row    string
	}{
		{0, "0000000000000000100000"}, {1, "0000000000000000100001"}, {18, "0000000000000000110010"},
		{30, "0000000000000000111110"}, {31, "0000000000000000111111"},
	} {
		for _, ahead := range []string{"", "11111111"} {
			w := outbits.New()
			w.Add(ahead)
			if err := marks.Put(w, c.number); err != api.OK || w.Len() != len(ahead)+22 || w.Text() != text(t, ahead+c.row) {
				t.Errorf("Put(%d) behind %q: %d, %d bits, % x", c.number, ahead, err, w.Len(), w.Text())
			}
		}
		w := outbits.New()
		w.Add("101")
		if err := marks.Put(w, c.number); err != api.OK || w.Len() != 30 || w.Text() != text(t, "10100000"+c.row) {
			t.Errorf("Put(%d) within a byte: %d, %d bits, % x", c.number, err, w.Len(), w.Text())
		}
	}
}

// All numbers, behind ones and behind noughts, at a byte's end and within it:
// just the noughts that are lacking come ahead of the mark, and no bit behind.
func TestPut(t *testing.T) {
	for n := range 25 {
		for _, ahead := range []string{strings.Repeat("1", n), strings.Repeat("0", n)} {
			for number := range 32 {
				w := outbits.New()
				w.Add(ahead)
				row := ahead + fill(n) + markRow(number)
				if err := marks.Put(w, number); err != api.OK {
					t.Fatalf("Put(%d) behind %d bits: %d", number, n, err)
				}
				if w.Len() != len(row) || w.Text() != text(t, row) {
					t.Fatalf("Put(%d) behind %s: %d bits, % x, want %s", number, ahead, w.Len(), w.Text(), row)
				}
			}
		}
	}
}

func TestPutOfOneBehindTheOther(t *testing.T) {
	w, row := outbits.New(), ""
	for step := range 300 {
		number := step * 7 % 32
		if err := marks.Put(w, number); err != api.OK {
			t.Fatalf("Put(%d): %d", number, err)
		}
		row += fill(len(row)) + markRow(number)
		if step%3 == 0 {
			w.Add("1101")
			row += "1101"
		}
		if w.Len() != len(row) || w.Text() != text(t, row) {
			t.Fatalf("Put(%d) behind others: %d bits, want %d", number, w.Len(), len(row))
		}
	}
}

// wrongNumbers have no mark.
func wrongNumbers() []int {
	return []int{
		-1, -2, -5, -31, -32, -33, -64, math.MinInt, math.MinInt + 1, math.MinInt32,
		32, 33, 63, 64, 65, 95, 96, 255, 256, 1 << 22, 1 << 32, 1<<32 + 1, 1 << 62, math.MaxInt32, math.MaxInt - 1, math.MaxInt,
	}
}

// R7: a number that may not be leaves no bit, those up to the byte's end
// neither.
func TestPutOfWrongNumbers(t *testing.T) {
	for n := range 20 {
		row := strings.Repeat("110", n)[:n]
		w := outbits.New()
		w.Add(row)
		for _, number := range wrongNumbers() {
			if err := marks.Put(w, number); err != api.ErrArg {
				t.Errorf("Put(%d): %d, want ErrArg", number, err)
			}
			if w.Len() != n || w.Text() != text(t, row) {
				t.Fatalf("Put(%d) behind %s: %d bits, % x", number, row, w.Len(), w.Text())
			}
		}
		if err := marks.Put(w, 9); err != api.OK || w.Text() != text(t, row+fill(n)+markRow(9)) {
			t.Errorf("Put(9) behind wrong numbers: %d, % x", err, w.Text())
		}
	}
}

func TestPutIntoNilAndZeroWriters(t *testing.T) {
	for _, number := range append(wrongNumbers(), 0, 1, 17, 30, 31) {
		if err := marks.Put(nil, number); err != api.ErrArg {
			t.Errorf("Put(nil, %d): %d, want ErrArg", number, err)
		}
	}
	for number := range 32 {
		var w outbits.Writer
		if err := marks.Put(&w, number); err != api.OK || w.Len() != 22 || w.Text() != text(t, markRow(number)) {
			t.Errorf("Put(%d) into a zero writer: %d, %d bits, % x", number, err, w.Len(), w.Text())
		}
	}
	var w outbits.Writer
	if err := marks.Put(&w, 32); err != api.ErrArg || w.Len() != 0 || w.Text() != "" {
		t.Errorf("Put(32) into a zero writer: %d, %d bits, % x", err, w.Len(), w.Text())
	}
}

// P4.2, spelt out: all that is wrong, and the error named first where two are.
func TestAtOfSomeTexts(t *testing.T) {
	for _, c := range []struct {
		s      string
		bit    int
		number int
		err    api.Errno
	}{
		{"\x00\x00\x80", 0, 0, api.OK}, {"\x00\x00\x84", 0, 1, api.OK}, {"\x00\x00\xf8", 0, 30, api.OK}, {"\x00\x00\xfc", 0, 31, api.OK},
		// the two bits behind a mark are none of it
		{"\x00\x00\x83", 0, 0, api.OK}, {"\x00\x00\xff", 0, 31, api.OK},
		// any bit, and the last place where one has room
		{"\x80\x00\x40", 1, 0, api.OK}, {"\x80\x00\x60", 1, 16, api.OK}, {"\xc0\x00\x3f", 2, 31, api.OK}, {"\xc0\x00\x20", 2, 0, api.OK}, {"\xff\xc0\x00\x3e", 10, 30, api.OK},
		// one bit fewer than that, and still fewer, whatever stands there
		{"\xe0\x00\x1f", 3, 0, api.ErrShort}, {"\xff\xff\xff", 3, 0, api.ErrShort}, {"\x00\x00\x80", 8, 0, api.ErrShort},
		{"\x00\x00\x80", 23, 0, api.ErrShort}, {"\x00\x00\x80", 24, 0, api.ErrShort}, {"\x00\x00", 0, 0, api.ErrShort}, {"", 0, 0, api.ErrShort},
		// fifteen noughts, seventeen, and none
		{"\x00\x01\x00", 0, 0, api.ErrMark}, {"\x00\x01\x40", 1, 0, api.ErrMark}, {"\x80\x00\x80", 2, 0, api.ErrMark}, {"\x00\x00\x40", 0, 0, api.ErrMark},
		{"\x00\x00\x7c", 0, 0, api.ErrMark}, {"\xff\xff\xff", 0, 0, api.ErrMark}, {"\x00\x00\x00\x00", 0, 0, api.ErrMark}, {"\x80\x00\x80", 0, 0, api.ErrMark},
		// no such bit, ahead of there being too few
		{"", 1, 0, api.ErrArg}, {"", -1, 0, api.ErrArg}, {"\x00\x00\x80", -1, 0, api.ErrArg}, {"\x00\x00\x80", 25, 0, api.ErrArg},
		{"\x00\x00\x80", math.MaxInt, 0, api.ErrArg}, {"\x00\x00\x80", math.MinInt, 0, api.ErrArg},
	} {
		if number, err := marks.At(c.s, c.bit); number != c.number || err != c.err {
			t.Errorf("At(% x, %d) = %d, %d, want %d, %d", c.s, c.bit, number, err, c.number, c.err)
		}
	}
}

func TestZerosOfSomeTexts(t *testing.T) {
	for _, c := range []struct {
		s         string
		bit, want int
	}{
		{"\x00\x00\x80", 0, 16}, {"\x00\x00\x80", 1, 15}, {"\x00\x00\x80", 8, 8}, {"\x00\x00\x80", 15, 1}, {"\x00\x00\x80", 16, 0},
		{"\x00\x00\x80", 17, 7}, {"\x00\x00\x80", 23, 1}, {"\x00\x00\x80", 24, 0}, {"\x00\x00\x80", 25, 0}, {"\x00\x00\x80", -1, 0},
		{"\x00\x00\x80", math.MaxInt, 0}, {"\x00\x00\x80", math.MinInt, 0},
		// up to the text's end
		{"\x00", 0, 8}, {"\x00", 3, 5}, {"\x00\x00\x00\x00\x00", 0, 40}, {"\x00\x00\x00\x00\x00", 13, 27}, {"\xf8\x00", 5, 11},
		// ones around
		{"\xff", 0, 0}, {"\xff", 7, 0}, {"\x01", 0, 7}, {"\x11", 0, 3}, {"\x11", 3, 0}, {"\x11", 4, 3}, {"\x80\x01", 0, 0}, {"\x80\x01", 1, 14},
		{"", 0, 0}, {"", 1, 0}, {"", -1, 0},
	} {
		if got := marks.Zeros(c.s, c.bit); got != c.want {
			t.Errorf("Zeros(% x, %d) = %d, want %d", c.s, c.bit, got, c.want)
		}
	}
}

// P4.3, spelt out.
func TestNextOfSomeTexts(t *testing.T) {
	for _, c := range []struct {
		s      string
		bit    int
		number int
		ok     bool
	}{
		// at a byte's end, where no bits are passed
		{"\x00\x00\x80", 0, 0, true}, {"\xff\x00\x00\xfc", 8, 31, true}, {"\x00\x00\x00\x80", 0, 0, false}, {"\x00\x00\x00\x80", 8, 0, true},
		// behind the bits up to a byte's end
		{"\x00\x00\x00\xc4", 1, 17, true}, {"\xa0\x00\x00\xf8", 3, 30, true}, {"\xfe\x00\x00\x84", 7, 1, true}, {"\x80\x00\x00\x80", 1, 0, true},
		// a 1 among these
		{"\xa0\x00\x00\xf8", 2, 0, false}, {"\x01\x00\x00\x80", 1, 0, false}, {"\x01\x00\x00\x80", 7, 0, false}, {"\x20\x00\x00\x80", 1, 0, false},
		// a mark at the bit itself, but not at the byte's begin
		{"\x80\x00\x40\x00\x00", 1, 0, false}, {"\x80\x00\x60\x00\x00\x00", 1, 0, false},
		// no mark behind the bits
		{"\xff\x00\x01\xff\xff", 8, 0, false}, {"\x80\x00\x00\x40", 1, 0, false}, {"\xff\x00\x00\x00", 8, 0, false},
		// too few bits
		{"\x00\x00\x80", 8, 0, false}, {"\x00\x00\x80", 1, 0, false}, {"\x80\x00\x00", 1, 0, false}, {"\x00\x00", 0, 0, false}, {"\x00\x00\x80", 24, 0, false},
		// no such bit
		{"", 0, 0, false}, {"", 1, 0, false}, {"", -1, 0, false}, {"\x00\x00\xfc", -1, 0, false}, {"\x00\x00\xfc", -8, 0, false},
		{"\x00\x00\xfc", 25, 0, false}, {"\x00\x00\xfc", math.MaxInt, 0, false}, {"\x00\x00\xfc", math.MinInt, 0, false},
	} {
		if number, ok := marks.Next(c.s, c.bit); number != c.number || ok != c.ok {
			t.Errorf("Next(% x, %d) = %d, %t, want %d, %t", c.s, c.bit, number, ok, c.number, c.ok)
		}
	}
}

func TestFindOfSomeTexts(t *testing.T) {
	// a sheet at 1, a row at 4, fifteen noughts at 7, the end at 10, a sheet at 14
	s := "\xff\x00\x00\x80\x00\x00\x84\x00\x01\x80\x00\x00\xfc\x00\x00\x00\x81"
	for _, c := range []struct {
		s         string
		from      int
		i, number int
		ok        bool
		what      string
	}{
		{s, 0, 1, 0, true, "the first byte"}, {s, 1, 1, 0, true, "the mark's byte"}, {s, 2, 10, 31, true, "the byte behind it"},
		{s, 4, 10, 31, true, "a row's mark"}, {s, 10, 10, 31, true, "the end"}, {s, 11, 14, 0, true, "behind the end"},
		{s, 14, 14, 0, true, "the last place"}, {s, 15, 0, 0, false, "behind the last place"}, {s, 16, 0, 0, false, "the last byte"},
		{s, 17, 0, 0, false, "behind the last byte"}, {s, 18, 0, 0, false, "still behind it"}, {s, -1, 1, 0, true, "below 0"},
		{s, math.MinInt, 1, 0, true, "the least int"}, {s, math.MaxInt, 0, 0, false, "the greatest int"}, {s, math.MaxInt - 2, 0, 0, false, "near the greatest int"},
		{s, 1 << 61, 0, 0, false, "a place whose bit wraps"},
		{"", 0, 0, 0, false, "an empty text"}, {"", -1, 0, 0, false, "an empty text, below 0"}, {"", math.MaxInt, 0, 0, false, "an empty text, far behind"},
		{"\x00\x00\x80", 0, 0, 0, true, "a mark alone"}, {"\x00\x00\xff", 0, 0, 31, true, "the end alone"}, {"\x00\x00", 0, 0, 0, false, "a mark cut off"},
		{"\x00\x00\x84\x00\x00\xf8", 0, 0, 0, false, "marks of rows alone"}, {"\x00\x00\x00\x00", 0, 0, 0, false, "noughts alone"},
		{"\x00\x00\x40\x00\x80\x00\x40", 0, 0, 0, false, "marks within bytes alone"}, {"\x00\x00\x00\x00\x80", 0, 2, 0, true, "noughts ahead"},
	} {
		if i, number, ok := marks.Find(c.s, c.from); i != c.i || number != c.number || ok != c.ok {
			t.Errorf("%s: Find(% x, %d) = %d, %d, %t, want %d, %d, %t", c.what, c.s, c.from, i, number, ok, c.i, c.number, c.ok)
		}
	}
}

// All marks, at all bits, among ones and among noughts, with and without bits
// behind them.
func TestMarksAtAllBits(t *testing.T) {
	for ahead := range 27 {
		for number := range 32 {
			for _, behind := range []string{"", "1", "0", "01", "10", "11111111", "000000000", strings.Repeat("1", 20)} {
				holds(t, text(t, strings.Repeat("1", ahead)+markRow(number)+behind))
				holds(t, text(t, strings.Repeat("0", ahead)+markRow(number)+behind))
			}
		}
	}
}

// A mark of which one bit of the first seventeen is off is none, and noughts
// and ones alone have none.
func TestMarksThatAreOff(t *testing.T) {
	for _, ahead := range []string{"", "1", "1110", "11111111", "1111111100"} {
		for _, number := range []int{0, 1, 21, 30, 31} {
			for off := range 17 {
				row := []byte(markRow(number))
				row[off] ^= 1
				holds(t, text(t, ahead+string(row)))
				holds(t, text(t, ahead+string(row)+"111111110000000000000000100000"))
				if number, err := marks.At(text(t, ahead+string(row)), len(ahead)); number != 0 || err != api.ErrMark {
					t.Errorf("At of a mark whose bit %d is off = %d, %d, want ErrMark", off, number, err)
				}
			}
		}
	}
	for n := range 9 {
		holds(t, strings.Repeat("\x00", n))
		holds(t, strings.Repeat("\xff", n))
		holds(t, strings.Repeat("\x00", n)+"\x01")
		holds(t, "\x80"+strings.Repeat("\x00", n))
	}
}

// Texts in which marks, pieces of them and noughts come often.
func TestMixedTexts(t *testing.T) {
	bytes := []byte{0, 0, 0, 0, 0, 0, 0x80, 0x80, 0xfc, 0xff, 0x84, 0x40, 0x01, 0x81}
	v := 1
	for range 4000 {
		var s []byte
		v = (v*1103515245 + 12345) & (1<<31 - 1)
		for range v >> 8 % 24 {
			v = (v*1103515245 + 12345) & (1<<31 - 1)
			s = append(s, bytes[v>>8%len(bytes)])
		}
		holds(t, string(s))
	}
}

// Of several marks that are looked for the first one from the place on counts,
// and a row's ahead of it does not.
func TestFindTellsTheFirstOne(t *testing.T) {
	for _, wanted := range []int{marks.First, marks.End} {
		for number := range 32 {
			w := outbits.New()
			marks.Put(w, number)
			marks.Put(w, wanted)
			marks.Put(w, marks.First)
			i, got, ok := marks.Find(w.Text(), 0)
			place, want := 3, wanted
			if number == marks.First || number == marks.End {
				place, want = 0, number
			}
			if i != place || got != want || !ok {
				t.Errorf("Find of %d, %d, 0 = %d, %d, %t, want %d, %d", number, wanted, i, got, ok, place, want)
			}
			if i, got, ok := marks.Find(w.Text(), 4); i != 6 || got != marks.First || !ok {
				t.Errorf("Find behind them = %d, %d, %t, want 6, 0", i, got, ok)
			}
		}
	}
}

// R1: long texts end as well, in a time that grows as they do.
func TestLongTexts(t *testing.T) {
	const bytes = 1 << 22
	noughts := strings.Repeat("\x00", bytes)
	if got := marks.Zeros(noughts, 5); got != 8*bytes-5 {
		t.Errorf("Zeros of noughts alone = %d, want %d", got, 8*bytes-5)
	}
	if i, number, ok := marks.Find(noughts, 0); i != 0 || number != 0 || ok {
		t.Errorf("Find of noughts alone = %d, %d, %t", i, number, ok)
	}
	if i, number, ok := marks.Find(noughts+"\xff", 0); i != bytes-2 || number != marks.End || !ok {
		t.Errorf("Find of noughts, and a mark = %d, %d, %t", i, number, ok)
	}
	rows := strings.Repeat("\x00\x00\x84", bytes/3)
	if i, number, ok := marks.Find(rows+"\x00\x00\x80", 0); i != len(rows) || number != marks.First || !ok {
		t.Errorf("Find behind rows = %d, %d, %t", i, number, ok)
	}
}

// P4.4: a mark that was put is told from where the writer stood, whatever
// stands ahead of it and behind it.
func TestMarksThatWerePut(t *testing.T) {
	for n := range 40 {
		for _, ahead := range []string{strings.Repeat("1", n), strings.Repeat("0", n), strings.Repeat("0110", n)[:n]} {
			for number := range 32 {
				w := outbits.New()
				w.Add(ahead)
				stood := w.Len()
				marks.Put(w, number)
				w.Add(strings.Repeat("1", n%5))
				if got, ok := marks.Next(w.Text(), stood); got != number || !ok {
					t.Fatalf("Next behind %s = %d, %t, want %d", ahead, got, ok, number)
				}
				begin := stood + (8-stood%8)%8
				if got, err := marks.At(w.Text(), begin); got != number || err != api.OK {
					t.Fatalf("At(%d) = %d, %d, want %d", begin, got, err, number)
				}
			}
		}
	}
}
