package outbits_test

import (
	"fmt"
	"math"
	"strings"
	"testing"

	"overspill/api"
	"overspill/outbits"
)

// wrongRows have another byte than the digits 0 and 1: at the front, in the
// middle and at the end of digits, and alone.
func wrongRows() []string {
	var l []string
	for b := range 256 {
		if b == '0' || b == '1' {
			continue
		}
		s := string([]byte{byte(b)})
		l = append(l, s, s+"0101", "01"+s+"01", "0101"+s, "01010101"+s)
	}
	for _, s := range []string{
		"２", "０", "１", "٠", "١", "é", "\u0130", "\u0131", "\ufffd", "\U0001d7ce", "\U0001d7cf",
		"\xc0\xb0", "\xc0\xb1", "\xe0\x80\xb0", "\xed\xa0\x80", "\xf4\x90\x80\x80",
	} {
		l = append(l, s, s+"1", "1"+s, "10"+s+"01")
	}
	return l
}

// rightRows are empty, end at a byte's end, and do not.
func rightRows() []string {
	l := []string{""}
	for n := 1; n <= 25; n++ {
		l = append(l, strings.Repeat("1", n), strings.Repeat("0", n), strings.Repeat("110", n)[:n], strings.Repeat("0", n-1)+"1")
	}
	for _, n := range []int{255, 256, 257, 2047, 2048, 2049, 4095, 4096, 4097, 5000} {
		l = append(l, strings.Repeat("1101001", n)[:n])
	}
	return l
}

// pack is Pack of a right row by its words: eight digits a byte.
func pack(row string) string {
	var text []byte
	for len(row)%8 != 0 {
		row += "0"
	}
	for ; row != ""; row = row[8:] {
		sum := 0
		for _, digit := range []byte(row[:8]) {
			sum = 2*sum + int(digit-'0')
		}
		text = append(text, byte(sum))
	}
	return string(text)
}

// holds asks whether w has the bits of row, and just these.
func holds(t *testing.T, what string, w *outbits.Writer, row string) {
	t.Helper()
	if got := w.Len(); got != len(row) {
		t.Fatalf("%s: Len %d, want %d", what, got, len(row))
	}
	if got, want := w.Text(), pack(row); got != want {
		t.Fatalf("%s: Text % x, want % x", what, got, want)
	}
}

func TestRow(t *testing.T) {
	for _, c := range []struct {
		v, n int
		want string
	}{
		{5, 4, "0101"}, {5, 3, "101"}, {0, 0, ""}, {0, 1, "0"}, {1, 1, "1"}, {0, 5, "00000"}, {1, 8, "00000001"}, {128, 8, "10000000"},
		{32, 22, "0000000000000000100000"}, {0, 32, strings.Repeat("0", 32)}, {1, 32, strings.Repeat("0", 31) + "1"},
		{1 << 31, 32, "1" + strings.Repeat("0", 31)}, {1<<32 - 1, 32, strings.Repeat("1", 32)}, {1<<31 - 1, 31, strings.Repeat("1", 31)},
	} {
		if got, err := outbits.Row(c.v, c.n); got != c.want || err != api.OK {
			t.Errorf("Row(%d, %d) = %q, %d, want %q", c.v, c.n, got, err, c.want)
		}
	}
}

func TestRowOfAllWidths(t *testing.T) {
	for n := 1; n <= 32; n++ {
		for _, v := range []int{0, 1, 1<<n - 1, 1<<n - 2, 1 << (n - 1), 0x5555555555 & (1<<n - 1), 0x123456789a & (1<<n - 1)} {
			want := fmt.Sprintf("%0*b", n, v)
			if got, err := outbits.Row(v, n); got != want || err != api.OK {
				t.Errorf("Row(%d, %d) = %q, %d, want %q", v, n, got, err, want)
			}
		}
	}
}

// wrongNumbers are a v and an n that have no row.
func wrongNumbers() [][2]int {
	l := [][2]int{{4, 2}, {1, 0}, {-1, 0}, {1 << 32, 32}, {math.MaxInt, 32}, {math.MinInt, 32}, {math.MinInt, 0}, {math.MaxInt, 0}}
	for n := 0; n <= 32; n++ {
		l = append(l, [2]int{1 << n, n}, [2]int{1<<n + 1, n}, [2]int{-1, n}, [2]int{-1 << n, n}, [2]int{1 << 62, n}, [2]int{math.MaxInt, n}, [2]int{math.MinInt, n})
	}
	for _, n := range []int{-1, -2, -32, -64, math.MinInt, math.MinInt + 1, 33, 34, 63, 64, 65, 1 << 32, math.MaxInt} {
		l = append(l, [2]int{0, n}, [2]int{1, n}, [2]int{-1, n}, [2]int{math.MaxInt, n}, [2]int{math.MinInt, n})
	}
	return l
}

func TestRowOfWrongNumbers(t *testing.T) {
	for _, c := range wrongNumbers() {
		if got, err := outbits.Row(c[0], c[1]); got != "" || err != api.ErrArg {
			t.Errorf("Row(%d, %d) = %q, %d, want ErrArg", c[0], c[1], got, err)
		}
	}
}

func TestShow(t *testing.T) {
	for _, c := range [][2]string{
		{"", ""}, {"\x05", "00000101"}, {"\x00", "00000000"}, {"\xff", "11111111"}, {"\x80", "10000000"}, {"\x01", "00000001"},
		{"\xa0\x05", "1010000000000101"}, {"\x00\x00\x80", "000000000000000010000000"}, {"é", "1100001110101001"}, {"01", "0011000000110001"},
	} {
		if got := outbits.Show(c[0]); got != c[1] {
			t.Errorf("Show(%q) = %s, want %s", c[0], got, c[1])
		}
	}
}

func TestShowOfAllBytes(t *testing.T) {
	text, want := "", ""
	for b := range 256 {
		text += string([]byte{byte(b)})
		want += fmt.Sprintf("%08b", b)
	}
	for n := range len(text) + 1 {
		if got := outbits.Show(text[:n]); got != want[:8*n] {
			t.Fatalf("Show of the first %d bytes = %s, want %s", n, got, want[:8*n])
		}
	}
}

func TestPack(t *testing.T) {
	for _, c := range [][2]string{
		{"", ""}, {"101", "\xa0"}, {"1", "\x80"}, {"0", "\x00"}, {"0000000", "\x00"}, {"1111111", "\xfe"}, {"11111111", "\xff"},
		{"00000101", "\x05"}, {"000001011", "\x05\x80"}, {"0000000000000000100000", "\x00\x00\x80"}, {"1010000000000101", "\xa0\x05"},
	} {
		if got, err := outbits.Pack(c[0]); got != c[1] || err != api.OK {
			t.Errorf("Pack(%s) = % x, %d, want % x", c[0], got, err, c[1])
		}
	}
	for _, row := range rightRows() {
		if got, err := outbits.Pack(row); got != pack(row) || err != api.OK {
			t.Errorf("Pack(%s) = % x, %d, want % x", row, got, err, pack(row))
		}
	}
}

func TestPackOfWrongRows(t *testing.T) {
	for _, row := range wrongRows() {
		if got, err := outbits.Pack(row); got != "" || err != api.ErrArg {
			t.Errorf("Pack(%q) = % x, %d, want ErrArg", row, got, err)
		}
	}
	long := strings.Repeat("10", 5000) + "2"
	if got, err := outbits.Pack(long); got != "" || err != api.ErrArg {
		t.Errorf("Pack of a long wrong row = %d bytes, %d, want ErrArg", len(got), err)
	}
}

func TestNew(t *testing.T) {
	a, b := outbits.New(), outbits.New()
	holds(t, "New", a, "")
	a.Put(1, 1)
	holds(t, "another writer", b, "")
}

func TestPut(t *testing.T) {
	w := outbits.New()
	row := ""
	for _, c := range []struct {
		v, n int
		row  string
	}{
		{5, 3, "101"}, {0, 0, ""}, {0, 5, "00000"}, {0, 0, ""}, {1, 1, "1"}, {1<<32 - 1, 32, strings.Repeat("1", 32)},
		{0, 32, strings.Repeat("0", 32)}, {2, 7, "0000010"}, {255, 8, "11111111"},
	} {
		if err := w.Put(c.v, c.n); err != api.OK {
			t.Errorf("Put(%d, %d): %d", c.v, c.n, err)
		}
		row += c.row
		holds(t, fmt.Sprintf("Put(%d, %d)", c.v, c.n), w, row)
	}
}

func TestPutOfWrongNumbers(t *testing.T) {
	for _, row := range []string{"", "1", "1010110", "10101101", "101011011"} {
		w := outbits.New()
		w.Add(row)
		for _, c := range wrongNumbers() {
			if err := w.Put(c[0], c[1]); err != api.ErrArg {
				t.Errorf("Put(%d, %d): %d, want ErrArg", c[0], c[1], err)
			}
			holds(t, fmt.Sprintf("Put(%d, %d)", c[0], c[1]), w, row)
		}
	}
}

func TestAdd(t *testing.T) {
	w := outbits.New()
	all := ""
	for _, row := range rightRows() {
		alone := outbits.New()
		if err := alone.Add(row); err != api.OK {
			t.Errorf("Add(%s): %d", row, err)
		}
		holds(t, "Add of one row", alone, row)
		if err := w.Add(row); err != api.OK {
			t.Errorf("Add(%s): %d", row, err)
		}
		all += row
		holds(t, "Add of one row behind others", w, all)
	}
}

func TestAddOfWrongRows(t *testing.T) {
	for _, row := range []string{"", "1", "1010110", "10101101", "101011011"} {
		w := outbits.New()
		w.Add(row)
		for _, wrong := range wrongRows() {
			if err := w.Add(wrong); err != api.ErrArg {
				t.Errorf("Add(%q): %d, want ErrArg", wrong, err)
			}
			holds(t, fmt.Sprintf("Add(%q)", wrong), w, row)
		}
		w.Add("11")
		holds(t, "Add behind wrong rows", w, row+"11")
	}
}

func TestFill(t *testing.T) {
	for n := range 40 {
		row := strings.Repeat("1", n)
		w := outbits.New()
		w.Add(row)
		want := (8 - n%8) % 8
		if got := w.Fill(); got != want {
			t.Errorf("Fill behind %d bits = %d, want %d", n, got, want)
		}
		row += strings.Repeat("0", want)
		holds(t, "Fill", w, row)
		if got := w.Fill(); got != 0 {
			t.Errorf("Fill at a byte's end = %d, want 0", got)
		}
		holds(t, "Fill at a byte's end", w, row)
		w.Add("1")
		holds(t, "Add behind Fill", w, row+"1")
	}
}

// Every byte is filled up, so that Fill stands at all places of a long text.
func TestFillOfLongTexts(t *testing.T) {
	w := outbits.New()
	row := ""
	for n := range 1100 {
		w.Put(1, 1+n%8)
		row += strings.Repeat("0", n%8) + "1"
		filled := w.Fill()
		if filled != 7-n%8 {
			t.Fatalf("Fill behind %d bits = %d, want %d", len(row), filled, 7-n%8)
		}
		row += strings.Repeat("0", filled)
		holds(t, "Put and Fill", w, row)
	}
}

func TestZeroWriter(t *testing.T) {
	var w outbits.Writer
	holds(t, "a zero writer", &w, "")
	if got := w.Fill(); got != 0 {
		t.Errorf("Fill of a zero writer = %d", got)
	}
	holds(t, "Fill", &w, "")
	if err := w.Put(4, 2); err != api.ErrArg {
		t.Errorf("Put(4, 2) into a zero writer: %d", err)
	}
	if err := w.Add("12"); err != api.ErrArg {
		t.Errorf("Add(12) to a zero writer: %d", err)
	}
	holds(t, "errors", &w, "")
	if err := w.Put(5, 3); err != api.OK {
		t.Errorf("Put(5, 3) into a zero writer: %d", err)
	}
	if err := w.Add("11"); err != api.OK {
		t.Errorf("Add(11) to a zero writer: %d", err)
	}
	if got := w.Fill(); got != 3 {
		t.Errorf("Fill = %d, want 3", got)
	}
	holds(t, "Put, Add and Fill", &w, "10111000")
}

func TestNilWriter(t *testing.T) {
	var w *outbits.Writer
	for _, c := range append(wrongNumbers(), [2]int{0, 0}, [2]int{5, 3}, [2]int{1<<32 - 1, 32}) {
		if err := w.Put(c[0], c[1]); err != api.ErrArg {
			t.Errorf("Put(%d, %d) into nil: %d, want ErrArg", c[0], c[1], err)
		}
	}
	for _, row := range append(wrongRows(), rightRows()...) {
		if err := w.Add(row); err != api.ErrArg {
			t.Errorf("Add(%q) to nil: %d, want ErrArg", row, err)
		}
	}
	if fill, length, text := w.Fill(), w.Len(), w.Text(); fill != 0 || length != 0 || text != "" {
		t.Errorf("Fill, Len and Text of nil: %d, %d, %q", fill, length, text)
	}
}

// R3: a text that was told stays as it is, and asking changes nothing.
func TestTextIsNotWrittenToAgain(t *testing.T) {
	w := outbits.New()
	w.Add("101")
	before := w.Text()
	w.Add("11111" + strings.Repeat("1", 9000))
	if before != "\xa0" {
		t.Errorf("a text that was told became % x", before)
	}
	if a, b := w.Text(), w.Text(); a != b || w.Len() != 9008 {
		t.Errorf("Text twice: %d bytes, %d bytes, Len %d", len(a), len(b), w.Len())
	}
}

// R4: what is done with a copy of a writer, or with the writer it was copied
// of, is not to be seen in the other one, whatever its length.
func TestCopiesGoTheirOwnWays(t *testing.T) {
	for n := range 2100 {
		row := strings.Repeat("10110", n)[:n]
		w := outbits.New()
		w.Add(row)
		early := *w
		w.Add("0110100110010110")
		early.Add("1")
		late := *w
		*w = early
		w.Add(strings.Repeat("1", 20))
		holds(t, "the copy", &early, row+"1")
		holds(t, "a later copy", &late, row+"0110100110010110")
		holds(t, "the writer", w, row+"1"+strings.Repeat("1", 20))
	}
}

// P2.3: what was written is Pack of all rows, one behind the other, by
// whichever call each of them came.
func TestWhatWasWrittenIsPackOfAllRows(t *testing.T) {
	w := outbits.New()
	all := ""
	v := 1
	for step := range 3000 {
		v = (v*1103515245 + 12345) & (1<<31 - 1)
		n := v >> 8 % 33
		row, err := outbits.Row(v>>4&(1<<n-1), n)
		if err != api.OK {
			t.Fatalf("Row(%d, %d): %d", v>>4&(1<<n-1), n, err)
		}
		switch step % 3 {
		case 0:
			w.Put(v>>4&(1<<n-1), n)
		case 1:
			w.Add(row)
		default:
			row = strings.Repeat("0", w.Fill())
		}
		all += row
	}
	want, err := outbits.Pack(all)
	if got := w.Text(); got != want || err != api.OK {
		t.Errorf("Text: %d bytes, want Pack of all rows, %d bytes, %d", len(got), len(want), err)
	}
	holds(t, "all rows", w, all)
}

// P2.3: Show of Pack of a row is the row, and fewer than eight noughts.
func TestShowOfPack(t *testing.T) {
	for _, row := range rightRows() {
		text, err := outbits.Pack(row)
		behind, ok := strings.CutPrefix(outbits.Show(text), row)
		if err != api.OK || !ok || len(behind) > 7 || strings.Trim(behind, "0") != "" {
			t.Errorf("Show of Pack of %s: %s, %d", row, outbits.Show(text), err)
		}
	}
}

func TestPackOfShow(t *testing.T) {
	for b := range 1 << 16 {
		text := string([]byte{byte(b >> 8), byte(b)})
		if got, err := outbits.Pack(outbits.Show(text)); got != text || err != api.OK {
			t.Fatalf("Pack of Show of % x = % x, %d", text, got, err)
		}
	}
}
