package prefix_test

import (
	"math"
	"slices"
	"strings"
	"testing"

	"overspill/api"
	"overspill/inbits"
	"overspill/outbits"
	"overspill/prefix"
)

type code = prefix.Code[int]

// coded are codes of these rows; their symbols are 100, 101, and so on.
func coded(rows ...string) []code {
	l := []code{}
	for i, row := range rows {
		l = append(l, code{Row: row, Symbol: 100 + i})
	}
	return l
}

// table is made of these codes.
func table[S comparable](t *testing.T, l ...prefix.Code[S]) *prefix.Table[S] {
	t.Helper()
	made, err := prefix.Make(l...)
	if made == nil || err != api.OK {
		t.Fatalf("Make(%v) = %v, %d", l, made, err)
	}
	return made
}

// reader stands at that bit of s.
func reader(t *testing.T, s string, at int) *inbits.Reader {
	t.Helper()
	r := inbits.New(s)
	if err := r.Seek(at); err != api.OK {
		t.Fatalf("Seek(%d) of % x: %d", at, s, err)
	}
	return r
}

// text is the bits of rows, one behind the other, and 0 bits up to a byte's end.
func text(t *testing.T, rows ...string) string {
	t.Helper()
	w := outbits.New()
	for _, row := range rows {
		if err := w.Add(row); err != api.OK {
			t.Fatalf("Add(%s): %d", row, err)
		}
	}
	w.Fill()
	return w.Text()
}

// take asks for one symbol, where the reader stands, and where it stands then.
func take[S comparable](t *testing.T, what string, made *prefix.Table[S], r *inbits.Reader, want S, wrong api.Errno, at int) {
	t.Helper()
	if s, err := made.Take(r); s != want || err != wrong || r.At() != at {
		t.Fatalf("%s: Take = %v, %d, At %d, want %v, %d, %d", what, s, err, r.At(), want, wrong, at)
	}
}

// refused asks whether no table is made of these codes.
func refused[S comparable](t *testing.T, what string, l ...prefix.Code[S]) {
	t.Helper()
	if made, err := prefix.Make(l...); made != nil || err != api.ErrArg {
		t.Errorf("%s: Make(%v) = %v, %d, want ErrArg", what, l, made, err)
	}
}

func TestExample(t *testing.T) {
	made := table(t, code{"1", 7}, code{"01", 8})
	r := inbits.New(text(t, "01", "1", "00"))
	take(t, "01", made, r, 8, api.OK, 2)
	take(t, "1", made, r, 7, api.OK, 3)
	take(t, "00", made, r, 0, api.ErrCode, 3)
}

func TestRowLenLongest(t *testing.T) {
	made := table(t, code{"00", -1}, code{"1", 0}, code{"0101", math.MaxInt}, code{"011", math.MinInt})
	if made.Len() != 4 || made.Longest() != 4 {
		t.Errorf("Len %d, Longest %d, want 4, 4", made.Len(), made.Longest())
	}
	for s, row := range map[int]string{-1: "00", 0: "1", math.MaxInt: "0101", math.MinInt: "011"} {
		if got, is := made.Row(s); got != row || !is {
			t.Errorf("Row(%d) = %q, %v, want %q", s, got, is, row)
		}
	}
	for _, s := range []int{1, -2, 2, 3, 4, math.MaxInt - 1, math.MinInt + 1} {
		if got, is := made.Row(s); got != "" || is {
			t.Errorf("Row(%d) = %q, %v, want none", s, got, is)
		}
	}
}

// The longest row counts wherever it stands among the codes.
func TestLongestOfEachPlace(t *testing.T) {
	rows := []string{"1", "01", "001", "00001"}
	for range rows {
		rows = append(rows[1:], rows[0])
		made := table(t, coded(rows...)...)
		if made.Longest() != 5 || made.Len() != 4 {
			t.Errorf("%v: Longest %d, Len %d, want 5, 4", rows, made.Longest(), made.Len())
		}
		s := slices.Index(rows, "00001") + 100
		if row, is := made.Row(s); row != "00001" || !is {
			t.Errorf("%v: Row(%d) = %q, %v", rows, s, row, is)
		}
		take(t, "the longest row", made, inbits.New("\x08"), s, api.OK, 5)
	}
}

func TestOneCode(t *testing.T) {
	for _, row := range []string{"0", "1", "01", "1100", strings.Repeat("1", 24), strings.Repeat("0", 24), strings.Repeat("0", 23) + "1"} {
		made := table(t, code{row, 5})
		if made.Len() != 1 || made.Longest() != len(row) {
			t.Errorf("%s: Len %d, Longest %d", row, made.Len(), made.Longest())
		}
		if got, is := made.Row(5); got != row || !is {
			t.Errorf("Row = %q, %v, want %q", got, is, row)
		}
		if got, is := made.Row(0); got != "" || is {
			t.Errorf("Row of another symbol = %q, %v, want none", got, is)
		}
		take(t, row, made, inbits.New(text(t, row)), 5, api.OK, len(row))
		take(t, "no bit", made, inbits.New(""), 0, api.ErrShort, 0)
		for n := range row {
			other := []byte(row)
			other[n] ^= 1
			take(t, "a digit that is off", made, inbits.New(text(t, string(other))), 0, api.ErrCode, 0)
		}
	}
}

// full are 256 rows of 8 digits, with which all bits begin; eleven of them go on
// to 24 digits, so that some bits are no row's.
func full() []string {
	rows := []string{}
	for i := range 256 {
		row, _ := outbits.Row(i, 8)
		if i%25 == 0 {
			row += "0000000000000001"
		}
		rows = append(rows, row)
	}
	return rows
}

func TestManyCodes(t *testing.T) {
	rows := full()
	made := table(t, coded(rows...)...)
	if made.Len() != 256 || made.Longest() != 24 {
		t.Errorf("Len %d, Longest %d, want 256, 24", made.Len(), made.Longest())
	}
	for i, row := range rows {
		if got, is := made.Row(100 + i); got != row || !is {
			t.Errorf("Row(%d) = %q, %v, want %q", 100+i, got, is, row)
		}
		take(t, row, made, inbits.New(text(t, row)), 100+i, api.OK, len(row))
		if len(row) == 24 {
			take(t, "another last digit", made, inbits.New(text(t, row[:23]+"0")), 0, api.ErrCode, 0)
			take(t, "no last digit", made, reader(t, text(t, "0", row[:23]), 1), 0, api.ErrShort, 1)
		}
	}
	refused(t, "257 codes", coded(append(rows, "000000001")...)...)
	for i, row := range rows {
		rows[i] = "1" + row[:8]
	}
	refused(t, "257 codes that differ", coded(append(rows, "0")...)...)
	table(t, coded(append(rows[1:], "0")...)...)
	refused(t, "many codes more", slices.Repeat(coded("1"), 1000)...)
}

func TestNoCodes(t *testing.T) {
	refused[int](t, "none")
	refused(t, "nil", []code(nil)...)
	refused(t, "empty", []code{}...)
	refused(t, "none behind the end", coded("1", "0")[:0]...)
}

// A row that is none is refused at each place among others.
func TestWrongRows(t *testing.T) {
	wrong := []string{
		"", strings.Repeat("1", 25), "01" + strings.Repeat("0", 23), strings.Repeat("0", 26), strings.Repeat("01", 500),
		"2", "/", " ", "01 ", " 01", "0 1", "0a1", "a01", "01a", "010\n", "\x00", "\x01", "0\x001", "-1", "+1", "0b1", "1.", "é", "0é1", "\xff", "1\xff", "１", "0\u0660", "°", "01_0", "0x1",
		strings.Repeat("0", 23) + "x",
	}
	for _, row := range wrong {
		refused(t, "a wrong row alone", coded(row)...)
		for _, l := range [][]string{{row, "11", "101"}, {"11", row, "101"}, {"11", "101", row}} {
			refused(t, "a wrong row", coded(l...)...)
		}
	}
	for _, row := range []string{strings.Repeat("0", 24), "0", "00"} {
		table(t, coded(row, "11", "101")...)
	}
}

func TestRowsThatBeginOthers(t *testing.T) {
	long := strings.Repeat("01", 12)
	for n := 1; n <= len(long); n++ {
		begin := long[:n]
		for _, l := range [][]string{
			{begin, long}, {long, begin}, {begin, "1", long}, {long, "1", begin}, {"1", "00", long, begin}, {begin, long, "00", "1"},
		} {
			refused(t, "a row that begins another one", coded(l...)...)
		}
	}
	refused(t, "behind others", coded("0", "100", "101", "110", "1110", "11110", "1111", "11111")...)
	refused(t, "the same row of several symbols", code{"01", 1}, code{"1", 2}, code{"01", 3})
	refused(t, "the same code", code{"01", 1}, code{"01", 1})
}

func TestSameSymbols(t *testing.T) {
	refused(t, "two", code{"1", 4}, code{"01", 4})
	refused(t, "two of three", code{"1", 4}, code{"01", 5}, code{"00", 4})
	refused(t, "two neighbours", code{"1", 5}, code{"01", 4}, code{"00", 4})
	refused(t, "two noughts", code{"1", 0}, code{"01", 0})
	refused(t, "texts", prefix.Code[string]{"1", "a"}, prefix.Code[string]{"0", strings.ToLower("A")})
	refused(t, "interfaces", prefix.Code[any]{"1", 3}, prefix.Code[any]{"0", 3})
	refused(t, "nil interfaces", prefix.Code[any]{"1", nil}, prefix.Code[any]{"0", nil})
	refused(t, "floats", prefix.Code[float64]{"1", 0}, prefix.Code[float64]{"0", math.Copysign(0, -1)})
	refused(t, "arrays", prefix.Code[[2]int]{"1", [2]int{1, 2}}, prefix.Code[[2]int]{"0", [2]int{1, 2}})
}

// symbols puts codes of the rows 1, 01 and 001 to some type's symbols, and asks
// for a fourth one, that has none.
func symbols[S comparable](t *testing.T, what string, a, b, c, other S) {
	t.Helper()
	var none S
	rows := []string{"1", "01", "001"}
	made := table(t, prefix.Code[S]{rows[0], a}, prefix.Code[S]{rows[1], b}, prefix.Code[S]{rows[2], c})
	r := inbits.New(text(t, "001", "1", "01", "000"))
	take(t, what, made, r, c, api.OK, 3)
	take(t, what, made, r, a, api.OK, 4)
	take(t, what, made, r, b, api.OK, 6)
	take(t, what, made, r, none, api.ErrCode, 6)
	for i, s := range []S{a, b, c} {
		if row, is := made.Row(s); row != rows[i] || !is {
			t.Errorf("%s: Row(%v) = %q, %v, want %q", what, s, row, is, rows[i])
		}
	}
	if row, is := made.Row(other); row != "" || is {
		t.Errorf("%s: Row(%v) = %q, %v, want none", what, other, row, is)
	}
}

type pair struct {
	kind, chroma int
}

type named uint8

func TestSymbolsOfSeveralTypes(t *testing.T) {
	p, q, u, v := new(int), new(int), new(int), new(int)
	symbols(t, "int", 0, -1, math.MaxInt, 1)
	symbols(t, "byte", byte(255), 0, 7, 8)
	symbols(t, "string", "", "\x00", "é", "e")
	symbols(t, "struct", pair{0, 1}, pair{1, 0}, pair{0, 0}, pair{1, 1})
	symbols(t, "array", [2]int{0, 1}, [2]int{1, 0}, [2]int{}, [2]int{1, 1})
	symbols(t, "named", named(3), named(2), named(0), named(1))
	symbols(t, "float", 0.5, 0, math.Inf(1), 0.25)
	symbols(t, "NaN", 0.5, 0, math.Inf(1), math.NaN())
	symbols(t, "pointer", p, q, u, v)
	symbols(t, "nil pointer", nil, q, u, v)
	symbols[any](t, "interface", 1, "1", int8(1), uint8(1))
	symbols[any](t, "nil interface", nil, false, 0, "")
	symbols[error](t, "interface with methods", nil, failure("a"), failure("b"), failure(""))
	two := table(t, prefix.Code[bool]{"0", true}, prefix.Code[bool]{"1", false})
	take(t, "bool", two, inbits.New("\x00"), true, api.OK, 1)
	take(t, "bool", two, inbits.New("\x80"), false, api.OK, 1)
	only := table(t, prefix.Code[struct{}]{"01", struct{}{}})
	take(t, "nothing", only, inbits.New("\x40"), struct{}{}, api.OK, 2)
}

type failure string

func (f failure) Error() string { return string(f) }

// byWords takes a symbol from the bits as the chapter says it, bit by bit.
func byWords(rows []string, bits string) (int, api.Errno, int) {
	for n := 1; n <= len(bits); n++ {
		begins := false
		for i, row := range rows {
			if row == bits[:n] {
				return 100 + i, api.OK, n
			}
			begins = begins || strings.HasPrefix(row, bits[:n])
		}
		if !begins {
			return 0, api.ErrCode, 0
		}
	}
	return 0, api.ErrShort, 0
}

// mayBe asks whether rows may be a table's, as the chapter says it.
func mayBe(rows []string) bool {
	for i, a := range rows {
		for j, b := range rows {
			if i != j && strings.HasPrefix(a, b) {
				return false
			}
		}
	}
	return true
}

// short are all rows of at most three digits.
func short() []string {
	rows := []string{}
	for n := 1; n <= 3; n++ {
		for i := range 1 << n {
			row, _ := outbits.Row(i, n)
			rows = append(rows, row)
		}
	}
	return rows
}

// All lists of three short rows, and all bits of all texts of one byte.
func TestAllShortRows(t *testing.T) {
	many := 0
	for _, a := range short() {
		for _, b := range short() {
			for _, c := range short() {
				rows := []string{a, b, c}
				if !mayBe(rows) {
					refused(t, "short rows", coded(rows...)...)
					continue
				}
				many++
				allBits(t, rows)
			}
		}
	}
	if many == 0 {
		t.Error("no short rows may be")
	}
}

// allBits holds Take against its words where the text ends behind each bit of a
// byte: a reader that stands at bit n has 8 - n bits left.
func allBits(t *testing.T, rows []string) {
	t.Helper()
	made := table(t, coded(rows...)...)
	for at := 4; at <= 8; at++ {
		for b := range 1 << (8 - at) {
			s := string([]byte{byte(b | 0xff<<(8-at))})
			want, wrong, n := byWords(rows, outbits.Show(s)[at:])
			take(t, strings.Join(rows, " "), made, reader(t, s, at), want, wrong, at+n)
		}
	}
}

// Longer rows, at all bits of longer texts.
func TestTakeAtAllBits(t *testing.T) {
	sets := [][]string{
		{"1", "01", "001", "0001"},
		{"0000", "0001", "0010", "01", "11", "101", "1001"},
		{"000000000000000000000001", "1"},
		{"111111111111111111111111", "0"},
		{"11111111111", "10", "0101010101", "00000000"},
		full(),
	}
	texts := []string{
		"", "\x00", "\xff", "\x01", "\x80", "\x00\x00\x00\x00", "\xff\xff\xff\xff", "\xaa\x55\xaa\x55", "\x12\x34\x56\x78\x9a\xbc\xde\xf0",
		"\x00\x00\x01", "\x00\x00\x02", "\x00\x00\x00\x01", "\xff\xff\xfe", "\xff\xff\xff\x7f", "\x0f\x00\xff\x1e",
	}
	for _, rows := range sets {
		made := table(t, coded(rows...)...)
		for _, s := range texts {
			bits := outbits.Show(s)
			for at := range len(bits) + 1 {
				want, wrong, n := byWords(rows, bits[at:])
				r := reader(t, s, at)
				take(t, s, made, r, want, wrong, at+n)
				if r.Text() != s || r.Left() != len(bits)-at-n {
					t.Fatalf("Text % x, Left %d", r.Text(), r.Left())
				}
			}
		}
	}
}

func TestTakeAtTheEnd(t *testing.T) {
	made := table(t, coded("01101", "1", "00")...)
	take(t, "a row at the end", made, reader(t, "\xed", 3), 100, api.OK, 8)
	take(t, "bits that end within a row", made, reader(t, "\xf6", 4), 0, api.ErrShort, 4)
	take(t, "one digit short", made, reader(t, text(t, "0000", "0110"), 4), 0, api.ErrShort, 4)
	take(t, "one digit", made, reader(t, "\x00", 7), 0, api.ErrShort, 7)
	take(t, "no digit", made, reader(t, "\xff", 8), 0, api.ErrShort, 8)
	take(t, "no row begins with 010", made, reader(t, "\x02", 5), 0, api.ErrCode, 5)
	take(t, "no row begins with 0111", made, reader(t, "\x07", 4), 0, api.ErrCode, 4)
}

// A reader stays behind an error, and takes on by another table.
func TestTakeBehindAnError(t *testing.T) {
	first, second := table(t, coded("1", "01")...), table(t, coded("000", "001", "1")...)
	r := reader(t, text(t, "11111", "001", "01"), 5)
	for range 3 {
		take(t, "no row", first, r, 0, api.ErrCode, 5)
	}
	take(t, "another table's row", second, r, 101, api.OK, 8)
	take(t, "the next row", first, r, 101, api.OK, 10)
	if v, err := r.Take(6); v != 0 || err != api.OK {
		t.Errorf("Take(6) = %d, %d", v, err)
	}
	for range 3 {
		take(t, "no bit", first, r, 0, api.ErrShort, 16)
	}
}

func TestNilReader(t *testing.T) {
	made := table(t, coded("1", "01")...)
	if s, err := made.Take(nil); s != 0 || err != api.ErrArg {
		t.Errorf("Take(nil) = %d, %d, want ErrArg", s, err)
	}
	take(t, "a zero reader", made, &inbits.Reader{}, 0, api.ErrShort, 0)
}

func TestNilTable(t *testing.T) {
	var made *prefix.Table[string]
	r := reader(t, "\xff", 3)
	take(t, "a nil table", made, r, "", api.ErrArg, 3)
	take(t, "a nil table, and no bit", made, inbits.New(""), "", api.ErrArg, 0)
	if s, err := made.Take(nil); s != "" || err != api.ErrArg {
		t.Errorf("Take(nil) = %q, %d, want ErrArg", s, err)
	}
	if row, is := made.Row(""); row != "" || is || made.Len() != 0 || made.Longest() != 0 {
		t.Errorf("Row = %q, %v, Len %d, Longest %d, want none", row, is, made.Len(), made.Longest())
	}
}

func TestZeroTable(t *testing.T) {
	for _, made := range []*prefix.Table[string]{{}, new(prefix.Table[string])} {
		for at := range 8 {
			take(t, "a zero table", made, reader(t, "\xa5", at), "", api.ErrCode, at)
		}
		take(t, "a zero table, and no bit", made, reader(t, "\xa5", 8), "", api.ErrShort, 8)
		take(t, "a zero table, and no text", made, inbits.New(""), "", api.ErrShort, 0)
		if s, err := made.Take(nil); s != "" || err != api.ErrArg {
			t.Errorf("Take(nil) = %q, %d, want ErrArg", s, err)
		}
		if row, is := made.Row(""); row != "" || is || made.Len() != 0 || made.Longest() != 0 {
			t.Errorf("Row = %q, %v, Len %d, Longest %d, want none", row, is, made.Len(), made.Longest())
		}
	}
}

// The list is not changed, nor the room behind its end, and not kept.
func TestMemory(t *testing.T) {
	l := coded("1", "011", "00", "010", "1111")
	before := slices.Clone(l)
	made := table(t, l[:4]...)
	refused(t, "all five", l...)
	if !slices.Equal(l, before) {
		t.Errorf("the list is %v, was %v", l, before)
	}
	for i := range l {
		l[i] = code{"1", 7}
	}
	r := inbits.New(text(t, "010", "00", "011", "1"))
	for i, at := range []int{3, 5, 8, 9} {
		take(t, "a list that was changed", made, r, 103-i, api.OK, at)
	}
	for _, c := range before[:4] {
		if row, is := made.Row(c.Symbol); row != c.Row || !is {
			t.Errorf("Row(%d) = %q, %v, want %q", c.Symbol, row, is, c.Row)
		}
	}
	if _, is := made.Row(7); is || made.Len() != 4 || made.Longest() != 3 {
		t.Errorf("Row(7) %v, Len %d, Longest %d", is, made.Len(), made.Longest())
	}
}

// What was taken, and what went wrong, leaves no trace in the table; nor does
// another table of other codes.
func TestTablesStay(t *testing.T) {
	made := table(t, coded("1", "01", "001")...)
	other := table(t, coded("001", "01", "1")...)
	for range 3 {
		take(t, "an error", made, inbits.New("\x00"), 0, api.ErrCode, 0)
		take(t, "1", made, inbits.New("\x80"), 100, api.OK, 1)
		take(t, "1 of the other one", other, inbits.New("\x80"), 102, api.OK, 1)
		take(t, "001", made, inbits.New("\x20"), 102, api.OK, 3)
		take(t, "001 of the other one", other, inbits.New("\x20"), 100, api.OK, 3)
		if made.Len() != 3 || made.Longest() != 3 {
			t.Errorf("Len %d, Longest %d, want 3, 3", made.Len(), made.Longest())
		}
	}
}

// The order of the codes tells nothing.
func TestOrder(t *testing.T) {
	rows := []string{"11", "000", "011", "0010", "010", "10"}
	for i := range rows {
		for j := range rows {
			l := coded(rows...)
			l[i], l[j] = l[j], l[i]
			made := table(t, l...)
			for k, row := range rows {
				take(t, row, made, inbits.New(text(t, row)), 100+k, api.OK, len(row))
				if got, is := made.Row(100 + k); got != row || !is {
					t.Errorf("Row(%d) = %q, %v, want %q", 100+k, got, is, row)
				}
			}
		}
	}
}

// P5.3: symbols whose rows were written one behind the other are taken again,
// from each bit of a byte on.
func TestTakenAgain(t *testing.T) {
	rows := full()
	made := table(t, coded(rows...)...)
	for ahead := range 8 {
		w := outbits.New()
		w.Put(0, ahead)
		for k := range 600 {
			row, is := made.Row(100 + k*37%256)
			if !is {
				t.Fatalf("Row(%d): none", 100+k*37%256)
			}
			w.Add(row)
		}
		r := reader(t, w.Text(), ahead)
		at := ahead
		for k := range 600 {
			at += len(rows[k*37%256])
			take(t, "taken again", made, r, 100+k*37%256, api.OK, at)
		}
		if at != w.Len() {
			t.Fatalf("%d bits were taken of %d", at, w.Len())
		}
	}
}
