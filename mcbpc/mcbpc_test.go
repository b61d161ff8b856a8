package mcbpc_test

import (
	"math"
	"strings"
	"testing"

	"overspill/api"
	"overspill/inbits"
	"overspill/mcbpc"
	"overspill/outbits"
)

// symbol is what a row tells.
type symbol struct {
	kind, chroma int
}

// tables are the chapter's: a row's symbol, in a sheet that is inter, or is not.
func tables() map[bool]map[string]symbol {
	return map[bool]map[string]symbol{
		false: {
			"1": {api.Intra, 0}, "001": {api.Intra, 1}, "010": {api.Intra, 2}, "011": {api.Intra, 3},
			"0001": {api.IntraQ, 0}, "000001": {api.IntraQ, 1}, "000010": {api.IntraQ, 2}, "000011": {api.IntraQ, 3},
			"000000001": {mcbpc.Stuff, 0},
		},
		true: {
			"1": {api.Inter, 0}, "0011": {api.Inter, 1}, "0010": {api.Inter, 2}, "000101": {api.Inter, 3},
			"011": {api.InterQ, 0}, "0000111": {api.InterQ, 1}, "0000110": {api.InterQ, 2}, "000000101": {api.InterQ, 3},
			"010": {api.Four, 0}, "0000101": {api.Four, 1}, "0000100": {api.Four, 2}, "00000101": {api.Four, 3},
			"00011": {api.Intra, 0}, "00000100": {api.Intra, 1}, "00000011": {api.Intra, 2}, "0000011": {api.Intra, 3},
			"000100": {api.IntraQ, 0}, "000000100": {api.IntraQ, 1}, "000000011": {api.IntraQ, 2}, "000000010": {api.IntraQ, 3},
			"000000001": {mcbpc.Stuff, 0},
		},
	}
}

// ends are numbers below and above all kinds and all chromas.
func ends() []int {
	return []int{
		-1, -2, -3, -4, -5, -6, -64, -256, math.MinInt32, math.MinInt + 1, math.MinInt,
		6, 7, 8, 9, 10, 24, 64, 256, 1 << 32, 1<<32 + 3, math.MaxInt32, math.MaxInt - 1, math.MaxInt,
	}
}

// text is the bits of rows, one behind the other, and 0 bits up to a byte's end.
func text(t *testing.T, rows ...string) string {
	t.Helper()
	s, err := outbits.Pack(strings.Join(rows, ""))
	if err != api.OK {
		t.Fatalf("Pack(%v): %d", rows, err)
	}
	return s
}

// reader stands at that bit of s.
func reader(t *testing.T, s string, at int) *inbits.Reader {
	t.Helper()
	r := inbits.New(s)
	if err := r.Seek(at); err != api.OK {
		t.Fatalf("Seek(%d) of % x: %d", at, s, err)
	}
	return r
}

// ending stands ahead of these bits, which are the last ones of its text; 1 bits
// stand ahead of them.
func ending(t *testing.T, bits string) *inbits.Reader {
	t.Helper()
	ahead := 8 + (8-len(bits)%8)%8
	return reader(t, text(t, strings.Repeat("1", ahead), bits), ahead)
}

// take asks for one symbol, and how far the reader goes; it reads on in the same
// text then.
func take(t *testing.T, what string, r *inbits.Reader, inter bool, want symbol, wrong api.Errno, far int) {
	t.Helper()
	s, at := r.Text(), r.At()
	kind, chroma, err := mcbpc.Take(r, inter)
	if kind != want.kind || chroma != want.chroma || err != wrong {
		t.Fatalf("%s: Take(%v) = %d, %d, %d, want %d, %d, %d", what, inter, kind, chroma, err, want.kind, want.chroma, wrong)
	}
	if r.Text() != s || r.At() != at+far || r.Left() != 8*len(s)-at-far {
		t.Fatalf("%s: Take(%v) went from %d to %d, with %d bits left, want %d", what, inter, at, r.At(), r.Left(), at+far)
	}
}

// told is what stands at the beginning of bits, by the chapter's words: bit by
// bit, and how far a reader goes.
func told(table map[string]symbol, bits string) (symbol, api.Errno, int) {
	for n := 1; n <= len(bits); n++ {
		if s, is := table[bits[:n]]; is && s.kind == api.Four {
			return symbol{}, api.ErrMode, 0
		} else if is {
			return s, api.OK, n
		}
		begins := false
		for row := range table {
			begins = begins || strings.HasPrefix(row, bits[:n])
		}
		if !begins {
			return symbol{}, api.ErrCode, 0
		}
	}
	return symbol{}, api.ErrShort, 0
}

func TestStuff(t *testing.T) {
	for _, kind := range []int{api.Inter, api.InterQ, api.Four, api.Intra, api.IntraQ} {
		if kind == mcbpc.Stuff {
			t.Errorf("Stuff is kind %d of cells", kind)
		}
	}
	if mcbpc.Stuff != 5 {
		t.Errorf("Stuff is %d, want 5", mcbpc.Stuff)
	}
}

func TestExample(t *testing.T) {
	if row, is := mcbpc.Row(true, api.IntraQ, 3); row != "000000010" || !is {
		t.Errorf("Row(true, IntraQ, 3) = %q, %v", row, is)
	}
	if row, is := mcbpc.Row(false, api.Inter, 0); row != "" || is {
		t.Errorf("Row(false, Inter, 0) = %q, %v, want none", row, is)
	}
	r := inbits.New("\x40")
	take(t, "010", r, true, symbol{}, api.ErrMode, 0)
	take(t, "010", r, false, symbol{api.Intra, 2}, api.OK, 3)
}

// All kinds and chromas, those that there are not too.
func TestRow(t *testing.T) {
	for inter, table := range tables() {
		rows := map[symbol]string{}
		for row, s := range table {
			rows[s] = row
		}
		for kind := -3; kind < 10; kind++ {
			for chroma := -3; chroma < 8; chroma++ {
				want, has := rows[symbol{kind, chroma}]
				if row, is := mcbpc.Row(inter, kind, chroma); row != want || is != has {
					t.Errorf("Row(%v, %d, %d) = %q, %v, want %q, %v", inter, kind, chroma, row, is, want, has)
				}
			}
		}
	}
}

func TestHowManyRows(t *testing.T) {
	for inter, want := range map[bool]int{false: 9, true: 21} {
		n := 0
		for kind := -8; kind < 64; kind++ {
			for chroma := -8; chroma < 64; chroma++ {
				if _, is := mcbpc.Row(inter, kind, chroma); is {
					n++
				}
			}
		}
		if n != want || len(tables()[inter]) != want {
			t.Errorf("%d rows of inter %v, and %d of the test's, want %d", n, inter, len(tables()[inter]), want)
		}
	}
}

// noRow asks whether there is none.
func noRow(t *testing.T, inter bool, kind, chroma int) {
	t.Helper()
	if row, is := mcbpc.Row(inter, kind, chroma); row != "" || is {
		t.Errorf("Row(%v, %d, %d) = %q, %v, want none", inter, kind, chroma, row, is)
	}
}

func TestNoRow(t *testing.T) {
	for chroma := range 4 {
		for _, kind := range []int{api.Inter, api.InterQ, api.Four} {
			noRow(t, false, kind, chroma)
		}
		for _, inter := range []bool{false, true} {
			if chroma > 0 {
				noRow(t, inter, mcbpc.Stuff, chroma)
			}
		}
	}
	for _, inter := range []bool{false, true} {
		for _, end := range append(ends(), 4, 5) {
			for kind := range mcbpc.Stuff + 1 {
				noRow(t, inter, kind, end)
			}
		}
		for _, kind := range ends() {
			for chroma := range 4 {
				noRow(t, inter, kind, chroma)
			}
			for _, chroma := range ends() {
				noRow(t, inter, kind, chroma)
			}
		}
	}
}

// P6.3: no row begins another one of its table.
func TestNoRowBeginsAnother(t *testing.T) {
	for _, inter := range []bool{false, true} {
		var l []string
		for kind := range mcbpc.Stuff + 1 {
			for chroma := range 4 {
				if row, is := mcbpc.Row(inter, kind, chroma); is {
					l = append(l, row)
				}
			}
		}
		for i, a := range l {
			for j, b := range l {
				if a == "" || strings.Trim(a, "01") != "" || i != j && strings.HasPrefix(a, b) {
					t.Errorf("inter %v: row %q begins with %q, or is none", inter, a, b)
				}
			}
		}
	}
}

// Each row of both tables, from each bit of a byte on, with other bits ahead and
// behind, or none behind.
func TestTake(t *testing.T) {
	for inter, table := range tables() {
		for row, s := range table {
			wrong, far := api.OK, len(row)
			if s.kind == api.Four {
				s, wrong, far = symbol{}, api.ErrMode, 0
			}
			for ahead := range 17 {
				for _, bit := range []string{"0", "1"} {
					for _, behind := range []string{"", "0", "1", "000000000", "111111111", row} {
						r := reader(t, text(t, strings.Repeat(bit, ahead), row, behind), ahead)
						take(t, row, r, inter, s, wrong, far)
					}
				}
			}
			take(t, row+" at the text's end", ending(t, row), inter, s, wrong, far)
		}
	}
}

// All bits that a text can end with: the first ones tell which, and whether they
// are too few, or none of the rows.
func TestTakeOfAllBits(t *testing.T) {
	for inter, table := range tables() {
		found := map[api.Errno]int{}
		for n := range 13 {
			for v := range 1 << n {
				bits, err := outbits.Row(v, n)
				if err != api.OK {
					t.Fatalf("Row(%d, %d): %d", v, n, err)
				}
				want, wrong, far := told(table, bits)
				found[wrong]++
				take(t, bits, ending(t, bits), inter, want, wrong, far)
			}
		}
		if found[api.OK] == 0 || found[api.ErrShort] == 0 || found[api.ErrCode] == 0 || (found[api.ErrMode] > 0) != inter {
			t.Errorf("inter %v: the bits tell %v", inter, found)
		}
	}
}

// Bits that end within a row are too few, however many rows they begin.
func TestBitsThatEndWithinRows(t *testing.T) {
	for inter, table := range tables() {
		for row := range table {
			for n := range row {
				take(t, row[:n], ending(t, row[:n]), inter, symbol{}, api.ErrShort, 0)
			}
		}
	}
}

// The first bit with which no row begins is told as such, be there another one
// behind it or not.
func TestBitsOfNoRow(t *testing.T) {
	none := map[bool][]string{
		false: {"0000001", "00000001", "000000000", "0000000000000000"},
		true:  {"000000000", "0000000000000000"},
	}
	for inter, l := range none {
		for _, bits := range l {
			take(t, bits, ending(t, bits), inter, symbol{}, api.ErrCode, 0)
			for ahead := range 8 {
				for _, behind := range []string{"1", "0", "11111111", "000000001"} {
					r := reader(t, text(t, strings.Repeat("1", ahead), bits, behind), ahead)
					take(t, bits, r, inter, symbol{}, api.ErrCode, 0)
				}
			}
		}
	}
	take(t, "as many noughts as may be", ending(t, "00000000"), true, symbol{}, api.ErrShort, 0)
	take(t, "as many noughts as may be", ending(t, "00000000"), false, symbol{}, api.ErrShort, 0)
	take(t, "a row's nought less", ending(t, "00000001"), true, symbol{}, api.ErrShort, 0)
}

func TestNoReader(t *testing.T) {
	for _, inter := range []bool{false, true} {
		if kind, chroma, err := mcbpc.Take(nil, inter); kind != 0 || chroma != 0 || err != api.ErrArg {
			t.Errorf("Take(nil, %v) = %d, %d, %d, want ErrArg", inter, kind, chroma, err)
		}
		take(t, "a zero reader", &inbits.Reader{}, inter, symbol{}, api.ErrShort, 0)
		take(t, "an empty text", inbits.New(""), inter, symbol{}, api.ErrShort, 0)
		take(t, "a text's end", reader(t, "\xff", 8), inter, symbol{}, api.ErrShort, 0)
		take(t, "a text's end", reader(t, "\x00\x00", 16), inter, symbol{}, api.ErrShort, 0)
	}
}

// Behind an error the reader reads on where it stood.
func TestReaderBehindErrors(t *testing.T) {
	rows := map[string]api.Errno{"010": api.ErrMode, "00000101": api.ErrMode, "0000101": api.ErrMode, "0000100": api.ErrMode, "000000000": api.ErrCode}
	for row, wrong := range rows {
		for ahead := range 9 {
			r := reader(t, text(t, strings.Repeat("1", ahead), row, "1"), ahead)
			for range 3 {
				take(t, row, r, true, symbol{}, wrong, 0)
			}
			for i := range row {
				if bit, err := r.Take(1); bit != int(row[i]-'0') || err != api.OK {
					t.Fatalf("bit %d of %s behind an error: %d, %d", i, row, bit, err)
				}
			}
			take(t, "behind "+row, r, true, symbol{api.Inter, 0}, api.OK, 1)
		}
	}
	r := ending(t, "0001")
	take(t, "0001", r, true, symbol{}, api.ErrShort, 0)
	take(t, "0001", r, false, symbol{api.IntraQ, 0}, api.OK, 4)
	take(t, "no bit", r, false, symbol{}, api.ErrShort, 0)
}

// The same bits tell other things in the other sheet.
func TestSameBitsInBothSheets(t *testing.T) {
	bits := []struct {
		row          string
		inter, other symbol
		wrong        api.Errno
		far, farther int
	}{
		{"1", symbol{api.Inter, 0}, symbol{api.Intra, 0}, api.OK, 1, 1},
		{"0111", symbol{api.InterQ, 0}, symbol{api.Intra, 3}, api.OK, 3, 3},
		{"0011", symbol{api.Inter, 1}, symbol{api.Intra, 1}, api.OK, 4, 3},
		{"00011", symbol{api.Intra, 0}, symbol{api.IntraQ, 0}, api.OK, 5, 4},
		{"000000001", symbol{mcbpc.Stuff, 0}, symbol{mcbpc.Stuff, 0}, api.OK, 9, 9},
		{"000000010", symbol{api.IntraQ, 3}, symbol{}, api.ErrCode, 9, 0},
	}
	for _, b := range bits {
		s := text(t, b.row)
		for range 2 {
			take(t, b.row, inbits.New(s), true, b.inter, api.OK, b.far)
			take(t, b.row, inbits.New(s), false, b.other, b.wrong, b.farther)
		}
	}
}

// P6.3: what Row tells is taken again, row behind row, from each bit of a byte
// on.
func TestTakenAgain(t *testing.T) {
	for _, inter := range []bool{false, true} {
		for ahead := range 8 {
			w := outbits.New()
			w.Put(0, ahead)
			var l []symbol
			all := map[symbol]bool{}
			for n := range 4 * 6 * 40 {
				s := symbol{n * 7 % 6, n * 5 / 6 % 4}
				row, is := mcbpc.Row(inter, s.kind, s.chroma)
				if is && s.kind != api.Four {
					w.Add(row)
					l = append(l, s)
					all[s] = true
				}
			}
			if want := map[bool]int{false: 9, true: 17}[inter]; len(all) != want {
				t.Fatalf("inter %v: %d symbols were written, want %d", inter, len(all), want)
			}
			r := reader(t, w.Text(), ahead)
			for _, s := range l {
				row, _ := mcbpc.Row(inter, s.kind, s.chroma)
				take(t, row, r, inter, s, api.OK, len(row))
			}
			if r.At() != w.Len() {
				t.Errorf("inter %v: %d bits were taken of %d", inter, r.At(), w.Len())
			}
		}
	}
}
