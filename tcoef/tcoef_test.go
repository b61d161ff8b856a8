package tcoef_test

import (
	"math"
	"strings"
	"testing"

	"overspill/api"
	"overspill/inbits"
	"overspill/outbits"
	"overspill/tcoef"
)

const escape = "0000011"

// ahead has the chapter's rows of the events that are not the last ones, Run by
// Run from 0 on, amount by amount; lasts those of the last ones.
func ahead() []string {
	return []string{
		"10 1111 010101 0010111 00011111 000100101 000100100 0000100001 0000100000 00000000111 00000000110 00000100000",
		"110 010100 00011110 0000001111 00000100001 000001010000",
		"1110 00011101 0000001110 000001010001",
		"01101 000100011 0000001101",
		"01100 000100010 000001010010",
		"01011 0000001100 000001010011",
		"010011 0000001011 000001010100",
		"010010 0000001010",
		"010001 0000001001",
		"010000 0000001000",
		"0010110 000001010101",
		"0010101",
		"0010100",
		"00011100",
		"00011011",
		"000100001",
		"000100000",
		"000011111",
		"000011110",
		"000011101",
		"000011100",
		"000011011",
		"000011010",
		"00000100010",
		"00000100011",
		"000001010110",
		"000001010111",
	}
}

func lasts() []string {
	return []string{
		"0111 000011001 00000000101",
		"001111 00000000100",
		"001110",
		"001101",
		"001100",
		"0010011",
		"0010010",
		"0010001",
		"0010000",
		"00011010",
		"00011001",
		"00011000",
		"00010111",
		"00010110",
		"00010101",
		"00010100",
		"00010011",
		"000011000",
		"000010111",
		"000010110",
		"000010101",
		"000010100",
		"000010011",
		"000010010",
		"000010001",
		"0000000111",
		"0000000110",
		"0000000101",
		"0000000100",
		"00000100100",
		"00000100101",
		"00000100110",
		"00000100111",
		"000001011000",
		"000001011001",
		"000001011010",
		"000001011011",
		"000001011100",
		"000001011101",
		"000001011110",
		"000001011111",
	}
}

// amounts tells how many rows each Run has, from 0 on, as the chapter's table has
// them.
func amounts(last bool) []int {
	l := []int{}
	for _, rows := range runs(last) {
		l = append(l, len(strings.Fields(rows)))
	}
	return l
}

func runs(last bool) []string {
	if last {
		return lasts()
	}
	return ahead()
}

// table has the rows of all events that have one: the event that each tells.
func table() map[string]api.Event {
	m := map[string]api.Event{}
	for _, last := range []bool{false, true} {
		for run, rows := range runs(last) {
			for i, row := range strings.Fields(rows) {
				m[row+"0"] = api.Event{Last: last, Run: run, Level: i + 1}
				m[row+"1"] = api.Event{Last: last, Run: run, Level: -i - 1}
			}
		}
	}
	return m
}

// listed has the same events: the row of each.
func listed() map[api.Event]string {
	m := map[api.Event]string{}
	for row, e := range table() {
		m[e] = row
	}
	return m
}

// events are all that are right.
func events() []api.Event {
	l := []api.Event{}
	for _, last := range []bool{false, true} {
		for run := range 64 {
			for level := -127; level <= 127; level++ {
				if level != 0 {
					l = append(l, api.Event{Last: last, Run: run, Level: level})
				}
			}
		}
	}
	return l
}

// escaped is an escape of these numbers, right or not.
func escaped(t *testing.T, e api.Event) string {
	t.Helper()
	last := "0"
	if e.Last {
		last = "1"
	}
	level := e.Level
	if level < 0 {
		level += 256
	}
	return escape + last + digits(t, e.Run, 6) + digits(t, level, 8)
}

// digits is v in n digits.
func digits(t *testing.T, v, n int) string {
	t.Helper()
	row, err := outbits.Row(v, n)
	if err != api.OK {
		t.Fatalf("Row(%d, %d): %d", v, n, err)
	}
	return row
}

// beginnings has all bits with which a code begins, and the codes.
func beginnings() map[string]bool {
	m := map[string]bool{}
	for row := range table() {
		for n := range len(row) {
			m[row[:n]] = true
		}
	}
	for n := range len(escape) + 1 {
		m[escape[:n]] = true
	}
	return m
}

// least and greatest are numbers that neither a Run nor a Level may be.
func least() []int {
	return []int{
		-128, -129, -255, -256, -257, -65535, -65536, math.MinInt32 - 1, math.MinInt32,
		-(1 << 32), 1 - 1<<32, 5 - 1<<40, math.MinInt + 1, math.MinInt + 127, math.MinInt + 256, math.MinInt,
	}
}

func greatest() []int {
	return []int{
		128, 129, 255, 256, 257, 65535, 65536, 65537, math.MaxInt32, math.MaxInt32 + 1,
		1 << 32, 1<<32 + 1, 1<<40 + 5, math.MaxInt - 255, math.MaxInt - 1, math.MaxInt,
	}
}

// wrong are events that are not right.
func wrong() []api.Event {
	l := []api.Event{{}, {Last: true}, {Run: 63}, {Last: true, Run: 64}, {Run: math.MinInt, Level: math.MinInt}}
	for _, last := range []bool{false, true} {
		for _, run := range append(append([]int{-1, -2, -63, -64, 64, 65, 126, 127}, least()...), greatest()...) {
			for _, level := range []int{-128, -127, -2, -1, 0, 1, 2, 127, 128, math.MinInt, math.MaxInt} {
				l = append(l, api.Event{Last: last, Run: run, Level: level})
			}
		}
		for _, level := range append(append([]int{0}, least()...), greatest()...) {
			for _, run := range []int{0, 1, 2, 26, 27, 40, 41, 62, 63} {
				l = append(l, api.Event{Last: last, Run: run, Level: level})
			}
		}
	}
	return l
}

// text is the bits of rows, one behind the other, and 0 bits up to a byte's end.
func text(t *testing.T, rows ...string) string {
	t.Helper()
	s, err := outbits.Pack(strings.Join(rows, ""))
	if err != api.OK {
		t.Fatalf("Pack(%v): %d", rows, err)
	}
	return s
}

// reader stands at that bit of s.
func reader(t *testing.T, s string, at int) *inbits.Reader {
	t.Helper()
	r := inbits.New(s)
	if err := r.Seek(at); err != api.OK {
		t.Fatalf("Seek(%d) of % x: %d", at, s, err)
	}
	return r
}

// ending stands ahead of these bits, which are the last ones of its text; 1 bits
// stand ahead of them.
func ending(t *testing.T, bits string) *inbits.Reader {
	t.Helper()
	ones := 8 + (8-len(bits)%8)%8
	return reader(t, text(t, strings.Repeat("1", ones), bits), ones)
}

// take asks for one event, and how far the reader goes; it reads on in the same
// text then.
func take(t *testing.T, what string, r *inbits.Reader, want api.Event, wrong api.Errno, far int) {
	t.Helper()
	s, at := r.Text(), r.At()
	e, err := tcoef.Take(r)
	if e != want || err != wrong {
		t.Fatalf("%s: Take = %v, %d, want %v, %d", what, e, err, want, wrong)
	}
	if r.Text() != s || r.At() != at+far || r.Left() != 8*len(s)-at-far {
		t.Fatalf("%s: Take went from %d to %d, with %d bits left, want %d", what, at, r.At(), r.Left(), at+far)
	}
}

// chapter is what the chapters' words ask for: the events of the rows, the rows of
// the events, and all bits with which a code begins.
type chapter struct {
	rows   map[string]api.Event
	events map[api.Event]string
	begins map[string]bool
}

func words() chapter {
	return chapter{rows: table(), events: listed(), begins: beginnings()}
}

// told is what stands at the beginning of bits, bit by bit, and how far a reader
// goes.
func (c chapter) told(bits string) (api.Event, api.Errno, int) {
	for n := range len(bits) + 1 {
		if e, is := c.rows[bits[:n]]; is {
			return e, api.OK, n
		}
		if bits[:n] == escape {
			return c.escaped(bits[n:])
		}
		if !c.begins[bits[:n]] {
			return api.Event{}, api.ErrCode, 0
		}
	}
	return api.Event{}, api.ErrShort, 0
}

// escaped is what these bits tell behind 0000011.
func (c chapter) escaped(bits string) (api.Event, api.Errno, int) {
	if len(bits) < 15 {
		return api.Event{}, api.ErrShort, 0
	}
	e := api.Event{Last: bits[0] == '1', Run: number(bits[1:7]), Level: number(bits[7:15])}
	if e.Level > 127 {
		e.Level -= 256
	}
	if _, has := c.events[e]; has || e.Level == 0 || e.Level == -128 {
		return api.Event{}, api.ErrLevel, 0
	}
	return e, api.OK, 22
}

// number is what these digits tell.
func number(digits string) int {
	v := 0
	for _, digit := range digits {
		v = 2*v + int(digit-'0')
	}
	return v
}

func row(t *testing.T, e api.Event, want string) {
	t.Helper()
	if got, is := tcoef.Row(e); got != want || !is {
		t.Errorf("Row(%v) = %q, %v, want %q", e, got, is, want)
	}
}

func TestExample(t *testing.T) {
	row(t, api.Event{Level: 1}, "100")
	row(t, api.Event{Last: true, Level: -1}, "01111")
	row(t, api.Event{Level: 13}, "0000011"+"0"+"000000"+"00001101")
	long := "0000011" + "0" + "000000" + "00001101"
	take(t, "100", inbits.New(text(t, "100")), api.Event{Level: 1}, api.OK, 3)
	take(t, "01111", inbits.New(text(t, "01111")), api.Event{Last: true, Level: -1}, api.OK, 5)
	take(t, long, inbits.New(text(t, long)), api.Event{Level: 13}, api.OK, 22)
	take(t, "a row told by an escape", inbits.New(text(t, "0000011", "0", "000000", "00000001")), api.Event{}, api.ErrLevel, 0)
}

// The test's table is the chapter's: how many rows it has, and its ends.
func TestTable(t *testing.T) {
	rows := table()
	if len(rows) != 204 || len(listed()) != 204 || len(ahead()) != 27 || len(lasts()) != 41 {
		t.Fatalf("the test has %d rows of %d events, of %d and %d Runs", len(rows), len(listed()), len(ahead()), len(lasts()))
	}
	short, long := 99, 0
	for row := range rows {
		short, long = min(short, len(row)), max(long, len(row))
	}
	if short != 3 || long != 13 {
		t.Errorf("the rows are from %d to %d digits", short, long)
	}
}

func TestRight(t *testing.T) {
	for _, e := range events() {
		if !tcoef.Right(e) {
			t.Errorf("Right(%v) = false", e)
		}
	}
	for _, e := range wrong() {
		if tcoef.Right(e) {
			t.Errorf("Right(%v) = true", e)
		}
	}
	for _, last := range []bool{false, true} {
		for run := -70; run < 140; run++ {
			for level := -300; level <= 300; level++ {
				want := run >= 0 && run <= 63 && level >= -127 && level <= 127 && level != 0
				if e := (api.Event{Last: last, Run: run, Level: level}); tcoef.Right(e) != want {
					t.Errorf("Right(%v) = %v", e, !want)
				}
			}
		}
	}
}

// All events of the table, with both signs.
func TestRowOfTheTable(t *testing.T) {
	for want, e := range table() {
		row(t, e, want)
	}
}

// All events that are right: those without a row in the table are escapes.
func TestRowOfAll(t *testing.T) {
	rows := listed()
	escapes := 0
	for _, e := range events() {
		want, has := rows[e]
		if !has {
			want = escaped(t, e)
			escapes++
		}
		row(t, e, want)
	}
	if escapes != 2*64*254-204 {
		t.Errorf("%d events are escapes", escapes)
	}
}

// The greatest amount of each Last and Run that has a row, and the first one that
// has none.
func TestRowsAtTheTablesEnds(t *testing.T) {
	for _, last := range []bool{false, true} {
		for run := range 64 {
			amount := 0
			if l := amounts(last); run < len(l) {
				amount = l[run]
			}
			for _, sign := range []int{1, -1} {
				if amount > 0 {
					e := api.Event{Last: last, Run: run, Level: sign * amount}
					got, is := tcoef.Row(e)
					if !is || len(got) > 13 || strings.HasPrefix(got, escape) {
						t.Errorf("Row(%v) = %q, %v, want the table's", e, got, is)
					}
				}
				e := api.Event{Last: last, Run: run, Level: sign * (amount + 1)}
				row(t, e, escaped(t, e))
			}
		}
	}
	for want, e := range map[string]api.Event{
		"0000011" + "0" + "011011" + "00000001": {Run: 27, Level: 1},
		"0000011" + "0" + "011011" + "11111111": {Run: 27, Level: -1},
		"0000011" + "1" + "101001" + "00000001": {Last: true, Run: 41, Level: 1},
		"0000011" + "1" + "101001" + "11111111": {Last: true, Run: 41, Level: -1},
		"0000011" + "1" + "000000" + "00000100": {Last: true, Level: 4},
		"0000011" + "1" + "000001" + "11111101": {Last: true, Run: 1, Level: -3},
		"0000011" + "0" + "000001" + "00000111": {Run: 1, Level: 7},
	} {
		row(t, e, want)
		take(t, want, ending(t, want), e, api.OK, 22)
	}
}

func TestEscapesAtTheirEnds(t *testing.T) {
	for want, e := range map[string]api.Event{
		"0000011" + "0" + "000000" + "01111111": {Level: 127},
		"0000011" + "0" + "000000" + "10000001": {Level: -127},
		"0000011" + "1" + "000000" + "01111111": {Last: true, Level: 127},
		"0000011" + "1" + "000000" + "10000001": {Last: true, Level: -127},
		"0000011" + "0" + "111111" + "01111111": {Run: 63, Level: 127},
		"0000011" + "0" + "111111" + "10000001": {Run: 63, Level: -127},
		"0000011" + "1" + "111111" + "01111111": {Last: true, Run: 63, Level: 127},
		"0000011" + "1" + "111111" + "10000001": {Last: true, Run: 63, Level: -127},
		"0000011" + "0" + "111111" + "00000001": {Run: 63, Level: 1},
		"0000011" + "1" + "111111" + "11111111": {Last: true, Run: 63, Level: -1},
	} {
		row(t, e, want)
		take(t, want, ending(t, want), e, api.OK, 22)
	}
}

func TestNoRow(t *testing.T) {
	for _, e := range wrong() {
		if got, is := tcoef.Row(e); got != "" || is {
			t.Errorf("Row(%v) = %q, %v, want none", e, got, is)
		}
	}
	for _, last := range []bool{false, true} {
		for run := -3; run < 70; run++ {
			for level := -260; level <= 260; level++ {
				e := api.Event{Last: last, Run: run, Level: level}
				if got, is := tcoef.Row(e); is != tcoef.Right(e) || is != (got != "") {
					t.Errorf("Row(%v) = %q, %v", e, got, is)
				}
			}
		}
	}
}

// P9.3: no row of the table begins another one, or is the same, nor does 0000011.
func TestNoRowBeginsAnother(t *testing.T) {
	rows := table()
	for a := range rows {
		if strings.HasPrefix(a, escape) || strings.HasPrefix(escape, a) {
			t.Errorf("row %q begins as an escape", a)
		}
		for b := range rows {
			first, _ := tcoef.Row(rows[a])
			second, _ := tcoef.Row(rows[b])
			if first == "" || a != b && strings.HasPrefix(first, second) {
				t.Errorf("row %q begins with %q, or is none", first, second)
			}
		}
	}
}

// Each row of the table, from each bit of a byte on, with other bits ahead and
// behind, or none behind.
func TestTake(t *testing.T) {
	for row, e := range table() {
		for ones := range 17 {
			for _, bit := range []string{"0", "1"} {
				for _, behind := range []string{"", "0", "1", "0000000000000", "1111111111111", row} {
					r := reader(t, text(t, strings.Repeat(bit, ones), row, behind), ones)
					take(t, row, r, e, api.OK, len(row))
				}
			}
		}
		take(t, row+" at the text's end", ending(t, row), e, api.OK, len(row))
	}
}

// All escapes of events without a row, each at a text's end, and with bits behind
// it.
func TestTakeOfEscapes(t *testing.T) {
	rows := listed()
	for i, e := range events() {
		if _, has := rows[e]; has {
			continue
		}
		row := escaped(t, e)
		take(t, row, ending(t, row), e, api.OK, 22)
		for _, behind := range []string{"0", "1", "00000000", "11111111", escape} {
			take(t, row+behind, reader(t, text(t, strings.Repeat("1", i%8), row, behind), i%8), e, api.OK, 22)
		}
	}
}

// All that an escape may tell behind 0000011, right or not.
func TestTakeOfAllEscapes(t *testing.T) {
	c := words()
	found := map[api.Errno]int{}
	for v := range 1 << 15 {
		bits := escape + digits(t, v, 15)
		want, wrong, far := c.told(bits)
		found[wrong]++
		take(t, bits, ending(t, bits), want, wrong, far)
		take(t, bits, reader(t, text(t, bits, "1", bits), 0), want, wrong, far)
	}
	if found[api.ErrLevel] != 2*2*64+204 || found[api.OK] != 1<<15-2*2*64-204 {
		t.Errorf("the escapes tell %v", found)
	}
}

// An escape whose Level may not be, or that the table has a row for, is wrong,
// when all its digits are there; else they are too few.
func TestWrongEscapes(t *testing.T) {
	l := []string{}
	for _, e := range table() {
		l = append(l, escaped(t, e))
	}
	for run := range 64 {
		l = append(l, escape+"0"+digits(t, run, 6)+"00000000", escape+"1"+digits(t, run, 6)+"00000000")
		l = append(l, escape+"0"+digits(t, run, 6)+"10000000", escape+"1"+digits(t, run, 6)+"10000000")
	}
	for _, bits := range l {
		for ones := range 9 {
			for _, behind := range []string{"", "0", "1", "00000000", "11111111"} {
				r := reader(t, text(t, strings.Repeat("1", ones), bits, behind), ones)
				take(t, bits+behind, r, api.Event{}, api.ErrLevel, 0)
			}
		}
		take(t, bits+" at the text's end", ending(t, bits), api.Event{}, api.ErrLevel, 0)
		for n := range bits {
			take(t, bits[:n], ending(t, bits[:n]), api.Event{}, api.ErrShort, 0)
		}
	}
}

// All bits that a text can end with: the first ones tell which, and whether they
// are too few, or no row.
func TestTakeOfAllBits(t *testing.T) {
	c := words()
	found := map[api.Errno]int{}
	seen := map[api.Event]bool{}
	for n := range 15 {
		for v := range 1 << n {
			bits := digits(t, v, n)
			want, wrong, far := c.told(bits)
			found[wrong]++
			if wrong == api.OK {
				seen[want] = true
			}
			take(t, bits, ending(t, bits), want, wrong, far)
		}
	}
	if len(found) != 3 || found[api.OK] == 0 || found[api.ErrShort] == 0 || found[api.ErrCode] == 0 || len(seen) != 204 {
		t.Errorf("the bits tell %v, of %d events", found, len(seen))
	}
}

// Bits that end within a row are too few, however many rows they begin: ahead of
// the sign, too.
func TestBitsThatEndWithinRows(t *testing.T) {
	for row := range table() {
		for n := range row {
			take(t, row[:n], ending(t, row[:n]), api.Event{}, api.ErrShort, 0)
		}
	}
	for _, e := range []api.Event{{Level: 13}, {Last: true, Run: 63, Level: -127}, {Run: 27, Level: 1}, {Run: 63, Level: -1}} {
		row := escaped(t, e)
		for n := range row {
			take(t, row[:n], ending(t, row[:n]), api.Event{}, api.ErrShort, 0)
		}
	}
}

// The first bit with which no row begins is told as such, be there another one
// behind it or not.
func TestBitsOfNoRow(t *testing.T) {
	noughts := strings.Repeat("0", 8)
	for n := range len(noughts) + 1 {
		take(t, noughts[:n], ending(t, noughts[:n]), api.Event{}, api.ErrShort, 0)
	}
	for more := 1; more < 40; more++ {
		bits := noughts + strings.Repeat("0", more)
		take(t, bits, ending(t, bits), api.Event{}, api.ErrCode, 0)
	}
	for ones := range 9 {
		for _, behind := range []string{"", "0", "1", "01", "10", "11", "11111111", "10000011"} {
			bits := noughts + "0" + behind
			r := reader(t, text(t, strings.Repeat("1", ones), bits), ones)
			take(t, bits, r, api.Event{}, api.ErrCode, 0)
			take(t, bits, ending(t, bits), api.Event{}, api.ErrCode, 0)
		}
	}
}

func TestNoReader(t *testing.T) {
	if e, err := tcoef.Take(nil); e != (api.Event{}) || err != api.ErrArg {
		t.Errorf("Take(nil) = %v, %d, want ErrArg", e, err)
	}
	take(t, "a zero reader", &inbits.Reader{}, api.Event{}, api.ErrShort, 0)
	take(t, "an empty text", inbits.New(""), api.Event{}, api.ErrShort, 0)
	take(t, "a text's end", reader(t, "\xff", 8), api.Event{}, api.ErrShort, 0)
	take(t, "a text's end", reader(t, "\x00\x00", 16), api.Event{}, api.ErrShort, 0)
}

// Behind an error the reader reads on where it stood.
func TestReaderBehindErrors(t *testing.T) {
	for bits, wrong := range map[string]api.Errno{
		"000000000":                          api.ErrCode,
		escape + "0" + "000000" + "00000001": api.ErrLevel,
		escape + "1" + "111111" + "00000000": api.ErrLevel,
		escape + "0" + "100001" + "10000000": api.ErrLevel,
	} {
		for ones := range 9 {
			r := reader(t, text(t, strings.Repeat("1", ones), bits, "1101", "1"), ones)
			for range 4 {
				take(t, bits, r, api.Event{}, wrong, 0)
			}
			if v, err := r.Take(len(bits)); v != number(bits) || err != api.OK {
				t.Fatalf("the bits behind an error are %d, %d", v, err)
			}
			take(t, "behind it", r, api.Event{Run: 1, Level: -1}, api.OK, 4)
		}
	}
	r := ending(t, "1111")
	take(t, "1111", r, api.Event{}, api.ErrShort, 0)
	take(t, "1111", r, api.Event{}, api.ErrShort, 0)
	if v, err := r.Take(4); v != 15 || err != api.OK {
		t.Errorf("behind an error 4 bits are %d, %d", v, err)
	}
	take(t, "no bit", r, api.Event{}, api.ErrShort, 0)
}

// P9.3: what Row tells of all events is taken again, row behind row, from each
// bit of a byte on.
func TestTakenAgain(t *testing.T) {
	all := events()
	for ones := range 8 {
		w := outbits.New()
		w.Put(0, ones)
		for n := range all {
			row, is := tcoef.Row(all[n*7919%len(all)])
			if !is || w.Add(row) != api.OK {
				t.Fatalf("row %d is %q", n, row)
			}
		}
		r := reader(t, w.Text(), ones)
		for n := range all {
			e := all[n*7919%len(all)]
			row, _ := tcoef.Row(e)
			take(t, row, r, e, api.OK, len(row))
		}
		if r.At() != w.Len() {
			t.Errorf("%d bits were taken of %d", r.At(), w.Len())
		}
	}
}

// All rows of the table, and some escapes, two by two.
func TestTakenAgainTwoByTwo(t *testing.T) {
	l := []api.Event{{Level: 13}, {Last: true, Run: 63, Level: -127}, {Run: 27, Level: 1}, {Last: true, Run: 41, Level: 127}}
	for _, e := range table() {
		l = append(l, e)
	}
	for _, a := range l {
		first, _ := tcoef.Row(a)
		for _, b := range l {
			second, _ := tcoef.Row(b)
			r := inbits.New(text(t, first, second))
			take(t, first, r, a, api.OK, len(first))
			take(t, second, r, b, api.OK, len(second))
		}
	}
}
