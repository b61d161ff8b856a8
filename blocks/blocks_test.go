package blocks_test

import (
	"math"
	"slices"
	"strings"
	"testing"

	"overspill/api"
	"overspill/blocks"
	"overspill/inbits"
	"overspill/outbits"
	"overspill/tcoef"
)

const escape = "0000011"

type list = []api.Event

// kinds are the two that blocks may be of: intra, and not.
func kinds() []bool {
	return []bool{false, true}
}

// from is the number of the first level that events tell.
func from(intra bool) int {
	if intra {
		return 1
	}
	return 0
}

// someDc is a dc that a block of that kind may have.
func someDc(intra bool) int {
	if intra {
		return 77
	}
	return 0
}

// wild are numbers that no dc, no Run and no Level may be.
func wild() []int {
	return []int{
		256, 257, 383, 384, 510, 511, 65535, 65536, 65537, 65537 + 127, math.MaxInt32, math.MaxInt32 + 1,
		1 << 32, 1<<32 + 1, 1<<32 + 127, 1<<40 + 5, math.MaxInt - 255, math.MaxInt - 63, math.MaxInt - 1, math.MaxInt,
		-128, -129, -254, -255, -256, -257, -65535, -65536, math.MinInt32, math.MinInt32 - 1,
		-(1 << 32), 1 - 1<<32, math.MinInt + 255, math.MinInt + 127, math.MinInt + 1, math.MinInt,
	}
}

// wrongDcs are those that a block of that kind may not have.
func wrongDcs(intra bool) []int {
	l := append(wild(), 255, -1, -2, -127)
	if intra {
		return append(l, 0)
	}
	return append(l, 1, 2, 10, 126, 127, 128, 129, 253, 254)
}

// wrongEvents are events that are not right.
func wrongEvents(last bool) list {
	l := list{}
	for _, level := range append(wild(), 0, 128, 129, 255) {
		for _, run := range []int{0, 1, 62, 63} {
			l = append(l, api.Event{Last: last, Run: run, Level: level})
		}
	}
	for _, run := range append(wild(), -1, -2, -63, -64, 64, 65, 127) {
		for _, level := range []int{0, 1, -1, 127, -127, 128} {
			l = append(l, api.Event{Last: last, Run: run, Level: level})
		}
	}
	return l
}

// chain is n events of one Run, each a level ahead of the next one, the last one
// told as such.
func chain(n, run int) list {
	l := list{}
	for i := range n {
		l = append(l, api.Event{Last: i == n-1, Run: run, Level: i%127 + 1})
	}
	return l
}

// open is the same, and none of them is told as the last one.
func open(n, run int) list {
	return chain(n+1, run)[:n]
}

// digits is v in n digits.
func digits(v, n int) string {
	row := ""
	for place := n - 1; place >= 0; place-- {
		row += string(rune('0' + v>>place&1))
	}
	return row
}

// number is what these digits tell.
func number(digits string) int {
	v := 0
	for _, digit := range digits {
		v = 2*v + int(digit-'0')
	}
	return v
}

// dcRow is what is told of dc.
func dcRow(intra bool, dc int) string {
	switch {
	case !intra:
		return ""
	case dc == 128:
		return "11111111"
	}
	return digits(dc, 8)
}

// rows are those of events that are right, one behind the other.
func rows(t *testing.T, l ...api.Event) string {
	t.Helper()
	told := ""
	for _, e := range l {
		row, is := tcoef.Row(e)
		if !is {
			t.Fatalf("%v has no row", e)
		}
		told += row
	}
	return told
}

// text is the bits of rows, one behind the other, and 0 bits up to a byte's end.
func text(t *testing.T, rows ...string) string {
	t.Helper()
	s, err := outbits.Pack(strings.Join(rows, ""))
	if err != api.OK {
		t.Fatalf("Pack(%v): %d", rows, err)
	}
	return s
}

// reader stands at that bit of s.
func reader(t *testing.T, s string, at int) *inbits.Reader {
	t.Helper()
	r := inbits.New(s)
	if err := r.Seek(at); err != api.OK {
		t.Fatalf("Seek(%d) of % x: %d", at, s, err)
	}
	return r
}

// ending stands ahead of these bits, which are the last ones of its text; 1 bits
// stand ahead of them.
func ending(t *testing.T, bits string) *inbits.Reader {
	t.Helper()
	ones := 8 + (8-len(bits)%8)%8
	return reader(t, text(t, strings.Repeat("1", ones), bits), ones)
}

// writer has these bits.
func writer(t *testing.T, bits string) *outbits.Writer {
	t.Helper()
	w := outbits.New()
	if err := w.Add(bits); err != api.OK {
		t.Fatalf("Add(%q): %d", bits, err)
	}
	return w
}

// holds asks which bits a writer has.
func holds(t *testing.T, what string, w *outbits.Writer, want string) {
	t.Helper()
	if w.Len() != len(want) || w.Text() != text(t, want) {
		t.Fatalf("%s: the writer has %d bits %q, want %q", what, w.Len(), outbits.Show(w.Text()), want)
	}
}

// put asks for one block to be written behind any number of bits.
func put(t *testing.T, intra bool, dc int, l list, want string) {
	t.Helper()
	for n := range 9 {
		ahead := "110100101"[:n]
		w := writer(t, ahead)
		if err := blocks.Put(w, intra, dc, l); err != api.OK {
			t.Fatalf("Put(%v, %d, %v) = %d", intra, dc, l, err)
		}
		holds(t, "Put", w, ahead+want)
	}
}

// noPut asks for the same, which is wrong: no bit is written, and what is written
// next stands behind those that were there.
func noPut(t *testing.T, intra bool, dc int, l list, wrong api.Errno) {
	t.Helper()
	for n := range 9 {
		ahead := "110100101"[:n]
		w := writer(t, ahead)
		if err := blocks.Put(w, intra, dc, l); err != wrong {
			t.Fatalf("Put(%v, %d, %d events) = %d, want %d", intra, dc, len(l), err, wrong)
		}
		holds(t, "Put with an error", w, ahead)
		w.Add("1")
		holds(t, "Add behind an error", w, ahead+"1")
	}
}

// take asks for one block, and how far the reader goes; it reads on in the same
// text then.
func take(t *testing.T, what string, r *inbits.Reader, intra, coded bool, dc int, l list, wrong api.Errno, far int) {
	t.Helper()
	s, at := r.Text(), r.At()
	gotDc, got, err := blocks.Take(r, intra, coded)
	if gotDc != dc || !slices.Equal(got, l) || err != wrong {
		t.Fatalf("%s: Take(%v, %v) = %d, %v, %d, want %d, %v, %d", what, intra, coded, gotDc, got, err, dc, l, wrong)
	}
	if r.Text() != s || r.At() != at+far || r.Left() != 8*len(s)-at-far {
		t.Fatalf("%s: Take(%v, %v) went from %d to %d, with %d bits left, want %d", what, intra, coded, at, r.At(), r.Left(), at+far)
	}
}

// took asks for one block of these bits, with other bits ahead and behind, and at
// the text's end.
func took(t *testing.T, bits string, intra, coded bool, dc int, l list) {
	t.Helper()
	for n := range 9 {
		for _, behind := range []string{"", "0", "1", "00000000", "11111111", "100"} {
			r := reader(t, text(t, "110100101"[:n], bits, behind), n)
			take(t, bits, r, intra, coded, dc, l, api.OK, len(bits))
		}
	}
	take(t, bits+" at the text's end", ending(t, bits), intra, coded, dc, l, api.OK, len(bits))
}

// noTake asks for the same of bits that are wrong, whatever stands behind them.
func noTake(t *testing.T, bits string, intra, coded bool, wrong api.Errno) {
	t.Helper()
	for n := range 9 {
		for _, behind := range []string{"", "0", "1", "00000000", "11111111", "100"} {
			r := reader(t, text(t, "110100101"[:n], bits, behind), n)
			take(t, bits+behind, r, intra, coded, 0, nil, wrong, 0)
		}
	}
	take(t, bits+" at the text's end", ending(t, bits), intra, coded, 0, nil, wrong, 0)
}

// short asks for the same of bits that end too early: of all that these begin
// with.
func short(t *testing.T, bits string, intra, coded bool) {
	t.Helper()
	for n := range bits {
		take(t, bits[:n], ending(t, bits[:n]), intra, coded, 0, nil, api.ErrShort, 0)
	}
}

// both asks Put and Take: the bits are just those of this block.
func both(t *testing.T, intra bool, dc int, l list, want string) {
	t.Helper()
	put(t, intra, dc, l, want)
	took(t, want, intra, len(l) > 0, dc, l)
}

// chapter is what the chapters' words ask for: the events of all rows, and all
// bits with which one begins.
type chapter struct {
	rows   map[string]api.Event
	begins map[string]bool
}

func words(t *testing.T) chapter {
	t.Helper()
	c := chapter{rows: map[string]api.Event{}, begins: map[string]bool{}}
	for _, last := range kinds() {
		for run := range 64 {
			for level := -127; level <= 127; level++ {
				if level == 0 {
					continue
				}
				e := api.Event{Last: last, Run: run, Level: level}
				row := rows(t, e)
				c.rows[row] = e
				for n := range row {
					c.begins[row[:n]] = true
				}
			}
		}
	}
	return c
}

// event is what stands at the beginning of bits, and how many digits it has.
func (c chapter) event(bits string) (api.Event, api.Errno, int) {
	for n := range len(bits) + 1 {
		if e, is := c.rows[bits[:n]]; is {
			return e, api.OK, n
		}
		if strings.HasPrefix(bits, escape) && n < 22 {
			continue
		}
		if strings.HasPrefix(bits, escape) {
			return api.Event{}, api.ErrLevel, 0
		}
		if !c.begins[bits[:n]] {
			return api.Event{}, api.ErrCode, 0
		}
	}
	return api.Event{}, api.ErrShort, 0
}

// block is the one that stands at the beginning of bits, and how many digits it
// has.
func (c chapter) block(bits string, intra, coded bool) (int, list, api.Errno, int) {
	dc, far := 0, 0
	if intra {
		if len(bits) < 8 {
			return 0, nil, api.ErrShort, 0
		}
		dc, far = number(bits[:8]), 8
		if dc == 0 || dc == 128 {
			return 0, nil, api.ErrLevel, 0
		}
		if dc == 255 {
			dc = 128
		}
	}
	l := list{}
	for levels := from(intra); coded; levels++ {
		e, err, n := c.event(bits[far:])
		if err != api.OK {
			return 0, nil, err, 0
		}
		levels += e.Run
		if levels > 63 {
			return 0, nil, api.ErrLevel, 0
		}
		far += n
		l = append(l, e)
		coded = !e.Last
	}
	return dc, l, api.OK, far
}

func TestExample(t *testing.T) {
	both(t, true, 128, list{{Last: true, Level: 1}}, "11111111"+"01110")
	both(t, false, 0, nil, "")
	w := outbits.New()
	if err := blocks.Put(w, true, 128, list{{Last: true, Level: 1}}); err != api.OK || w.Text() != "\xff\x70" || w.Len() != 13 {
		t.Errorf("Put = %d, % x, %d bits", err, w.Text(), w.Len())
	}
}

// All dcs that may be, alone and with events behind them.
func TestDcs(t *testing.T) {
	for dc := 1; dc <= 254; dc++ {
		both(t, true, dc, nil, dcRow(true, dc))
		both(t, true, dc, list{{Last: true, Level: -1}}, dcRow(true, dc)+"01111")
		both(t, true, dc, list{{Level: 1}, {Last: true, Run: 2, Level: 1}}, dcRow(true, dc)+"100"+"0011100")
	}
	for dc, want := range map[int]string{
		1: "00000001", 2: "00000010", 127: "01111111", 128: "11111111", 129: "10000001", 253: "11111101", 254: "11111110",
	} {
		both(t, true, dc, nil, want)
		both(t, true, dc, list{{Last: true, Level: 1}}, want+"01110")
	}
}

func TestWrongDcs(t *testing.T) {
	for _, intra := range kinds() {
		for _, dc := range wrongDcs(intra) {
			for _, l := range []list{nil, {}, {{Last: true, Level: 1}}, chain(5, 3), {{Last: true, Run: 63, Level: 1}}} {
				noPut(t, intra, dc, l, api.ErrLevel)
			}
		}
	}
	for dc := -300; dc <= 600; dc++ {
		if dc < 1 || dc > 254 {
			noPut(t, true, dc, nil, api.ErrLevel)
		}
		if dc != 0 {
			noPut(t, false, dc, nil, api.ErrLevel)
		}
	}
}

// All that the first eight bits of an intra block may tell.
func TestEightBits(t *testing.T) {
	for v := range 256 {
		bits := digits(v, 8)
		switch v {
		case 0, 128:
			noTake(t, bits, true, false, api.ErrLevel)
			noTake(t, bits, true, true, api.ErrLevel)
			noTake(t, bits+"01110", true, true, api.ErrLevel)
		case 255:
			took(t, bits, true, false, 128, nil)
			took(t, bits+"01110", true, true, 128, list{{Last: true, Level: 1}})
		default:
			took(t, bits, true, false, v, nil)
			took(t, bits+"01110", true, true, v, list{{Last: true, Level: 1}})
		}
	}
}

// Where eight bits are not there, they are too few, whatever they begin with.
func TestFewerThanEightBits(t *testing.T) {
	for n := range 8 {
		for v := range 1 << n {
			for _, coded := range kinds() {
				take(t, digits(v, n), ending(t, digits(v, n)), true, coded, 0, nil, api.ErrShort, 0)
			}
		}
	}
}

func TestNoEvents(t *testing.T) {
	for _, l := range []list{nil, {}, make(list, 0, 8)} {
		put(t, false, 0, l, "")
		put(t, true, 1, l, "00000001")
	}
	for _, bits := range []string{"", "0", "1", "0000000000000", "11111111", escape + "0" + "000000" + "00000000"} {
		r := ending(t, bits)
		take(t, bits, r, false, false, 0, nil, api.OK, 0)
		take(t, bits, r, false, false, 0, nil, api.OK, 0)
		r = ending(t, "00010000"+bits)
		take(t, bits, r, true, false, 16, nil, api.OK, 8)
		take(t, bits, r, false, false, 0, nil, api.OK, 0)
	}
	take(t, "a zero reader", &inbits.Reader{}, false, false, 0, nil, api.OK, 0)
}

// All events that are right, alone, if their level has a number at most 63: the
// rows of the table, and escapes.
func TestOneEvent(t *testing.T) {
	for _, intra := range kinds() {
		for run := range 64 {
			for level := -127; level <= 127; level++ {
				if level == 0 {
					continue
				}
				l := list{{Last: true, Run: run, Level: level}}
				bits := dcRow(intra, someDc(intra)) + rows(t, l...)
				if from(intra)+run > 63 {
					noPut(t, intra, someDc(intra), l, api.ErrLevel)
					noTake(t, bits, intra, true, api.ErrLevel)
					continue
				}
				w := writer(t, "101")
				if err := blocks.Put(w, intra, someDc(intra), l); err != api.OK {
					t.Fatalf("Put(%v, %v) = %d", intra, l, err)
				}
				holds(t, "Put", w, "101"+bits)
				take(t, bits, ending(t, bits), intra, true, someDc(intra), l, api.OK, len(bits))
			}
		}
	}
}

func TestRowsOnPaper(t *testing.T) {
	both(t, false, 0, list{{Last: true, Level: -1}}, "01111")
	both(t, false, 0, list{{Level: 1}, {Level: -1}, {Last: true, Level: 1}}, "100"+"101"+"01110")
	both(t, false, 0, list{{Level: 13}, {Last: true, Run: 40, Level: 1}}, "0000011"+"0"+"000000"+"00001101"+"000001011111"+"0")
	both(t, false, 0, list{{Last: true, Run: 63, Level: -127}}, "0000011"+"1"+"111111"+"10000001")
	both(t, true, 254, list{{Last: true, Run: 62, Level: 127}}, "11111110"+"0000011"+"1"+"111110"+"01111111")
	both(t, true, 1, list{{Run: 26, Level: -1}, {Run: 27, Level: 1}, {Last: true, Run: 7, Level: 1}},
		"00000001"+"000001010111"+"1"+"0000011"+"0"+"011011"+"00000001"+"0010001"+"0")
}

// Two levels, the last one at number 63 just, or beyond it.
func TestTwoEventsUpToNumber63(t *testing.T) {
	for _, intra := range kinds() {
		dc := someDc(intra)
		for a := range 64 {
			for b := range 64 {
				l := list{{Run: a, Level: 1}, {Last: true, Run: b, Level: -2}}
				bits := dcRow(intra, dc) + rows(t, l...)
				if from(intra)+a+b+1 > 63 {
					noPut(t, intra, dc, l, api.ErrLevel)
					take(t, bits, ending(t, bits), intra, true, 0, nil, api.ErrLevel, 0)
					continue
				}
				w := writer(t, "11111")
				if err := blocks.Put(w, intra, dc, l); err != api.OK {
					t.Fatalf("Put(%v, %v) = %d", intra, l, err)
				}
				holds(t, "Put", w, "11111"+bits)
				take(t, bits, ending(t, bits), intra, true, dc, l, api.OK, len(bits))
			}
		}
	}
}

func TestNumber63AndOneBeyond(t *testing.T) {
	last := func(run int) list { return list{{Last: true, Run: run, Level: 3}} }
	both(t, false, 0, last(63), rows(t, last(63)...))
	both(t, true, 9, last(62), "00001001"+rows(t, last(62)...))
	noPut(t, true, 9, last(63), api.ErrLevel)
	noTake(t, "00001001"+rows(t, last(63)...), true, true, api.ErrLevel)
	for _, intra := range kinds() {
		dc, most := someDc(intra), 64-from(intra)
		ahead := dcRow(intra, dc)
		both(t, intra, dc, chain(most, 0), ahead+rows(t, chain(most, 0)...))
		both(t, intra, dc, chain(32-from(intra), 1), ahead+rows(t, chain(32-from(intra), 1)...))
		for _, l := range []list{chain(most+1, 0), chain(33-from(intra), 1), {{Run: most - 1, Level: 1}, {Last: true, Level: 1}}} {
			noPut(t, intra, dc, l, api.ErrLevel)
			noTake(t, ahead+rows(t, l...), intra, true, api.ErrLevel)
		}
	}
}

// A level whose number is too great is wrong where its event is not the last one,
// too: what stands behind is not looked at.
func TestBeyondWithinEvents(t *testing.T) {
	for _, intra := range kinds() {
		dc, most := someDc(intra), 64-from(intra)
		ahead := dcRow(intra, dc)
		for _, l := range []list{open(most+1, 0), {{Run: most, Level: 1}}, {{Run: most - 1, Level: 1}, {Level: 1}}, {{Level: 2}, {Run: 63, Level: -2}}} {
			noPut(t, intra, dc, append(slices.Clone(l), api.Event{Last: true, Level: 1}), api.ErrLevel)
			if l[len(l)-1].Run <= 63 {
				noTake(t, ahead+rows(t, l...), intra, true, api.ErrLevel)
				noTake(t, ahead+rows(t, l...)+"000000000", intra, true, api.ErrLevel)
				noTake(t, ahead+rows(t, l...)+"01110", intra, true, api.ErrLevel)
			}
		}
	}
}

// As many events as there are levels, and more of them.
func TestManyEvents(t *testing.T) {
	for _, intra := range kinds() {
		dc, most := someDc(intra), 64-from(intra)
		for n := 1; n <= most; n++ {
			both(t, intra, dc, chain(n, 0), dcRow(intra, dc)+rows(t, chain(n, 0)...))
		}
		for n := most + 1; n < 140; n++ {
			noPut(t, intra, dc, chain(n, 0), api.ErrLevel)
			bits := dcRow(intra, dc) + rows(t, chain(n, 0)...)
			take(t, bits, ending(t, bits), intra, true, 0, nil, api.ErrLevel, 0)
		}
		for _, n := range []int{255, 256, 257, 65536, 65537, 1 << 18} {
			noPut(t, intra, dc, chain(n, 0), api.ErrLevel)
			noPut(t, intra, dc, chain(n, 63), api.ErrLevel)
		}
	}
}

// Last, true or false of each of up to eight events: one way alone is right.
func TestWrongLast(t *testing.T) {
	for _, intra := range kinds() {
		dc := someDc(intra)
		for n := 1; n <= 8; n++ {
			for pattern := range 1 << n {
				l := chain(n, 2)
				for i := range l {
					l[i].Last = pattern>>i&1 == 1
				}
				if pattern == 1<<(n-1) {
					both(t, intra, dc, l, dcRow(intra, dc)+rows(t, l...))
					continue
				}
				noPut(t, intra, dc, l, api.ErrLevel)
			}
		}
		noPut(t, intra, dc, open(64-from(intra), 0), api.ErrLevel)
	}
}

// What stands behind the last event is not read; where none is the last one, the
// next one is missing.
func TestTakeOfLast(t *testing.T) {
	for _, intra := range kinds() {
		ahead := dcRow(intra, someDc(intra))
		for n := 1; n <= 20; n++ {
			l := chain(n, 2)
			bits := ahead + rows(t, l...)
			took(t, bits, intra, true, someDc(intra), l)
			r := ending(t, bits+rows(t, l...))
			take(t, bits, r, intra, true, someDc(intra), l, api.OK, len(bits))
			take(t, bits, r, false, true, 0, l, api.OK, len(rows(t, l...)))
			bits = ahead + rows(t, open(n, 2)...)
			take(t, bits, ending(t, bits), intra, true, 0, nil, api.ErrShort, 0)
			noTake(t, bits+"000000000", intra, true, api.ErrCode)
		}
	}
}

// An event that is not right is wrong at each place, with right ones ahead of it
// and behind.
func TestWrongEvents(t *testing.T) {
	for _, intra := range kinds() {
		for n := 1; n <= 3; n++ {
			for place := range n {
				for _, last := range kinds() {
					for _, e := range wrongEvents(last) {
						l := chain(n, 1)
						l[place] = e
						noPut(t, intra, someDc(intra), l, api.ErrLevel)
					}
				}
			}
		}
	}
}

// What the row of an event tells wrong is wrong in a block: as the first one, and
// behind others.
func TestTakeOfWrongRows(t *testing.T) {
	for bits, wrong := range map[string]api.Errno{
		"000000000":                          api.ErrCode,
		"0000000000000001":                   api.ErrCode,
		escape + "0" + "000000" + "00000000": api.ErrLevel,
		escape + "1" + "000000" + "00000000": api.ErrLevel,
		escape + "0" + "000101" + "10000000": api.ErrLevel,
		escape + "1" + "111111" + "10000000": api.ErrLevel,
		escape + "0" + "000000" + "00000001": api.ErrLevel,
		escape + "0" + "000000" + "11110100": api.ErrLevel,
		escape + "1" + "000000" + "00000011": api.ErrLevel,
		escape + "1" + "101000" + "11111111": api.ErrLevel,
	} {
		for _, intra := range kinds() {
			for n := range 65 - from(intra) {
				ahead := dcRow(intra, someDc(intra)) + rows(t, open(n, 0)...)
				noTake(t, ahead+bits, intra, true, wrong)
				noTake(t, ahead+bits+"01110", intra, true, wrong)
			}
		}
	}
}

// Bits that end within the eight bits, within an event, or ahead of one that is
// missing are too few.
func TestEndsOfTheText(t *testing.T) {
	lists := []list{
		{{Last: true, Level: 1}}, {{Level: 13}, {Last: true, Run: 63 - 2, Level: -127}}, chain(7, 1), chain(2, 20),
		{{Level: 1}, {Run: 27, Level: 1}, {Run: 3, Level: -90}, {Last: true, Run: 30, Level: 5}},
	}
	for _, intra := range kinds() {
		for _, l := range lists {
			short(t, dcRow(intra, someDc(intra))+rows(t, l...), intra, true)
		}
	}
	for _, coded := range kinds() {
		short(t, "11111111", true, coded)
		short(t, "00000001", true, coded)
		short(t, "00000000", true, coded)
		short(t, "10000000", true, coded)
	}
	for _, intra := range kinds() {
		take(t, "a zero reader", &inbits.Reader{}, intra, true, 0, nil, api.ErrShort, 0)
		take(t, "an empty text", inbits.New(""), intra, true, 0, nil, api.ErrShort, 0)
		take(t, "a text's end", reader(t, "\xff\x70", 16), intra, true, 0, nil, api.ErrShort, 0)
	}
	take(t, "a zero reader", &inbits.Reader{}, true, false, 0, nil, api.ErrShort, 0)
}

// A nil writer is wrong ahead of all else.
func TestNoWriter(t *testing.T) {
	lists := []list{nil, {}, {{Last: true, Level: 1}}, {{Level: 1}}, {{Last: true, Level: 500}}, chain(70, 0)}
	for _, intra := range kinds() {
		for _, dc := range append(wild(), -1, 0, 1, 127, 128, 129, 254, 255) {
			for _, l := range lists {
				if err := blocks.Put(nil, intra, dc, l); err != api.ErrArg {
					t.Errorf("Put(nil, %v, %d, %v) = %d, want ErrArg", intra, dc, l, err)
				}
			}
		}
	}
}

func TestZeroWriter(t *testing.T) {
	w := &outbits.Writer{}
	if err := blocks.Put(w, true, 255, nil); err != api.ErrLevel {
		t.Errorf("Put of a wrong dc = %d", err)
	}
	holds(t, "a zero writer", w, "")
	if err := blocks.Put(w, true, 127, list{{Last: true, Level: -1}}); err != api.OK {
		t.Errorf("Put = %d", err)
	}
	holds(t, "a zero writer", w, "01111111"+"01111")
}

func TestNoReader(t *testing.T) {
	for _, intra := range kinds() {
		for _, coded := range kinds() {
			if dc, l, err := blocks.Take(nil, intra, coded); dc != 0 || len(l) != 0 || err != api.ErrArg {
				t.Errorf("Take(nil, %v, %v) = %d, %v, %d, want ErrArg", intra, coded, dc, l, err)
			}
		}
	}
}

// Of an intra block that is wrong in both, the eight bits are told first: as too
// few, then as such that may not be, then what is wrong in the events.
func TestEightBitsAheadOfEvents(t *testing.T) {
	events := []string{"", "000000000", escape + "000000000000000", rows(t, chain(64, 0)...), "0", "1111"}
	for _, behind := range events {
		for _, bits := range []string{"00000000", "10000000"} {
			take(t, bits+behind, ending(t, bits+behind), true, true, 0, nil, api.ErrLevel, 0)
			take(t, bits+behind, ending(t, bits+behind), true, false, 0, nil, api.ErrLevel, 0)
		}
	}
	for behind, wrong := range map[string]api.Errno{
		"": api.ErrShort, "000000000": api.ErrCode, escape + "000000000000000": api.ErrLevel, rows(t, chain(64, 0)...): api.ErrLevel, "1111": api.ErrShort,
	} {
		take(t, behind, ending(t, "11111111"+behind), true, true, 0, nil, wrong, 0)
	}
}

// Where all levels are told and none was the last, what the next row tells wrong
// is wrong first, then that its level would have a number above 63.
func TestRowsAheadOfNumbers(t *testing.T) {
	for _, intra := range kinds() {
		for _, full := range []list{open(64-from(intra), 0), {{Run: 63 - from(intra), Level: 1}}} {
			ahead := dcRow(intra, someDc(intra)) + rows(t, full...)
			for behind, wrong := range map[string]api.Errno{
				"": api.ErrShort, "0": api.ErrShort, "11": api.ErrShort, "0111": api.ErrShort, "00000000": api.ErrShort,
				escape + "1" + "111111" + "0111111":  api.ErrShort,
				escape + "1" + "000000" + "0000000":  api.ErrShort,
				"000000000":                          api.ErrCode,
				escape + "1" + "000000" + "00000001": api.ErrLevel,
				escape + "1" + "111111" + "01111111": api.ErrLevel,
				"01110":                              api.ErrLevel,
				"100":                                api.ErrLevel,
			} {
				take(t, "all levels, and "+behind, ending(t, ahead+behind), intra, true, 0, nil, wrong, 0)
			}
		}
	}
}

// All bits that a text can end with, up to twelve, and up to twelve behind some
// eight bits.
func TestTakeOfAllBits(t *testing.T) {
	c := words(t)
	found := map[api.Errno]int{}
	firsts := []string{"", "00000001", "01111111", "11111111", "10000000"}
	for n := range 13 {
		for v := range 1 << n {
			for _, first := range firsts {
				bits := first + digits(v, n)
				for _, intra := range kinds() {
					for _, coded := range kinds() {
						dc, l, wrong, far := c.block(bits, intra, coded)
						found[wrong]++
						take(t, bits, ending(t, bits), intra, coded, dc, l, wrong, far)
					}
				}
			}
		}
	}
	if len(found) != 4 {
		t.Errorf("the bits tell %v", found)
	}
}

// maker makes numbers by a short rule that mixes.
type maker struct {
	state uint32
}

func (m *maker) next(n int) int {
	m.state = m.state*1664525 + 1013904223
	return int(m.state>>8) % n
}

// block is one of any density: its kind, its dc and its events.
func (m *maker) block() (bool, int, list) {
	intra := m.next(2) == 1
	dc := 0
	if intra {
		dc = m.next(254) + 1
	}
	l := list{}
	dense, run := m.next(66), 0
	for range 64 - from(intra) {
		if m.next(65) >= dense {
			run++
			continue
		}
		level := m.next(127) + 1
		if m.next(3) > 0 {
			level = m.next(3) + 1
		}
		if m.next(2) == 1 {
			level = -level
		}
		l = append(l, api.Event{Run: run, Level: level})
		run = 0
	}
	if len(l) > 0 {
		l[len(l)-1].Last = true
	}
	return intra, dc, l
}

// Long texts of any bits, from each bit on.
func TestTakeOfManyBits(t *testing.T) {
	c := words(t)
	m := &maker{state: 7}
	for range 3000 {
		bits := ""
		for len(bits) < 200 {
			bits += digits(m.next(256)|m.next(2)*m.next(256), 8)
		}
		at := m.next(40)
		for _, intra := range kinds() {
			for _, coded := range kinds() {
				dc, l, wrong, far := c.block(bits[at:], intra, coded)
				take(t, bits[at:], reader(t, text(t, bits), at), intra, coded, dc, l, wrong, far)
			}
		}
	}
}

// P15.3: many blocks, each written behind those ahead of it, are taken again, and
// what was taken is written as the same bits.
func TestTakenAgain(t *testing.T) {
	for ones := range 8 {
		ahead := strings.Repeat("1", ones)
		w, want := writer(t, ahead), ahead
		m := &maker{state: uint32(ones)}
		for range 400 {
			intra, dc, l := m.block()
			if err := blocks.Put(w, intra, dc, l); err != api.OK {
				t.Fatalf("Put(%v, %d, %v) = %d", intra, dc, l, err)
			}
			want += dcRow(intra, dc) + rows(t, l...)
		}
		holds(t, "many blocks", w, want)
		r, again := reader(t, w.Text(), ones), writer(t, ahead)
		m = &maker{state: uint32(ones)}
		for range 400 {
			intra, dc, l := m.block()
			far := len(dcRow(intra, dc) + rows(t, l...))
			gotDc, got, err := blocks.Take(reader(t, w.Text(), r.At()), intra, len(l) > 0)
			if err != api.OK || blocks.Put(again, intra, gotDc, got) != api.OK {
				t.Fatalf("what was taken, %d %v, is not written again: %d", gotDc, got, err)
			}
			take(t, "many blocks", r, intra, len(l) > 0, dc, l, api.OK, far)
		}
		if r.At() != w.Len() || again.Text() != w.Text() || again.Len() != w.Len() {
			t.Errorf("%d bits were taken, and %d written again, of %d", r.At(), again.Len(), w.Len())
		}
	}
}

// Whatever stands ahead and behind, one block is taken as it was written.
func TestTakenAgainOneByOne(t *testing.T) {
	m := &maker{state: 99}
	for range 300 {
		intra, dc, l := m.block()
		both(t, intra, dc, l, dcRow(intra, dc)+rows(t, l...))
	}
}

// Behind an error the reader reads on where it stood.
func TestReaderBehindErrors(t *testing.T) {
	for _, intra := range kinds() {
		ahead := dcRow(intra, someDc(intra))
		for bits, wrong := range map[string]api.Errno{
			ahead + "100" + "000000000":                          api.ErrCode,
			ahead + "100" + escape + "0" + "000000" + "00000001": api.ErrLevel,
			ahead + rows(t, chain(65, 0)...):                     api.ErrLevel,
		} {
			for ones := range 9 {
				r := reader(t, text(t, strings.Repeat("1", ones), bits, "01111", "1"), ones)
				for range 3 {
					take(t, bits, r, intra, true, 0, nil, wrong, 0)
				}
				for _, digit := range bits {
					if v, err := r.Take(1); v != int(digit-'0') || err != api.OK {
						t.Fatalf("a bit behind an error is %d, %d", v, err)
					}
				}
				take(t, "behind it", r, false, true, 0, list{{Last: true, Level: -1}}, api.OK, 5)
			}
		}
	}
	r := ending(t, "11111111"+"100"+"1110")
	take(t, "a short text", r, true, true, 0, nil, api.ErrShort, 0)
	take(t, "a short text", r, true, false, 128, nil, api.OK, 8)
	take(t, "a short text", r, false, true, 0, nil, api.ErrShort, 0)
	if v, err := r.Take(7); v != 0b1001110 || err != api.OK {
		t.Errorf("behind an error 7 bits are %d, %d", v, err)
	}
}

// Behind an error what is written next stands where the wrong block would.
func TestWriterBehindErrors(t *testing.T) {
	w := outbits.New()
	for _, l := range []list{{{Level: 1}}, chain(70, 0), {{Last: true, Level: 128}}, {{Level: 1}, {Level: 2}, {Last: true, Run: 64, Level: 1}}} {
		for _, intra := range kinds() {
			if err := blocks.Put(w, intra, someDc(intra), l); err != api.ErrLevel {
				t.Errorf("Put(%v, %v) = %d", intra, l, err)
			}
		}
	}
	holds(t, "errors", w, "")
	blocks.Put(w, true, 129, list{{Last: true, Level: -1}})
	blocks.Put(w, false, 129, list{{Last: true, Level: -1}})
	blocks.Put(w, false, 0, list{{Last: true, Level: 1}})
	blocks.Put(w, true, 0, list{{Last: true, Level: 1}})
	blocks.Put(w, true, 2, nil)
	holds(t, "blocks and errors", w, "10000001"+"01111"+"01110"+"00000010")
}

// What is handed in stays as it was, and what lies behind a list's end as well,
// be the block right or not.
func TestEventsHandedInStay(t *testing.T) {
	lists := []list{
		chain(3, 1), chain(64, 0), chain(65, 0), chain(2, 63),
		{{Last: true, Level: 1}, {Level: 1}}, {{Level: 1}}, {{Level: 0}, {Last: true, Level: 200}},
	}
	for _, intra := range kinds() {
		for _, l := range lists {
			for n := range len(l) + 1 {
				room := append(slices.Clone(l), api.Event{Last: true, Run: 11, Level: 22}, api.Event{Run: -5, Level: 500})
				was := slices.Clone(room)
				blocks.Put(outbits.New(), intra, someDc(intra), room[:n])
				blocks.Put(outbits.New(), intra, 128, room[:n])
				blocks.Put(nil, intra, 0, room[:n])
				if !slices.Equal(room, was) {
					t.Errorf("Put(%v, %v) made of %v %v", intra, l[:n], was, room)
				}
			}
		}
	}
}

// A list that was written is not kept: what is written of it stays when it is
// changed.
func TestListsAreNotKept(t *testing.T) {
	w, l := outbits.New(), chain(3, 1)
	want := "00000101" + rows(t, l...)
	if err := blocks.Put(w, true, 5, l); err != api.OK {
		t.Fatalf("Put = %d", err)
	}
	clear(l)
	holds(t, "a list that is changed", w, want)
	if err := blocks.Put(w, false, 0, chain(2, 0)); err != api.OK {
		t.Fatalf("Put = %d", err)
	}
	holds(t, "one more block", w, want+rows(t, chain(2, 0)...))
}

// Answers share nothing: to change one, up to its room's end, changes no other.
func TestAnswersAreNew(t *testing.T) {
	for _, intra := range kinds() {
		want := chain(5, 2)
		s := text(t, dcRow(intra, someDc(intra)), rows(t, want...))
		_, a, _ := blocks.Take(inbits.New(s), intra, true)
		_, b, _ := blocks.Take(inbits.New(s), intra, true)
		clear(a[:cap(a)])
		if !slices.Equal(b, want) {
			t.Errorf("an answer became %v, want %v", b, want)
		}
		_ = append(b, api.Event{Level: 99})
		clear(b)
		take(t, "the next answer", inbits.New(s), intra, true, someDc(intra), want, api.OK, len(dcRow(intra, someDc(intra))+rows(t, want...)))
	}
}

// The same calls answer the same, whatever was asked between them.
func TestNothingIsKept(t *testing.T) {
	l := list{{Level: 4}, {Last: true, Run: 9, Level: -1}}
	for range 3 {
		both(t, true, 128, l, "11111111"+rows(t, l...))
		noPut(t, true, 0, l, api.ErrLevel)
		noPut(t, false, 0, l[:1], api.ErrLevel)
		both(t, false, 0, nil, "")
		noTake(t, "00000000", true, true, api.ErrLevel)
		noTake(t, "000000000", false, true, api.ErrCode)
		both(t, false, 0, l, rows(t, l...))
	}
}
