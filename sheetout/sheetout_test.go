package sheetout_test

import (
	"fmt"
	"math"
	"math/rand"
	"reflect"
	"slices"
	"strings"
	"testing"

	"overspill/api"
	"overspill/cellout"
	"overspill/inbits"
	"overspill/outbits"
	"overspill/rowhead"
	"overspill/sheethead"
	"overspill/sheetin"
	"overspill/sheetout"
	"overspill/sound"
)

type vector = [2]int

// grid is how the cells of a format stand: so many rows, of so many lines each, and
// so many cells side by side.
type grid struct {
	rows, lines, across int
}

func gridOf(format int) grid {
	return []grid{{6, 1, 8}, {9, 1, 11}, {18, 1, 22}, {18, 2, 44}, {18, 4, 88}, {2, 1, 2}}[format-1]
}

func (g grid) each() int  { return g.lines * g.across }
func (g grid) count() int { return g.rows * g.each() }

// formats are all of them, the small one first.
func formats() []int {
	return []int{6, 1, 2, 3, 4, 5}
}

// kindsOfSheets are those that are not inter, and those that are.
func kindsOfSheets() []bool {
	return []bool{false, true}
}

func isIntra(c api.Cell) bool {
	return c.Kind == api.Intra || c.Kind == api.IntraQ
}

// some are events, other ones for each n.
func some(n int) []api.Event {
	return [][]api.Event{
		nil,
		{{Last: true, Level: 1}},
		{{Level: -1}, {Last: true, Run: 2, Level: 1}},
		nil,
		{{Last: true, Run: 40, Level: -3}},
		{{Run: 1, Level: 100}, {Level: 2}, {Last: true, Level: -1}},
		{{Last: true, Run: 62, Level: 127}},
	}[n%7]
}

// cell is one of that kind, other ones for each n, without a vector.
func cell(kind, n int) api.Cell {
	c := api.Cell{Kind: kind, Stuff: n / 5 % 3}
	if kind == api.InterQ || kind == api.IntraQ {
		c.Step = []int{-2, -1, 1, 2}[n%4]
	}
	for i := range c.Events {
		if isIntra(c) {
			c.Dc[i] = 1 + (37*i+n)%254
		}
		c.Events[i] = some(i + n)
	}
	return c
}

// skipped is a cell of an inter sheet of which nothing more is told.
func skipped() api.Cell {
	return api.Cell{Skip: true}
}

// by is a cell of which nothing but its vector is told.
func by(x, y int) api.Cell {
	return api.Cell{Mv: vector{x, y}}
}

// flat is an intra cell without events.
func flat() api.Cell {
	return api.Cell{Kind: api.Intra, Dc: [6]int{9, 9, 9, 9, 9, 9}}
}

// blank is a sheet without heads of rows, all of whose cells are as little as they
// may be.
func blank(format int, inter bool) api.Sheet {
	s := api.Sheet{Ref: 5, Format: format, Inter: inter, Quant: 9}
	g := gridOf(format)
	for range g.rows {
		c := flat()
		if inter {
			c = skipped()
		}
		s.Rows = append(s.Rows, api.Row{Cells: slices.Repeat([]api.Cell{c}, g.each())})
	}
	return s
}

// at is the cell of that number.
func at(s api.Sheet, n int) *api.Cell {
	each := gridOf(s.Format).each()
	return &s.Rows[n/each].Cells[n%each]
}

// bounds are the least and the most that a vector may have in one direction, from the
// cell of that number among so many.
func bounds(number, cells int) (int, int) {
	return max(-32, -32*number), min(31, 32*(cells-1-number))
}

// inside is whether a vector leads from cell n to what is all inside.
func inside(format, n int, mv vector) bool {
	g := gridOf(format)
	left, right := bounds(n%g.across, g.across)
	top, bottom := bounds(n/g.across, g.rows*g.lines)
	return left <= mv[0] && mv[0] <= right && top <= mv[1] && mv[1] <= bottom
}

// anyVector is one that leads inside.
func anyVector(chance *rand.Rand, format, n int) vector {
	g := gridOf(format)
	left, right := bounds(n%g.across, g.across)
	top, bottom := bounds(n/g.across, g.rows*g.lines)
	return vector{left + chance.Intn(right-left+1), top + chance.Intn(bottom-top+1)}
}

// anyCell is one that may be cell n of a sheet.
func anyCell(chance *rand.Rand, format, n int, inter bool) api.Cell {
	kind := api.Intra + chance.Intn(2)
	if inter && chance.Intn(4) > 0 {
		kind = chance.Intn(3)
	}
	if kind == api.Four {
		return skipped()
	}
	c := cell(kind, chance.Intn(1000))
	if !isIntra(c) {
		c.Mv = anyVector(chance, format, n)
	}
	return c
}

// anySheet is one that may be, in which about one of so many rows has a head.
func anySheet(chance *rand.Rand, format int, inter bool, apart int) api.Sheet {
	s := api.Sheet{Ref: chance.Intn(256), Flags: chance.Intn(8), Format: format, Inter: inter, Quant: 1 + chance.Intn(31)}
	for range chance.Intn(9) {
		s.Supp = append(s.Supp, chance.Intn(256))
	}
	g := gridOf(format)
	for number := range g.rows {
		var row api.Row
		if number > 0 && chance.Intn(apart) == 0 {
			row = api.Row{Head: true, Id: chance.Intn(4), Quant: 1 + chance.Intn(31)}
		}
		for i := range g.each() {
			row.Cells = append(row.Cells, anyCell(chance, format, number*g.each()+i, inter))
		}
		s.Rows = append(s.Rows, row)
	}
	return s
}

// foretold says by the chapters' words which vector is foretold for the cell behind
// these, in a sheet whose rows have heads as those of s.
func foretold(s api.Sheet, vectors []vector) vector {
	g, n := gridOf(s.Format), len(vectors)
	column, line, first := n%g.across, n/g.across, 0
	for number, row := range s.Rows[:n/g.each()+1] {
		if row.Head {
			first = g.lines * number
		}
	}
	var left, above, right vector
	if column > 0 {
		left = vectors[n-1]
	}
	if line == 0 || line-1 < first {
		return left
	}
	above = vectors[n-g.across]
	if column+1 < g.across {
		right = vectors[n-g.across+1]
	}
	var middle vector
	for i := range middle {
		three := []int{left[i], above[i], right[i]}
		slices.Sort(three)
		middle[i] = three[1]
	}
	return middle
}

// lay is the bits that tell a sheet by chapter 26's words, from a byte's begin on.
func lay(t *testing.T, s api.Sheet) string {
	t.Helper()
	w := outbits.New()
	told(t, "head", sheethead.Put(w, s))
	var vectors []vector
	for number, row := range s.Rows {
		if row.Head {
			told(t, "row's head", rowhead.Put(w, number, row.Id, row.Quant))
		}
		for _, c := range row.Cells {
			told(t, "cell", cellout.Put(w, s.Inter, foretold(s, vectors), c))
			vectors = append(vectors, c.Mv)
		}
	}
	w.Fill()
	return outbits.Show(w.Text()) + strings.Repeat("00000000", s.Zeros)
}

func told(t *testing.T, what string, err api.Errno) {
	t.Helper()
	if err != api.OK {
		t.Fatalf("a %s is not told: %d", what, err)
	}
}

// markRow is the bits of a mark.
func markRow(number int) string {
	return fmt.Sprintf("%016b1%05b", 0, number)
}

// fill is noughts up to a byte's end behind so many bits.
func fill(bits int) string {
	return strings.Repeat("0", (8-bits%8)%8)
}

// plain has nil for each list that is empty, and lists of its own.
func plain(s api.Sheet) api.Sheet {
	s.Supp, s.Rows = append([]int(nil), s.Supp...), append([]api.Row(nil), s.Rows...)
	for i := range s.Rows {
		s.Rows[i].Cells = append([]api.Cell(nil), s.Rows[i].Cells...)
		for j := range s.Rows[i].Cells {
			for k, l := range s.Rows[i].Cells[j].Events {
				s.Rows[i].Cells[j].Events[k] = append([]api.Event(nil), l...)
			}
		}
	}
	return s
}

// equal asks field by field; nil and empty lists are the same.
func equal(a, b api.Sheet) bool {
	return reflect.DeepEqual(plain(a), plain(b))
}

// shown is all bits of a writer, and none more than it says it has.
func shown(t *testing.T, w *outbits.Writer) string {
	t.Helper()
	bits := outbits.Show(w.Text())
	if len(bits) != w.Len()+len(fill(w.Len())) || strings.Contains(bits[w.Len():], "1") {
		t.Fatalf("a writer of %d bits has the text %s", w.Len(), bits)
	}
	return bits[:w.Len()]
}

// writer has these bits.
func writer(t *testing.T, bits string) *outbits.Writer {
	t.Helper()
	w := outbits.New()
	told(t, "row", w.Add(bits))
	return w
}

// puts asks for a sheet behind these bits, and how many bits it is told in.
func puts(t *testing.T, what, ahead string, s api.Sheet, bits string) {
	t.Helper()
	kept := plain(s)
	w := writer(t, ahead)
	if err := sheetout.Put(w, s); err != api.OK {
		t.Fatalf("%s behind %d bits: Put = %d", what, len(ahead), err)
	}
	if got := shown(t, w); got != ahead+fill(len(ahead))+bits {
		t.Fatalf("%s behind %d bits: there stands\n%s, want\n%s behind them", what, len(ahead), got, bits)
	}
	if !equal(s, kept) {
		t.Fatalf("%s: Put changed the sheet", what)
	}
}

// counts asks how many bits a sheet is told in.
func counts(t *testing.T, what string, s api.Sheet, bits int, wrong api.Errno) {
	t.Helper()
	kept := plain(s)
	if got, err := sheetout.Bits(s); got != bits || err != wrong || bits%8 != 0 {
		t.Fatalf("%s: Bits = %d, %d, want %d, %d", what, got, err, bits, wrong)
	}
	if !equal(s, kept) {
		t.Fatalf("%s: Bits changed the sheet", what)
	}
}

// wrote asks for a sheet that may be, by the chapters' words, and reads it again ahead
// of marks and at the text's end.
func wrote(t *testing.T, what string, s api.Sheet) {
	t.Helper()
	bits := lay(t, s)
	puts(t, what, "", s, bits)
	counts(t, what, s, len(bits), api.OK)
	for _, number := range []int{0, 1, 17, 31, -1} {
		ahead := "10110100"
		w := writer(t, ahead)
		told(t, what, sheetout.Put(w, s))
		end := w.Len()
		if number >= 0 {
			w.Put(1<<5|number, 22)
		}
		r := inbits.New(w.Text())
		r.Seek(8)
		got, err := sheetin.Take(r)
		if err != api.OK || !sound.Same(got, s) || !equal(got, s) || r.At() != end {
			t.Fatalf("%s, ahead of mark %d: it is read as %v, %d, up to bit %d of %d", what, number, got.Zeros, err, r.At(), end)
		}
	}
}

// refused asks for a sheet that may not be: nothing is written behind any bits.
func refused(t *testing.T, what string, s api.Sheet, wrong api.Errno) {
	t.Helper()
	kept := plain(s)
	for _, ahead := range []string{"", "1", "0000000", "11111111", "101101011", strings.Repeat("01", 1024), strings.Repeat("1", 2047)} {
		w := writer(t, ahead)
		for range 2 {
			if err := sheetout.Put(w, s); err != wrong {
				t.Fatalf("%s: Put = %d, want %d", what, err, wrong)
			}
			if got := shown(t, w); got != ahead {
				t.Fatalf("%s: Put left the bits %s behind %s", what, got, ahead)
			}
		}
	}
	counts(t, what, s, 0, wrong)
	if err := sheetout.Put(nil, s); err != api.ErrArg {
		t.Fatalf("%s: Put(nil, ..) = %d", what, err)
	}
	if !equal(s, kept) {
		t.Fatalf("%s: the sheet was changed", what)
	}
}

func TestExample(t *testing.T) {
	s := blank(6, true)
	counts(t, "four skipped cells", s, 56, api.OK)
	head := markRow(0) + "00000101" + "10" + "000" + "110" + "1" + "0000" + "01001" + "0" + "0"
	puts(t, "four skipped cells", "", s, head+"1111"+"00")
}

// Some sheets, as they stand on paper.
func TestOnPaper(t *testing.T) {
	head := markRow(0) + "00000101" + "10" + "000" + "110" + "1" + "0000" + "01001" + "0" + "0"
	s := blank(6, true)
	s.Rows[1].Head, s.Rows[1].Id, s.Rows[1].Quant = true, 1, 9
	bits := head + "11" + "0000" + markRow(1) + "01" + "01001" + "11" + "0"
	puts(t, "a row's head", "", s, bits)
	counts(t, "a row's head", s, 88, api.OK)

	head = markRow(0) + "11111111" + "10" + "101" + "110" + "0" + "0000" + "11111" + "0" + "1" + "00000111" + "0"
	dcs := strings.Repeat("00001001", 6)
	s = blank(6, false)
	s.Ref, s.Flags, s.Quant, s.Supp, s.Zeros = 255, 5, 31, []int{7}, 2
	bits = head + strings.Repeat("1"+"0011"+dcs, 4) + "0" + "0000000000000000"
	puts(t, "four intra cells", "", s, bits)
	counts(t, "four intra cells", s, 288, api.OK)
	puts(t, "four intra cells", "1", s, bits)
}

// A row's head puts the lines above it outside: the last cell is foretold by the one to
// its left then, or else by the middle one of that, the one above, and none.
func TestForetoldOnPaper(t *testing.T) {
	head := markRow(0) + "00000101" + "10" + "000" + "110" + "1" + "0000" + "01001" + "0" + "0"
	begin := "0" + "1" + "11"
	upper := begin + "00001010" + "010" + begin + "00001011" + "011" // 5 1, and from there -5 -1
	lower := begin + "00001010" + "011" + begin + "00001011" + "1"   // 5 -1, and by -5 0
	s := blank(6, true)
	s.Rows[0].Cells = []api.Cell{by(5, 1), by(0, 0)}
	s.Rows[1].Cells = []api.Cell{by(5, -1), by(-5, 0)}
	bits := head + upper + lower
	puts(t, "no head", "", s, bits+fill(len(bits)))

	s.Rows[1] = api.Row{Head: true, Quant: 9, Cells: []api.Cell{by(5, -1), by(0, -1)}}
	bits = head + upper
	bits += fill(len(bits)) + markRow(1) + "00" + "01001" + lower
	puts(t, "a head", "", s, bits+fill(len(bits)))
}

// Sheets of all formats, of all kinds of cells, with heads at all rows, at some, and at
// none.
func TestSheets(t *testing.T) {
	chance := rand.New(rand.NewSource(27))
	for _, format := range formats() {
		times := max(1, 300/gridOf(format).count())
		for _, inter := range kindsOfSheets() {
			wrote(t, "blank", blank(format, inter))
			for _, apart := range []int{1, 2, 3, 6, 1000000} {
				if format == 5 && apart != 3 {
					continue
				}
				for range times {
					s := anySheet(chance, format, inter, apart)
					s.Zeros = chance.Intn(4)
					wrote(t, "any sheet", s)
				}
			}
		}
	}
}

// One row alone has a head, each in turn: from it on the lines above it are outside,
// in its own lines, and in those of all rows behind it.
func TestEachRowsHead(t *testing.T) {
	chance := rand.New(rand.NewSource(3))
	for _, format := range formats() {
		g := gridOf(format)
		for number := 1; number < g.rows; number++ {
			if format == 5 && number%8 != 1 {
				continue
			}
			s := blank(format, true)
			s.Rows[number].Head, s.Rows[number].Id, s.Rows[number].Quant = true, number%4, number
			for n := range g.count() {
				*at(s, n) = by(0, 0)
				at(s, n).Mv = anyVector(chance, format, n)
			}
			puts(t, fmt.Sprint("format ", format, ", row ", number), "", s, lay(t, s))
		}
	}
}

// Each id and quantiser of a row's head, behind cells that end at each bit of a byte.
func TestRowHeads(t *testing.T) {
	for id := range 4 {
		for quant := 1; quant <= 31; quant++ {
			for stuff := range 8 {
				s := blank(6, true)
				at(s, 0).Stuff = stuff
				s.Rows[1].Head, s.Rows[1].Id, s.Rows[1].Quant = true, id, quant
				wrote(t, "a row's head", s)
			}
		}
	}
}

// Cells that are skipped or intra count as having no vector; those around them are
// foretold by that.
func TestCellsWithoutVectors(t *testing.T) {
	for _, c := range []api.Cell{skipped(), flat(), cell(api.IntraQ, 3), {Stuff: 2, Skip: true}} {
		s := blank(1, true)
		for n := range 48 {
			*at(s, n) = c
			if n%3 == 0 {
				*at(s, n) = by(31*min(1, 7-n%8), 31*min(1, 5-n/8))
			}
		}
		wrote(t, "no vectors", s)
	}
}

// All vectors of each cell of the smallest format, of both kinds that have one.
func TestAllVectors(t *testing.T) {
	s := blank(6, true)
	for n := range 4 {
		for x := -32; x <= 31; x++ {
			for y := -32; y <= 31; y++ {
				*at(s, n) = api.Cell{Kind: api.InterQ, Step: 1, Mv: vector{x, y}}
				if (x+y)%2 == 0 {
					*at(s, n) = by(x, y)
				}
				if inside(6, n, vector{x, y}) {
					bits := lay(t, s)
					puts(t, "inside", "", s, bits)
					counts(t, "inside", s, len(bits), api.OK)
				} else {
					w := writer(t, "1")
					if err := sheetout.Put(w, s); err != api.ErrVector || w.Len() != 1 {
						t.Fatalf("cell %d by %d %d: Put = %d, %d bits", n, x, y, err, w.Len())
					}
					counts(t, "outside", s, 0, api.ErrVector)
				}
			}
		}
		*at(s, n) = skipped()
	}
}

// Behind any bits a sheet begins at the next byte's begin, and is told the same.
func TestBehindBits(t *testing.T) {
	chance := rand.New(rand.NewSource(4))
	for _, inter := range kindsOfSheets() {
		s := anySheet(chance, 6, inter, 1)
		s.Zeros = 2
		bits := lay(t, s)
		for ahead := range 40 {
			puts(t, "any sheet", strings.Repeat("1", ahead), s, bits)
		}
		for _, ahead := range []int{2040, 2047, 2048, 2049, 4095, 4096, 10001} {
			puts(t, "any sheet", strings.Repeat("011", ahead)[:ahead], s, bits)
		}
	}
}

// Sheets stand one behind the other, and each as if none was ahead of it.
func TestSheetBehindSheet(t *testing.T) {
	chance := rand.New(rand.NewSource(5))
	for _, w := range []*outbits.Writer{outbits.New(), {}, new(outbits.Writer)} {
		want := ""
		var l []api.Sheet
		for n := range 30 {
			s := anySheet(chance, []int{6, 1, 2}[n%3], n%4 > 0, 3)
			s.Zeros = []int{0, 0, 1, 2, 3, 10}[n%6]
			l, want = append(l, s), want+lay(t, s)
			if err := sheetout.Put(w, s); err != api.OK {
				t.Fatalf("sheet %d: Put = %d", n, err)
			}
			bad := s
			bad.Zeros = -1
			if err := sheetout.Put(w, bad); err != api.ErrTree {
				t.Fatalf("behind sheet %d: Put = %d", n, err)
			}
		}
		if shown(t, w) != want {
			t.Fatal("sheets one behind the other are told otherwise than one by one")
		}
		r := inbits.New(w.Text())
		for n, s := range l {
			if got, err := sheetin.Take(r); err != api.OK || !equal(got, s) {
				t.Fatalf("sheet %d is read as another one, %d", n, err)
			}
		}
	}
}

// What is written is the same each time.
func TestPutTwice(t *testing.T) {
	s := anySheet(rand.New(rand.NewSource(8)), 2, true, 2)
	bits := lay(t, s)
	w := outbits.New()
	for n := range 3 {
		told(t, "sheet", sheetout.Put(w, s))
		if got := shown(t, w); got != strings.Repeat(bits, n+1) {
			t.Fatalf("told %d times it is another one", n+1)
		}
		counts(t, "the same", s, len(bits), api.OK)
	}
}

// So many bytes 0 as a sheet has, up to the most that it may have.
func TestZeros(t *testing.T) {
	for _, inter := range kindsOfSheets() {
		s := blank(6, inter)
		bits := lay(t, s)
		for _, zeros := range []int{0, 1, 2, 3, 255, 256, 257, 65536, 262143, 262144} {
			s.Zeros = zeros
			puts(t, fmt.Sprint(zeros, " bytes 0"), "101", s, bits+strings.Repeat("00000000", zeros))
			counts(t, fmt.Sprint(zeros, " bytes 0"), s, len(bits)+8*zeros, api.OK)
		}
		for _, zeros := range []int{-1, -8, 262145, 1 << 31, 1 << 32, math.MinInt, math.MaxInt} {
			s.Zeros = zeros
			refused(t, fmt.Sprint(zeros, " bytes 0"), s, api.ErrTree)
		}
	}
	wrote(t, "the most bytes 0", func() api.Sheet { s := blank(6, true); s.Zeros = 262144; return s }())
}

// faults are changes by which no sheet may be.
func faults() []func(s *api.Sheet) {
	last := func(s *api.Sheet) *api.Row { return &s.Rows[len(s.Rows)-1] }
	end := func(s *api.Sheet) *api.Cell { return &last(s).Cells[len(last(s).Cells)-1] }
	return []func(s *api.Sheet){
		func(s *api.Sheet) { s.Ref = 256 },
		func(s *api.Sheet) { s.Ref = -1 },
		func(s *api.Sheet) { s.Flags = 8 },
		func(s *api.Sheet) { s.Format = 0 },
		func(s *api.Sheet) { s.Format = 7 },
		func(s *api.Sheet) { s.Format = math.MaxInt },
		func(s *api.Sheet) { s.Format = 1 + s.Format%6 },
		func(s *api.Sheet) { s.Quant = 0 },
		func(s *api.Sheet) { s.Quant = 32 },
		func(s *api.Sheet) { s.Supp = []int{256} },
		func(s *api.Sheet) { s.Supp = make([]int, 9) },
		func(s *api.Sheet) { s.Zeros = -1 },
		func(s *api.Sheet) { s.Rows = nil },
		func(s *api.Sheet) { s.Rows = s.Rows[1:] },
		func(s *api.Sheet) { s.Rows = append(s.Rows, s.Rows[0]) },
		func(s *api.Sheet) { s.Rows[0].Head, s.Rows[0].Quant = true, 1 },
		func(s *api.Sheet) { s.Rows[0].Id = 1 },
		func(s *api.Sheet) { last(s).Head, last(s).Id, last(s).Quant = true, 4, 1 },
		func(s *api.Sheet) { last(s).Head, last(s).Id, last(s).Quant = true, 1, 0 },
		func(s *api.Sheet) { last(s).Head, last(s).Id, last(s).Quant = false, 1, 0 },
		func(s *api.Sheet) { last(s).Head, last(s).Id, last(s).Quant = false, 0, 9 },
		func(s *api.Sheet) { last(s).Cells = last(s).Cells[1:] },
		func(s *api.Sheet) { last(s).Cells = append(last(s).Cells, flat()) },
		func(s *api.Sheet) { *end(s) = api.Cell{Kind: api.Four} },
		func(s *api.Sheet) { *end(s) = flat(); end(s).Dc[5] = 255 },
		func(s *api.Sheet) { *end(s) = flat(); end(s).Events[5] = []api.Event{{Level: 1}} },
		func(s *api.Sheet) { *end(s) = flat(); end(s).Mv[1] = -1 },
		func(s *api.Sheet) { *end(s) = flat(); end(s).Stuff = 65 },
		func(s *api.Sheet) { *end(s) = api.Cell{Skip: true, Step: 1} },
		func(s *api.Sheet) { *end(s) = by(32, 0) },
	}
}

// P27.1, wrong sheets: of each nothing is written, be its last cell the wrong one.
func TestWrongSheets(t *testing.T) {
	chance := rand.New(rand.NewSource(2))
	for _, format := range []int{6, 1} {
		for _, inter := range kindsOfSheets() {
			for n, fault := range faults() {
				s := anySheet(chance, format, inter, 2)
				fault(&s)
				refused(t, fmt.Sprint("fault ", n), s, api.ErrTree)
				// A vector that leads outside is told behind all else.
				if inter && len(s.Rows) > 0 && len(s.Rows[0].Cells) > 0 {
					s.Rows[0].Cells[0] = by(-1, -1)
					refused(t, fmt.Sprint("fault ", n, " and a vector"), s, api.ErrTree)
				}
			}
		}
	}
	for _, c := range []api.Cell{skipped(), by(0, 0), cell(api.InterQ, 1)} {
		s := blank(1, false)
		*at(s, 47) = c
		refused(t, "a cell of an inter sheet in another one", s, api.ErrTree)
	}
}

// P27.1, vectors that lead outside, of each cell that is at an edge.
func TestWrongVectors(t *testing.T) {
	for _, format := range []int{6, 1, 2} {
		s := blank(format, true)
		for n := range gridOf(format).count() {
			for _, mv := range []vector{{-1, 0}, {1, 0}, {0, -1}, {0, 1}} {
				*at(s, n) = by(mv[0], mv[1])
				if inside(format, n, mv) {
					puts(t, "inside", "", s, lay(t, s))
				} else {
					refused(t, "outside", s, api.ErrVector)
				}
			}
			*at(s, n) = skipped()
		}
	}
}

// Sheets that no call made, and writers that none made.
func TestAnything(t *testing.T) {
	for _, s := range []api.Sheet{
		{}, {Format: 6, Quant: 1}, {Format: 6, Quant: 1, Rows: make([]api.Row, 2)}, {Format: math.MinInt, Quant: 1},
		{Format: 6, Quant: 1, Rows: []api.Row{{Cells: make([]api.Cell, 2)}, {Cells: make([]api.Cell, 2)}}},
		{Format: 6, Quant: 1, Inter: true, Rows: make([]api.Row, 100000)}, {Rows: []api.Row{{Cells: make([]api.Cell, 4)}}},
	} {
		refused(t, "anything", s, api.ErrTree)
	}
	s := api.Sheet{Format: 6, Quant: 1, Inter: true, Rows: []api.Row{{Cells: make([]api.Cell, 2)}, {Cells: make([]api.Cell, 2)}}}
	wrote(t, "cells of nothing", s)
	var w outbits.Writer
	if err := sheetout.Put(&w, s); err != api.OK || shown(t, &w) != lay(t, s) {
		t.Fatalf("a zero writer: Put = %d, %s", err, shown(t, &w))
	}
	for _, inter := range kindsOfSheets() {
		if err := sheetout.Put(nil, blank(1, inter)); err != api.ErrArg {
			t.Fatalf("Put(nil, ..) = %d", err)
		}
	}
}

// changed is a sheet one part of which is another one.
func changed(chance *rand.Rand, s api.Sheet) api.Sheet {
	numbers := []int{math.MinInt, -256, -33, -32, -2, -1, 0, 1, 2, 3, 4, 5, 8, 31, 32, 64, 65, 128, 255, 256, math.MaxInt}
	any := numbers[chance.Intn(len(numbers))]
	row := &s.Rows[chance.Intn(len(s.Rows))]
	c := &row.Cells[chance.Intn(len(row.Cells))]
	switch chance.Intn(14) {
	case 0:
		s.Ref = any
	case 1:
		s.Quant = any
	case 2:
		s.Zeros = any
	case 3:
		s.Inter = !s.Inter
	case 4:
		row.Head = !row.Head
	case 5:
		row.Quant = any
	case 6:
		c.Stuff = any
	case 7:
		c.Kind = any
	case 8:
		c.Step = any
	case 9, 10:
		c.Mv[chance.Intn(2)] = any
	case 11:
		c.Dc[chance.Intn(6)] = any
	case 12:
		c.Events[chance.Intn(6)] = some(chance.Intn(7))
	case 13:
		l := &c.Events[chance.Intn(6)]
		*l = append(slices.Clone(*l), api.Event{Last: chance.Intn(2) == 0, Run: any, Level: 3})
	}
	return s
}

// Sheets some of whose parts are other ones: what Check tells of them is told, or they
// are written as the chapter says.
func TestAnyChanges(t *testing.T) {
	chance := rand.New(rand.NewSource(9))
	met := map[api.Errno]int{}
	for n := range 8000 {
		s := anySheet(chance, []int{6, 6, 6, 1}[n%4], n%3 > 0, 2)
		if s.Inter && n%5 == 0 {
			*at(s, chance.Intn(4)) = by(chance.Intn(5)-2, chance.Intn(5)-2)
		}
		for range chance.Intn(3) {
			s = changed(chance, s)
		}
		want := sound.Check(s)
		met[want]++
		if want == api.OK {
			bits := lay(t, s)
			puts(t, "changed", "1101", s, bits)
			counts(t, "changed", s, len(bits), api.OK)
			continue
		}
		w := writer(t, "1101")
		if err := sheetout.Put(w, s); err != want || shown(t, w) != "1101" {
			t.Fatalf("changed: Put = %d, %d bits, want %d", err, w.Len(), want)
		}
		counts(t, "changed", s, 0, want)
	}
	for _, err := range []api.Errno{api.OK, api.ErrTree, api.ErrVector} {
		if met[err] < 100 {
			t.Errorf("error %d was met %d times", err, met[err])
		}
	}
}

// The room behind the lists of a sheet stays as it was, and what was written does not
// hang on the sheet any more.
func TestRoomStays(t *testing.T) {
	s := anySheet(rand.New(rand.NewSource(12)), 6, true, 1)
	s.Supp = []int{1, 2}
	bits := lay(t, s)
	s.Supp = append(slices.Grow(s.Supp, 9), 77)[:len(s.Supp)]
	s.Rows = append(slices.Grow(s.Rows, 9), api.Row{Id: 77})[:len(s.Rows)]
	for i := range s.Rows {
		cells := s.Rows[i].Cells
		for j := range cells {
			for k, l := range cells[j].Events {
				cells[j].Events[k] = append(slices.Grow(l, 9), api.Event{Run: 77})[:len(l)]
			}
		}
		s.Rows[i].Cells = append(slices.Grow(cells, 9), api.Cell{Stuff: 77})[:len(cells)]
	}
	w := outbits.New()
	told(t, "sheet", sheetout.Put(w, s))
	counts(t, "room", s, len(bits), api.OK)
	stays := s.Supp[:3][2] == 77 && s.Rows[:3][2].Id == 77
	for _, row := range s.Rows {
		stays = stays && row.Cells[:3][2].Stuff == 77
		for _, c := range row.Cells {
			for _, l := range c.Events {
				stays = stays && l[:len(l)+1][len(l)].Run == 77
				clear(l)
			}
		}
		clear(row.Cells)
	}
	if !stays {
		t.Fatal("the room behind a list was written to")
	}
	if shown(t, w) != bits {
		t.Fatal("what was written hangs on the sheet")
	}
}
