package sheetin_test

import (
	"fmt"
	"math/rand"
	"reflect"
	"slices"
	"strings"
	"testing"

	"overspill/api"
	"overspill/cellin"
	"overspill/cellout"
	"overspill/inbits"
	"overspill/outbits"
	"overspill/rowhead"
	"overspill/sheethead"
	"overspill/sheetin"
	"overspill/sound"
)

type vector = [2]int

// grid is how the cells of a format stand: so many rows, of so many lines each, and
// so many cells side by side.
type grid struct {
	rows, lines, across int
}

func gridOf(format int) grid {
	return []grid{{6, 1, 8}, {9, 1, 11}, {18, 1, 22}, {18, 2, 44}, {18, 4, 88}, {2, 1, 2}}[format-1]
}

func (g grid) each() int  { return g.lines * g.across }
func (g grid) count() int { return g.rows * g.each() }

// formats are all of them, the small one first.
func formats() []int {
	return []int{6, 1, 2, 3, 4, 5}
}

// kindsOfSheets are those that are not inter, and those that are.
func kindsOfSheets() []bool {
	return []bool{false, true}
}

func isIntra(c api.Cell) bool {
	return c.Kind == api.Intra || c.Kind == api.IntraQ
}

// some are events, other ones for each n.
func some(n int) []api.Event {
	return [][]api.Event{
		nil,
		{{Last: true, Level: 1}},
		{{Level: -1}, {Last: true, Run: 2, Level: 1}},
		nil,
		{{Last: true, Run: 40, Level: -3}},
		{{Run: 1, Level: 100}, {Level: 2}, {Last: true, Level: -1}},
		{{Last: true, Run: 62, Level: 127}},
	}[n%7]
}

// cell is one of that kind, other ones for each n, without a vector.
func cell(kind, n int) api.Cell {
	c := api.Cell{Kind: kind, Stuff: n / 5 % 3}
	if kind == api.InterQ || kind == api.IntraQ {
		c.Step = []int{-2, -1, 1, 2}[n%4]
	}
	for i := range c.Events {
		if isIntra(c) {
			c.Dc[i] = 1 + (37*i+n)%254
		}
		c.Events[i] = some(i + n)
	}
	return c
}

// skipped is a cell of an inter sheet of which nothing more is told.
func skipped() api.Cell {
	return api.Cell{Skip: true}
}

// by is a cell of which nothing but its vector is told.
func by(x, y int) api.Cell {
	return api.Cell{Mv: vector{x, y}}
}

// flat is an intra cell without events.
func flat() api.Cell {
	return api.Cell{Kind: api.Intra, Dc: [6]int{9, 9, 9, 9, 9, 9}}
}

// blank is a sheet without heads of rows, all of whose cells are as little as they
// may be.
func blank(format int, inter bool) api.Sheet {
	s := api.Sheet{Ref: 5, Format: format, Inter: inter, Quant: 9}
	g := gridOf(format)
	for range g.rows {
		c := flat()
		if inter {
			c = skipped()
		}
		s.Rows = append(s.Rows, api.Row{Cells: slices.Repeat([]api.Cell{c}, g.each())})
	}
	return s
}

// at is the cell of that number.
func at(s api.Sheet, n int) *api.Cell {
	each := gridOf(s.Format).each()
	return &s.Rows[n/each].Cells[n%each]
}

// bounds are the least and the most that a vector may have in one direction, from the
// cell of that number among so many.
func bounds(number, cells int) (int, int) {
	return max(-32, -32*number), min(31, 32*(cells-1-number))
}

// inside is whether a vector leads from cell n to what is all inside.
func inside(format, n int, mv vector) bool {
	g := gridOf(format)
	left, right := bounds(n%g.across, g.across)
	top, bottom := bounds(n/g.across, g.rows*g.lines)
	return left <= mv[0] && mv[0] <= right && top <= mv[1] && mv[1] <= bottom
}

// anyVector is one that leads inside.
func anyVector(chance *rand.Rand, format, n int) vector {
	g := gridOf(format)
	left, right := bounds(n%g.across, g.across)
	top, bottom := bounds(n/g.across, g.rows*g.lines)
	return vector{left + chance.Intn(right-left+1), top + chance.Intn(bottom-top+1)}
}

// anyCell is one that may be cell n of a sheet.
func anyCell(chance *rand.Rand, format, n int, inter bool) api.Cell {
	kind := api.Intra + chance.Intn(2)
	if inter && chance.Intn(4) > 0 {
		kind = chance.Intn(3)
	}
	if kind == api.Four {
		return skipped()
	}
	c := cell(kind, chance.Intn(1000))
	if !isIntra(c) {
		c.Mv = anyVector(chance, format, n)
	}
	return c
}

// anySheet is one that may be, in which about one of so many rows has a head.
func anySheet(chance *rand.Rand, format int, inter bool, apart int) api.Sheet {
	s := api.Sheet{Ref: chance.Intn(256), Flags: chance.Intn(8), Format: format, Inter: inter, Quant: 1 + chance.Intn(31)}
	for range chance.Intn(9) {
		s.Supp = append(s.Supp, chance.Intn(256))
	}
	g := gridOf(format)
	for number := range g.rows {
		var row api.Row
		if number > 0 && chance.Intn(apart) == 0 {
			row = api.Row{Head: true, Id: chance.Intn(4), Quant: 1 + chance.Intn(31)}
		}
		for i := range g.each() {
			row.Cells = append(row.Cells, anyCell(chance, format, number*g.each()+i, inter))
		}
		s.Rows = append(s.Rows, row)
	}
	return s
}

// foretold says by the chapters' words which vector is foretold for the cell behind
// these, in a sheet whose rows have heads as those of s.
func foretold(s api.Sheet, vectors []vector) vector {
	g, n := gridOf(s.Format), len(vectors)
	column, line, first := n%g.across, n/g.across, 0
	for number, row := range s.Rows[:n/g.each()+1] {
		if row.Head {
			first = g.lines * number
		}
	}
	var left, above, right vector
	if column > 0 {
		left = vectors[n-1]
	}
	if line == 0 || line-1 < first {
		return left
	}
	above = vectors[n-g.across]
	if column+1 < g.across {
		right = vectors[n-g.across+1]
	}
	var middle vector
	for i := range middle {
		three := []int{left[i], above[i], right[i]}
		slices.Sort(three)
		middle[i] = three[1]
	}
	return middle
}

// layout is the bits that tell a sheet, and where its parts begin there: its rows,
// with the noughts ahead of their heads, its cells, and what is behind the last one.
type layout struct {
	bits        string
	rows, cells []int
	end         int
}

// lay says by the chapter's words what a sheet is told as.
func lay(t *testing.T, s api.Sheet) layout {
	t.Helper()
	w := outbits.New()
	told(t, "head", sheethead.Put(w, s))
	var l layout
	var vectors []vector
	for number, row := range s.Rows {
		l.rows = append(l.rows, w.Len())
		if row.Head {
			told(t, "row's head", rowhead.Put(w, number, row.Id, row.Quant))
		}
		for _, c := range row.Cells {
			l.cells = append(l.cells, w.Len())
			told(t, "cell", cellout.Put(w, s.Inter, foretold(s, vectors), c))
			vectors = append(vectors, c.Mv)
		}
	}
	l.end = w.Len()
	w.Fill()
	l.bits = outbits.Show(w.Text()) + strings.Repeat("00000000", s.Zeros)
	return l
}

func told(t *testing.T, what string, err api.Errno) {
	t.Helper()
	if err != api.OK {
		t.Fatalf("a %s is not told: %d", what, err)
	}
}

// pack is the bytes of rows, one behind the other.
func pack(t *testing.T, rows ...string) string {
	t.Helper()
	s, err := outbits.Pack(strings.Join(rows, ""))
	told(t, "row", err)
	return s
}

// markRow is the bits of a mark.
func markRow(number int) string {
	return fmt.Sprintf("%016b1%05b", 0, number)
}

// fill is noughts up to a byte's end behind so many bits.
func fill(bits int) string {
	return strings.Repeat("0", (8-bits%8)%8)
}

// reader stands at that bit of s.
func reader(t *testing.T, s string, at int) *inbits.Reader {
	t.Helper()
	r := inbits.New(s)
	told(t, "place", r.Seek(at))
	return r
}

// plain has nil for each list that is empty, and lists of its own.
func plain(s api.Sheet) api.Sheet {
	s.Supp, s.Rows = append([]int(nil), s.Supp...), append([]api.Row(nil), s.Rows...)
	for i := range s.Rows {
		s.Rows[i].Cells = append([]api.Cell(nil), s.Rows[i].Cells...)
		for j := range s.Rows[i].Cells {
			for k, l := range s.Rows[i].Cells[j].Events {
				s.Rows[i].Cells[j].Events[k] = append([]api.Event(nil), l...)
			}
		}
	}
	return s
}

// equal asks field by field; nil and empty lists are the same.
func equal(a, b api.Sheet) bool {
	return reflect.DeepEqual(plain(a), plain(b))
}

// brief is a sheet as it is told of in a failed test: not all of its cells.
func brief(s api.Sheet) string {
	told := fmt.Sprint(s)
	return told[:min(len(told), 600)]
}

// take asks for one sheet, and how far the reader goes.
func take(t *testing.T, what string, r *inbits.Reader, want api.Sheet, wrong api.Errno, far int) api.Sheet {
	t.Helper()
	s, at := r.Text(), r.At()
	got, err := sheetin.Take(r)
	if !equal(got, want) || err != wrong {
		t.Fatalf("%s: Take = %s, %d, want %s, %d", what, brief(got), err, brief(want), wrong)
	}
	if wrong != api.OK && (got.Supp != nil || got.Rows != nil) {
		t.Fatalf("%s: Take has lists beside the error %d", what, err)
	}
	if r.Text() != s || r.At() != at+far || r.Left() != 8*len(s)-at-far {
		t.Fatalf("%s: Take went from %d to %d, with %d bits left, want %d", what, at, r.At(), r.Left(), at+far)
	}
	return got
}

// took asks for a sheet behind some bytes, ahead of a mark and at the text's end, and
// whether it may be.
func took(t *testing.T, what string, s api.Sheet) {
	t.Helper()
	bits := lay(t, s).bits
	for ahead, behind := range map[string]string{
		"": "", "\x00": markRow(0), "\x00\x00\x80\x01\xff": markRow(3) + "1", "\xff\x00\x00": markRow(31),
	} {
		r := reader(t, ahead+pack(t, bits, behind), 8*len(ahead))
		got := take(t, what, r, s, api.OK, len(bits))
		if err := sound.Check(got); err != api.OK {
			t.Fatalf("%s: Check of what was read: %d", what, err)
		}
	}
}

// refused asks twice for a sheet of these bits, that are wrong, behind some bytes,
// whatever stands behind them.
func refused(t *testing.T, what, bits string, wrong api.Errno) {
	t.Helper()
	for _, ahead := range []string{"", "\x5a\x00"} {
		for _, behind := range []string{"", "1", "00000000", "11111111111111111111", fill(len(bits)) + markRow(0)} {
			if wrong == api.ErrShort {
				behind = ""
			}
			r := reader(t, ahead+pack(t, bits, behind), 8*len(ahead))
			take(t, what, r, api.Sheet{}, wrong, 0)
			take(t, what+", again", r, api.Sheet{}, wrong, 0)
		}
	}
}

// words reads a sheet at that bit by the chapter's words: the sheet, the error, and
// how far it goes.
func words(t *testing.T, text string, at int) (api.Sheet, api.Errno, int) {
	t.Helper()
	bits, r := outbits.Show(text), reader(t, text, at)
	s, err := sheethead.Take(r)
	if err != api.OK {
		return api.Sheet{}, err, 0
	}
	g := gridOf(s.Format)
	s.Rows = make([]api.Row, g.rows)
	var vectors []vector
	for number := range s.Rows {
		row := &s.Rows[number]
		if number > 0 && isRowMark(bits[r.At():], r.At()) {
			row.Head = true
			if row.Id, row.Quant, err = rowhead.Take(r, number); err != api.OK {
				return api.Sheet{}, err, 0
			}
		}
		for range g.each() {
			c, err := cellin.Take(r, s.Inter, foretold(s, vectors))
			if err != api.OK {
				return api.Sheet{}, err, 0
			}
			if !isIntra(c) && !inside(s.Format, len(vectors), c.Mv) {
				return api.Sheet{}, api.ErrVector, 0
			}
			row.Cells, vectors = append(row.Cells, c), append(vectors, c.Mv)
		}
	}
	rest, is := strings.CutPrefix(bits[r.At():], fill(r.At()))
	if !is {
		return api.Sheet{}, api.ErrForm, 0
	}
	s.Zeros = zeros(rest)
	return s, api.OK, len(bits) - len(rest) + 8*s.Zeros - at
}

// isRowMark is whether noughts up to a byte's end and a row's mark stand there, behind
// so many bits.
func isRowMark(rest string, bits int) bool {
	mark, is := strings.CutPrefix(rest, fill(bits)+"00000000000000001")
	return is && len(mark) >= 5 && mark[:5] != "00000" && mark[:5] != "11111"
}

// zeros is how many bytes 0 stand there, at a byte's begin, ahead of a mark or the
// end, byte by byte.
func zeros(rest string) int {
	for n := 0; ; n++ {
		switch {
		case rest == "", strings.HasPrefix(rest, "00000000000000001"):
			return n
		case !strings.HasPrefix(rest, "00000000"):
			return 0
		}
		rest = rest[8:]
	}
}

// asWords holds a Take against the chapter's words.
func asWords(t *testing.T, what, text string, at int) api.Errno {
	t.Helper()
	want, wrong, far := words(t, text, at)
	got := take(t, what, reader(t, text, at), want, wrong, far)
	if wrong == api.OK && sound.Check(got) != api.OK {
		t.Fatalf("%s: Check of what was read: %d", what, sound.Check(got))
	}
	return wrong
}

func TestExample(t *testing.T) {
	for _, inter := range kindsOfSheets() {
		bits := lay(t, blank(6, inter)).bits
		for behind, want := range map[string]int{"": 2, "\x00\x00\x80": 2, "\xff": 0} {
			s := blank(6, inter)
			s.Zeros = want
			take(t, "example", inbits.New(pack(t, bits)+"\x00\x00"+behind), s, api.OK, len(bits)+8*want)
		}
	}
}

// Some sheets, as they stand on paper.
func TestOnPaper(t *testing.T) {
	head := markRow(0) + "00000101" + "10" + "000" + "110" + "1" + "0000" + "01001" + "0" + "0"
	if len(head) != 50 {
		t.Fatalf("a head has %d bits", len(head))
	}
	s := blank(6, true)
	take(t, "four skipped cells", inbits.New(pack(t, head, "1111", "00")), s, api.OK, 56)

	s.Rows[1].Head, s.Rows[1].Id, s.Rows[1].Quant = true, 1, 9
	bits := head + "11" + "0000" + markRow(1) + "01" + "01001" + "11" + "0"
	take(t, "a row's head", inbits.New(pack(t, bits)), s, api.OK, 88)

	head = markRow(0) + "11111111" + "10" + "101" + "110" + "0" + "0000" + "11111" + "0" + "1" + "00000111" + "0"
	dcs := strings.Repeat("00001001", 6)
	s = blank(6, false)
	s.Ref, s.Flags, s.Quant, s.Supp, s.Zeros = 255, 5, 31, []int{7}, 1
	bits = head + strings.Repeat("1"+"0011"+dcs, 4) + "0" + "00000000"
	take(t, "four intra cells", inbits.New(pack(t, bits)), s, api.OK, 280)
}

// A row's head puts the lines above it outside: the last cell is foretold by the one to
// its left then, or else by the middle one of that, the one above, and none.
func TestForetoldOnPaper(t *testing.T) {
	head := markRow(0) + "00000101" + "10" + "000" + "110" + "1" + "0000" + "01001" + "0" + "0"
	begin := "0" + "1" + "11"
	upper := begin + "00001010" + "010" + begin + "00001011" + "011" // 5 1, and from there -5 -1
	lower := begin + "00001010" + "011" + begin + "00001011" + "1"   // 5 -1, and by -5 0
	s := blank(6, true)
	s.Rows[0].Cells = []api.Cell{by(5, 1), by(0, 0)}
	s.Rows[1].Cells = []api.Cell{by(5, -1), by(-5, 0)}
	bits := head + upper + lower
	take(t, "no head", inbits.New(pack(t, bits)), s, api.OK, len(bits)+len(fill(len(bits))))

	s.Rows[1] = api.Row{Head: true, Quant: 9, Cells: []api.Cell{by(5, -1), by(0, -1)}}
	bits = head + upper
	bits += fill(len(bits)) + markRow(1) + "00" + "01001" + lower
	take(t, "a head", inbits.New(pack(t, bits)), s, api.OK, len(bits)+len(fill(len(bits))))
}

// Sheets of all formats, of all kinds of cells, with heads at all rows, at some, and at
// none.
func TestSheets(t *testing.T) {
	chance := rand.New(rand.NewSource(26))
	for _, format := range formats() {
		times := max(1, 400/gridOf(format).count())
		for _, inter := range kindsOfSheets() {
			took(t, "blank", blank(format, inter))
			for _, apart := range []int{1, 2, 3, 6, 1000000} {
				for range times {
					s := anySheet(chance, format, inter, apart)
					s.Zeros = chance.Intn(4)
					took(t, "any sheet", s)
				}
			}
		}
	}
}

// One row alone has a head, each in turn: from it on the lines above it are outside,
// in its own lines, and in those of all rows behind it.
func TestEachRowsHead(t *testing.T) {
	chance := rand.New(rand.NewSource(3))
	for _, format := range formats() {
		g := gridOf(format)
		for number := 1; number < g.rows; number++ {
			if format == 5 && number%8 != 1 {
				continue
			}
			s := blank(format, true)
			s.Rows[number].Head, s.Rows[number].Id, s.Rows[number].Quant = true, number%4, number
			for n := range g.count() {
				*at(s, n) = by(0, 0)
				at(s, n).Mv = anyVector(chance, format, n)
			}
			bits := lay(t, s).bits
			take(t, fmt.Sprint("format ", format, ", row ", number), inbits.New(pack(t, bits)), s, api.OK, len(bits))
		}
	}
}

// Each id and quantiser of a row's head, from each bit of a byte on.
func TestRowHeads(t *testing.T) {
	for id := range 4 {
		for quant := 1; quant <= 31; quant++ {
			for stuff := range 8 {
				s := blank(1, true)
				at(s, 0).Stuff, at(s, 15).Stuff = stuff, 3
				for number := 1; number < 6; number++ {
					s.Rows[number].Head, s.Rows[number].Id, s.Rows[number].Quant = true, id, quant
				}
				s.Rows[1+quant%5] = api.Row{Cells: s.Rows[0].Cells}
				bits := lay(t, s).bits
				take(t, "heads", inbits.New(pack(t, bits)), s, api.OK, len(bits))
			}
		}
	}
}

// A mark at each row's begin: that of the row is its head, one of another row is out of
// order, and where a sheet or the end begins no cell does.
func TestMarksAtRows(t *testing.T) {
	for _, format := range []int{6, 1, 3} {
		for _, inter := range kindsOfSheets() {
			l := lay(t, blank(format, inter))
			for row, from := range l.rows {
				for number := range 32 {
					want := api.ErrOrder
					switch {
					case row == 0, number == 0, number == 31:
						want = api.ErrCode
					case number == row:
						continue
					}
					bits := l.bits[:from] + fill(from) + markRow(number) + "00" + "01001" + l.bits[from:]
					what := fmt.Sprint("format ", format, ": mark ", number, " at row ", row)
					take(t, what, inbits.New(pack(t, bits)), api.Sheet{}, want, 0)
				}
			}
		}
	}
}

// No mark stands behind a sheet's own head, whatever its number is; and one bit 1 ahead
// of a mark makes that none of a row's.
func TestNoRowHead(t *testing.T) {
	for _, inter := range kindsOfSheets() {
		l := lay(t, blank(6, inter))
		for number := range 32 {
			refused(t, "a first row's head", l.bits[:50]+fill(50)+markRow(number)+"00"+"01001"+l.bits[50:], api.ErrCode)
		}
		for stuff := range 8 {
			s := blank(6, inter)
			at(s, 1).Stuff = stuff
			l := lay(t, s)
			from, mark := l.rows[1], markRow(1)+"00"+"01001"
			for n := range fill(from) {
				ahead := []byte(fill(from))
				ahead[n] = '1'
				text := pack(t, l.bits[:from], string(ahead), mark, l.bits[from:])
				if err := asWords(t, "a bit ahead of a mark", text, 0); err == api.OK {
					t.Fatalf("a sheet whose row begins with the bits %s is read", ahead)
				}
			}
			// A mark that does not begin at a byte's begin is none, either.
			for n := 1; n < 8; n++ {
				text := pack(t, l.bits[:from], fill(from), "00000000"[:n], mark, l.bits[from:])
				take(t, "a mark behind more noughts", inbits.New(text), api.Sheet{}, api.ErrCode, 0)
			}
		}
	}
}

// What rowhead's Take tells of a head, and where cells behind it are wrong.
func TestWrongRowHeads(t *testing.T) {
	for _, format := range []int{6, 1, 4} {
		for _, inter := range kindsOfSheets() {
			l := lay(t, blank(format, inter))
			for _, row := range []int{1, len(l.rows) / 2, len(l.rows) - 1} {
				ahead := l.bits[:l.rows[row]] + fill(l.rows[row])
				refused(t, "no quantiser", ahead+markRow(row)+"11"+"00000"+l.bits[l.rows[row]:], api.ErrQuant)
				refused(t, "another row's, and no quantiser", ahead+markRow(row+1)+"11"+"00000", api.ErrOrder)
				refused(t, "a cell behind a head", ahead+markRow(row)+"11"+"00001"+"0000000000", api.ErrCode)
				// The text ends at the next byte's end: of seven bits two are there.
				refused(t, "the text's end", ahead+markRow(row)+"11", api.ErrShort)
				refused(t, "another row's, and the text's end", ahead+markRow(row+1)+"11", api.ErrOrder)
			}
		}
	}
}

// Each cell by the four vectors that lead one half of a sample away: its number tells
// whether they lead outside.
func TestVectorsOfEachCell(t *testing.T) {
	for _, format := range formats() {
		g, step := gridOf(format), 1
		if g.count() > 100 {
			step = g.count() / 17
		}
		s := blank(format, true)
		for n := 0; n < g.count(); n += step {
			for _, mv := range []vector{{-1, 0}, {1, 0}, {0, -1}, {0, 1}} {
				*at(s, n) = by(mv[0], mv[1])
				bits := lay(t, s).bits
				what := fmt.Sprint("format ", format, ", cell ", n, " by ", mv)
				if inside(format, n, mv) {
					take(t, what, inbits.New(pack(t, bits)), s, api.OK, len(bits))
				} else {
					take(t, what, inbits.New(pack(t, bits)), api.Sheet{}, api.ErrVector, 0)
				}
			}
			*at(s, n) = skipped()
		}
	}
}

// All vectors from each cell of the smallest format, of both kinds that have one.
func TestAllVectors(t *testing.T) {
	s := blank(6, true)
	for n := range 4 {
		for x := -32; x <= 31; x++ {
			for y := -32; y <= 31; y++ {
				*at(s, n) = api.Cell{Kind: api.InterQ, Step: 1, Mv: vector{x, y}}
				if (x+y)%2 == 0 {
					*at(s, n) = by(x, y)
				}
				bits := lay(t, s).bits
				if inside(6, n, vector{x, y}) {
					take(t, "inside", inbits.New(pack(t, bits)), s, api.OK, len(bits))
				} else {
					take(t, "outside", inbits.New(pack(t, bits)), api.Sheet{}, api.ErrVector, 0)
				}
			}
		}
		*at(s, n) = skipped()
	}
}

// Cells that are skipped, and those that are intra, stay what they are where a vector
// that leads outside is foretold for them; and they count as having none.
func TestCellsWithoutVectors(t *testing.T) {
	for _, c := range []api.Cell{skipped(), flat(), cell(api.IntraQ, 3)} {
		s := blank(1, true)
		for n := range 48 {
			*at(s, n) = c
			if n%3 == 0 {
				*at(s, n) = by(31*min(1, 7-n%8), 31*min(1, 5-n/8))
			}
		}
		took(t, "no vectors", s)
	}
}

// The first thing that is wrong is told, cell by cell, and of one cell what stands in
// its bits ahead of where its vector leads.
func TestFirstWrong(t *testing.T) {
	outside := blank(6, true)
	*at(outside, 1) = by(1, 0)
	l := lay(t, outside)
	from, behind := l.cells[1], l.cells[2]
	refused(t, "a vector", l.bits, api.ErrVector)
	refused(t, "a vector, and then nothing", l.bits[:behind-behind%8], api.ErrShort)
	refused(t, "a vector, and then a wrong cell", l.bits[:behind]+"000000000000", api.ErrVector)
	refused(t, "a vector, and then a wrong row", l.bits[:behind]+fill(behind)+markRow(9), api.ErrVector)
	refused(t, "a vector behind a wrong cell", l.bits[:l.cells[0]]+"0"+"010"+l.bits[from:], api.ErrMode)
	for _, wrong := range []struct {
		bits string
		err  api.Errno
	}{
		// An inter cell, of whose blocks the last one is coded, and 1 0 for its vector.
		{"0" + "0011" + "11" + "010" + "1" + "000000000", api.ErrCode},
		{"0" + "0011" + "11" + "010" + "1" + "0000011" + "1" + "000000" + "00000000", api.ErrLevel},
		{"0" + "0011" + "11" + "010" + "1" + "0000011" + "0" + "111111" + "00000001" + "01110", api.ErrLevel},
		{"0" + "0011" + "11" + "010" + "1" + "01110", api.ErrVector},
	} {
		refused(t, "a vector, and a wrong block", l.bits[:from]+wrong.bits+"11111111111", wrong.err)
	}
	last := blank(6, true)
	*at(last, 3) = by(-1, 1)
	l = lay(t, last)
	refused(t, "a vector, and then a bit", l.bits[:l.end]+"1", api.ErrVector)
}

// What sheethead's Take tells comes first; and a sheet begins at a byte's begin.
func TestWrongHeads(t *testing.T) {
	bits := lay(t, blank(6, true)).bits
	for place, want := range map[int]api.Errno{0: api.ErrMark, 16: api.ErrMark, 21: api.ErrMark, 30: api.ErrForm, 31: api.ErrForm, 39: api.ErrMode, 42: api.ErrMode, 48: api.ErrMode} {
		turned := []byte(bits)
		turned[place] ^= '0' ^ '1'
		refused(t, fmt.Sprint("bit ", place), string(turned), want)
	}
	refused(t, "no format", bits[:35]+"111"+bits[38:], api.ErrForm)
	refused(t, "no quantiser", bits[:43]+"00000"+bits[48:], api.ErrQuant)
	refused(t, "nine bytes", bits[:49]+strings.Repeat("100000001", 9)+"0"+bits[50:], api.ErrLong)
	refused(t, "the end's mark", markRow(31)+bits[22:], api.ErrMark)
	refused(t, "a row's mark", markRow(1)+bits[22:], api.ErrMark)
	for n := 1; n < 16; n++ {
		r := reader(t, pack(t, "1011010111010110"[:n], bits), n)
		if n%8 == 0 {
			take(t, "at a byte's begin", r, blank(6, true), api.OK, len(bits))
		} else {
			take(t, "within a byte", r, api.Sheet{}, api.ErrMark, 0)
		}
	}
	// From the noughts ahead of a byte's begin no sheet is read.
	take(t, "noughts ahead of it", reader(t, pack(t, "11110000", bits), 4), api.Sheet{}, api.ErrMark, 0)
}

// Each of the bits behind the last cell, up to a byte's end.
func TestBitsBehind(t *testing.T) {
	met := [8]bool{}
	for _, inter := range kindsOfSheets() {
		for stuff := range 8 {
			s := blank(6, inter)
			at(s, 3).Stuff = stuff
			l := lay(t, s)
			took(t, "noughts behind it", s)
			noughts := fill(l.end)
			met[len(noughts)] = true
			for n := range noughts {
				behind := []byte(noughts)
				behind[n] = '1'
				refused(t, "a bit behind it", l.bits[:l.end]+string(behind), api.ErrForm)
				refused(t, "a bit, and noughts", l.bits[:l.end]+string(behind)+"0000000000000000", api.ErrForm)
			}
		}
	}
	for n, is := range met {
		if !is {
			t.Errorf("no sheet ends with %d noughts up to a byte's end", n)
		}
	}
}

// So many bytes 0, and behind them each byte: a mark, if its first bit is 1, and two of
// them are the mark's.
func TestZerosAheadOfBytes(t *testing.T) {
	for _, inter := range kindsOfSheets() {
		s := blank(6, inter)
		text := pack(t, lay(t, s).bits)
		for noughts := range 7 {
			for b := 1; b < 256; b++ {
				for _, behind := range []string{"", "\x00", "\x00\x00\x80", "\xff\xff"} {
					s.Zeros = 0
					if b >= 0x80 && noughts >= 2 {
						s.Zeros = noughts - 2
					}
					r := inbits.New(text + strings.Repeat("\x00", noughts) + string([]byte{byte(b)}) + behind)
					what := fmt.Sprintf("%d bytes 0, and %x", noughts, b)
					take(t, what, r, s, api.OK, 8*len(text)+8*s.Zeros)
				}
			}
		}
	}
}

// So many bytes 0, up to more than a sheet may have, ahead of marks and at the text's
// end.
func TestZeros(t *testing.T) {
	s := blank(6, true)
	text := pack(t, lay(t, s).bits)
	for _, noughts := range []int{0, 1, 2, 3, 4, 5, 15, 16, 255, 256, 65536, 262143, 262144, 262145, 1 << 20} {
		for _, behind := range []string{"", "\x00\x00\x80", "\x00\x00\x87\xff", "\x00\x00\xff", "\x00\x00\xfc\x00"} {
			s.Zeros = noughts
			r := inbits.New(text + strings.Repeat("\x00", noughts) + behind)
			got := take(t, fmt.Sprint(noughts, " bytes 0"), r, s, api.OK, 8*len(text)+8*noughts)
			want := api.OK
			if noughts > 262144 {
				want = api.ErrTree
			}
			if err := sound.Check(got); err != want {
				t.Errorf("%d bytes 0: Check = %d, want %d", noughts, err, want)
			}
		}
		s.Zeros = 0
		for _, behind := range []string{"\x01", "\x40\x00\x00\x80", "\x7f\xff"} {
			r := inbits.New(text + strings.Repeat("\x00", noughts) + behind)
			take(t, fmt.Sprint(noughts, " bytes 0, and no mark"), r, s, api.OK, 8*len(text))
		}
	}
}

// Sheets one behind the other are read one behind the other, with bytes 0 between them
// or none; and none is changed by what is read behind it.
func TestSheetBehindSheet(t *testing.T) {
	chance := rand.New(rand.NewSource(5))
	var l []api.Sheet
	bits := ""
	for n := range 40 {
		s := anySheet(chance, []int{6, 1, 2}[n%3], n%4 > 0, 3)
		s.Zeros = []int{0, 0, 1, 2, 3, 10}[n%6]
		l, bits = append(l, s), bits+lay(t, s).bits
	}
	r := inbits.New(pack(t, bits))
	var taken []api.Sheet
	for n, s := range l {
		taken = append(taken, take(t, fmt.Sprint("sheet ", n), r, s, api.OK, len(lay(t, s).bits)))
	}
	take(t, "behind the last one", r, api.Sheet{}, api.ErrShort, 0)
	for n := range l {
		if !equal(taken[n], l[n]) {
			t.Errorf("sheet %d became %s", n, brief(taken[n]))
		}
	}
}

// What is read hangs on the bits alone, and not on what the reader read ahead of it.
func TestTakenTwice(t *testing.T) {
	s := anySheet(rand.New(rand.NewSource(8)), 2, true, 2)
	bits := lay(t, s).bits
	r := inbits.New(pack(t, bits))
	for range 3 {
		take(t, "the same sheet", r, s, api.OK, len(bits))
		r.Seek(0)
	}
	r = reader(t, pack(t, "11111111", bits), 7)
	take(t, "within a byte", r, api.Sheet{}, api.ErrMark, 0)
	r.Take(1)
	take(t, "behind an error", r, s, api.OK, len(bits))
}

func TestNothingToRead(t *testing.T) {
	for range 2 {
		if s, err := sheetin.Take(nil); !equal(s, api.Sheet{}) || err != api.ErrArg {
			t.Errorf("Take(nil) = %v, %d", s, err)
		}
	}
	take(t, "a zero reader", &inbits.Reader{}, api.Sheet{}, api.ErrShort, 0)
	for _, s := range []string{"", "\x00", "\x00\x00", "\xff\xff"} {
		take(t, "too few bits", inbits.New(s), api.Sheet{}, api.ErrShort, 0)
		take(t, "at the end", reader(t, s, 8*len(s)), api.Sheet{}, api.ErrShort, 0)
	}
}

// A sheet that ends behind each of its bytes: what is missing is told, be it bits of a
// cell or a mark that is none then.
func TestCutOff(t *testing.T) {
	chance := rand.New(rand.NewSource(13))
	for _, format := range []int{6, 1} {
		for _, inter := range kindsOfSheets() {
			for _, apart := range []int{1, 2, 1000000} {
				l := lay(t, anySheet(chance, format, inter, apart))
				text := pack(t, l.bits)
				for n := range text {
					err := asWords(t, fmt.Sprint("cut off at byte ", n), text[:n], 0)
					if err == api.OK || apart > 9 && err != api.ErrShort {
						t.Fatalf("format %d, cut off at byte %d: %d", format, n, err)
					}
				}
			}
		}
	}
}

// Sheets some of whose bits are turned, or taken out, against the chapter's words: all
// errors are met, and sheets that may be as well.
func TestTurnedBits(t *testing.T) {
	chance := rand.New(rand.NewSource(17))
	met := map[api.Errno]int{}
	for n := range 4000 {
		s := anySheet(chance, []int{6, 6, 6, 1}[n%4], n%3 > 0, 1+chance.Intn(3))
		s.Zeros = chance.Intn(3)
		bits := lay(t, s).bits
		for range 1 + chance.Intn(2) {
			place := chance.Intn(len(bits))
			switch chance.Intn(6) {
			case 0:
				bits = bits[:place] + bits[place+1:]
			case 1:
				bits = bits[:place] + "0" + bits[place:]
			default:
				bits = bits[:place] + string([]byte{bits[place] ^ '0' ^ '1'}) + bits[place+1:]
			}
		}
		met[asWords(t, "turned bits", pack(t, bits, []string{"", markRow(0), "1"}[n%3]), 0)]++
	}
	for _, err := range []api.Errno{
		api.OK, api.ErrShort, api.ErrCode, api.ErrMark, api.ErrForm, api.ErrMode, api.ErrLevel, api.ErrVector, api.ErrOrder,
	} {
		if met[err] < 5 {
			t.Errorf("error %d was met %d times", err, met[err])
		}
	}
}

// Any bits behind a head, and any at all, against the chapter's words.
func TestAnyBits(t *testing.T) {
	chance := rand.New(rand.NewSource(7))
	for n := range 20000 {
		bytes := make([]byte, chance.Intn(80))
		chance.Read(bytes)
		head := lay(t, api.Sheet{Ref: n % 256, Format: 1 + n%6, Inter: n/6%2 == 0, Quant: 1 + n%31}).bits
		asWords(t, "any bits behind a head", pack(t, head[:50], outbits.Show(string(bytes))), 0)
		asWords(t, "any bits", string(bytes), chance.Intn(8*len(bytes)+1))
	}
}

// spoil writes to all of a sheet's lists but those of one row, up to the ends of their
// room.
func spoil(s api.Sheet, but int) {
	for i := range s.Supp[:cap(s.Supp)] {
		s.Supp[:cap(s.Supp)][i] = -7
	}
	for i, row := range s.Rows {
		if i == but {
			continue
		}
		for _, c := range row.Cells {
			for _, l := range c.Events {
				for n := range l[:cap(l)] {
					l[:cap(l)][n] = api.Event{Run: -9, Level: 999}
				}
			}
		}
		cells := row.Cells[:cap(row.Cells)]
		for n := range cells {
			cells[n] = api.Cell{Stuff: -5}
		}
	}
	for i := len(s.Rows); i < cap(s.Rows); i++ {
		s.Rows[:cap(s.Rows)][i] = api.Row{Id: -3}
	}
}

// No two lists of an answer share memory, nor do those of two answers.
func TestListsOfTheirOwn(t *testing.T) {
	chance := rand.New(rand.NewSource(9))
	for _, format := range []int{6, 1, 2} {
		s := anySheet(chance, format, true, 2)
		s.Supp = []int{1, 2, 3}
		r := inbits.New(pack(t, lay(t, s).bits))
		for but := range s.Rows {
			r.Seek(0)
			first, _ := sheetin.Take(r)
			r.Seek(0)
			second, err := sheetin.Take(r)
			told(t, "sheet", err)
			spoil(first, but)
			if !equal(second, s) {
				t.Fatal("two sheets share a list")
			}
			if !reflect.DeepEqual(plain(api.Sheet{Rows: first.Rows[but : but+1]}), plain(api.Sheet{Rows: s.Rows[but : but+1]})) {
				t.Fatalf("row %d shares a list with another one", but)
			}
		}
	}
}

// The lists of events of one cell are each one's own.
func TestEventsOfTheirOwn(t *testing.T) {
	s := blank(6, false)
	for n := range 4 {
		for i := range 6 {
			at(s, n).Events[i] = some(1 + (n+i)%2)
		}
	}
	r := inbits.New(pack(t, lay(t, s).bits))
	for n := range 24 {
		r.Seek(0)
		got, err := sheetin.Take(r)
		told(t, "sheet", err)
		l := at(got, n/6).Events[n%6]
		for i := range l[:cap(l)] {
			l[:cap(l)][i] = api.Event{Level: 999}
		}
		at(got, n/6).Events[n%6] = at(s, n/6).Events[n%6]
		if !equal(got, s) {
			t.Fatalf("list %d of cell %d shares memory", n%6, n/6)
		}
	}
}
