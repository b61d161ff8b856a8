package decode_test

import (
	"bytes"
	"fmt"
	"iter"
	"math"
	"math/rand"
	"reflect"
	"slices"
	"strings"
	"testing"

	"overspill/api"
	"overspill/decode"
	"overspill/screens"
	"overspill/strips"
)

type (
	list   = []api.Event
	vector = [2]int
)

// The bytes by which the end is told.
const ending = "\x00\x00\xfc"

// grid is how the cells of a format stand: so many rows, of so many lines each, and
// so many cells side by side.
type grid struct {
	rows, lines, across int
}

func gridOf(format int) grid {
	return []grid{{6, 1, 8}, {9, 1, 11}, {18, 1, 22}, {18, 2, 44}, {18, 4, 88}, {2, 1, 2}}[format-1]
}

func (g grid) each() int  { return g.lines * g.across }
func (g grid) count() int { return g.rows * g.each() }

// formats are all of them, the small one first.
func formats() []int {
	return []int{6, 1, 2, 3, 4, 5}
}

func isIntra(c api.Cell) bool {
	return c.Kind == api.Intra || c.Kind == api.IntraQ
}

// made is a frame each sample of which is what it tells of its plane, column and
// line.
func made(format int, tells func(plane, x, y int) int) api.Frame {
	g := gridOf(format)
	f := api.Frame{Format: format}
	for plane := range f.Planes {
		side := []int{16, 8, 8}[plane]
		for y := range side * g.rows * g.lines {
			for x := range side * g.across {
				f.Planes[plane] = append(f.Planes[plane], byte(tells(plane, x, y)))
			}
		}
	}
	return f
}

// level is a frame all samples of which are the same.
func level(format, sample int) api.Frame {
	return made(format, func(int, int, int) int { return sample })
}

// copied is f in memory of its own.
func copied(f api.Frame) api.Frame {
	for plane, l := range f.Planes {
		f.Planes[plane] = slices.Clone(l)
	}
	return f
}

// equal is whether a and b are one frame.
func equal(a, b api.Frame) bool {
	for plane := range a.Planes {
		if !bytes.Equal(a.Planes[plane], b.Planes[plane]) {
			return false
		}
	}
	return a.Format == b.Format
}

// plain has nil for each list that is empty, and lists of its own.
func plain(s api.Strip) api.Strip {
	s.Sheets = append([]api.Sheet(nil), s.Sheets...)
	for i := range s.Sheets {
		sheet := &s.Sheets[i]
		sheet.Supp, sheet.Rows = append([]int(nil), sheet.Supp...), append([]api.Row(nil), sheet.Rows...)
		for j := range sheet.Rows {
			row := &sheet.Rows[j]
			row.Cells = append([]api.Cell(nil), row.Cells...)
			for n := range row.Cells {
				for k, l := range row.Cells[n].Events {
					row.Cells[n].Events[k] = append(list(nil), l...)
				}
			}
		}
	}
	return s
}

// dark is a bare intra cell, all of whose samples are dc.
func dark(dc int) api.Cell {
	return api.Cell{Kind: api.Intra, Dc: [6]int{dc, dc, dc, dc, dc, dc}}
}

// sheet is one each cell of which is what it tells of its number.
func sheet(format int, inter bool, tells func(n int) api.Cell) api.Sheet {
	s := api.Sheet{Ref: 5, Format: format, Inter: inter, Quant: 5}
	g := gridOf(format)
	for n := range g.count() {
		if n%g.each() == 0 {
			s.Rows = append(s.Rows, api.Row{})
		}
		row := &s.Rows[n/g.each()]
		row.Cells = append(row.Cells, tells(n))
	}
	return s
}

// first is a short sheet that is not inter, all of whose samples are dc.
func first(format, dc int) api.Sheet {
	return sheet(format, false, func(int) api.Cell { return dark(dc) })
}

// skipped is an inter sheet all of whose cells are.
func skipped(format int) api.Sheet {
	return sheet(format, true, func(int) api.Cell { return api.Cell{Skip: true} })
}

// but is an inter sheet all of whose cells are skipped but that one.
func but(format, n int, c api.Cell) api.Sheet {
	s := skipped(format)
	*at(s, n) = c
	return s
}

// more is a cell that adds 4, by the quantiser 5, to its first block.
func more() api.Cell {
	return api.Cell{Events: [6][]api.Event{{{Last: true, Level: 3}}}}
}

// at is the cell of that number.
func at(s api.Sheet, n int) *api.Cell {
	each := gridOf(s.Format).each()
	return &s.Rows[n/each].Cells[n%each]
}

// strip is one without the end's mark.
func strip(sheets ...api.Sheet) api.Strip {
	return api.Strip{Sheets: sheets}
}

// lot is a strip of so many sheets, each of which adds to the one ahead.
func lot(sheets int) api.Strip {
	s := strip(first(6, 10))
	for len(s.Sheets) < sheets {
		s.Sheets = append(s.Sheets, but(6, 0, more()))
	}
	return s
}

// some are events, other ones for each n.
func some(n int) list {
	return []list{
		nil,
		{{Last: true, Level: 1}},
		{{Level: -1}, {Last: true, Run: 2, Level: 1}},
		nil,
		{{Last: true, Run: 40, Level: -3}},
		{{Run: 1, Level: 100}, {Level: 2}, {Last: true, Level: -1}},
		{{Last: true, Run: 62, Level: 127}},
	}[n%7]
}

// bounds are the least and the most that a vector may have in one direction, from the
// cell of that number among so many.
func bounds(number, cells int) (int, int) {
	return max(-32, -32*number), min(31, 32*(cells-1-number))
}

// anyVector is one that leads inside.
func anyVector(chance *rand.Rand, format, n int) vector {
	g := gridOf(format)
	left, right := bounds(n%g.across, g.across)
	top, bottom := bounds(n/g.across, g.rows*g.lines)
	return vector{left + chance.Intn(right-left+1), top + chance.Intn(bottom-top+1)}
}

// anyCell is one that may be cell n of a sheet.
func anyCell(chance *rand.Rand, format, n int, inter bool) api.Cell {
	kind := api.Intra + chance.Intn(2)
	if inter && chance.Intn(6) > 0 {
		kind = chance.Intn(3)
	}
	if kind == api.Four {
		return api.Cell{Stuff: chance.Intn(2), Skip: true}
	}
	c := api.Cell{Kind: kind}
	if kind == api.InterQ || kind == api.IntraQ {
		c.Step = []int{-2, -1, 1, 2}[chance.Intn(4)]
	}
	for i := range c.Events {
		if isIntra(c) {
			c.Dc[i] = 1 + chance.Intn(254)
		}
		c.Events[i] = some(chance.Intn(7))
	}
	if !isIntra(c) {
		c.Mv = anyVector(chance, format, n)
	}
	return c
}

// anySheet is one that may be.
func anySheet(chance *rand.Rand, format int, inter bool) api.Sheet {
	s := sheet(format, inter, func(n int) api.Cell { return anyCell(chance, format, n, inter) })
	s.Ref, s.Flags, s.Quant = chance.Intn(256), chance.Intn(8), 1+chance.Intn(31)
	s.Zeros = []int{0, 0, 1, 3}[chance.Intn(4)]
	for range chance.Intn(3) {
		s.Supp = append(s.Supp, chance.Intn(256))
	}
	for number := range s.Rows {
		if number > 0 && chance.Intn(3) == 0 {
			s.Rows[number].Head, s.Rows[number].Id, s.Rows[number].Quant = true, chance.Intn(4), 1+chance.Intn(31)
		}
	}
	return s
}

// anyStrip is one that may be; one of so many of its sheets is not inter.
func anyStrip(chance *rand.Rand, formats []int, sheets, apart int) api.Strip {
	s := api.Strip{End: chance.Intn(2) == 0}
	format := 0
	for n := range sheets {
		inter := n > 0 && chance.Intn(apart) > 0
		if !inter {
			format = formats[chance.Intn(len(formats))]
		}
		s.Sheets = append(s.Sheets, anySheet(chance, format, inter))
	}
	return s
}

// oracle is the frames of a strip that may be, by the chapter's words: sheet by sheet,
// each one's behind a copy of the one ahead.
func oracle(t *testing.T, s api.Strip) []api.Frame {
	t.Helper()
	var l []api.Frame
	var ahead api.Frame
	for n, sheet := range s.Sheets {
		next, err := screens.Next(copied(ahead), sheet)
		if err != api.OK {
			t.Fatalf("sheet %d of a strip that may be has no frame: %d", n, err)
		}
		l, ahead = append(l, next), next
	}
	return l
}

// text is how a strip is told.
func text(t *testing.T, s api.Strip) string {
	t.Helper()
	l, err := strips.Write(s)
	if err != api.OK {
		t.Fatalf("a strip is not told: %d", err)
	}
	return l
}

// ranges asks what a sequence tells.
func ranges(t *testing.T, what string, seq iter.Seq2[int, api.Frame], want []api.Frame) {
	t.Helper()
	count := 0
	for n, f := range seq {
		if n != count || n >= len(want) || !equal(f, want[n]) {
			t.Fatalf("%s: Each tells frame %d as number %d, of format %d", what, count, n, f.Format)
		}
		count++
	}
	if count != len(want) {
		t.Fatalf("%s: Each tells %d frames, want %d", what, count, len(want))
	}
}

// shows asks for the frames of a text.
func shows(t *testing.T, what, l string, want []api.Frame) {
	t.Helper()
	got, at, err := decode.Frames(l)
	if at != 0 || err != api.OK || !slices.EqualFunc(got, want, equal) {
		t.Fatalf("%s: Frames = %d of them, %d, %d, want %d others, 0, 0", what, len(got), at, err, len(want))
	}
	ranges(t, what, decode.Each(l), want)
}

// stops asks for what is wrong of a text, and where.
func stops(t *testing.T, what, l string, at int, wrong api.Errno) {
	t.Helper()
	got, where, err := decode.Frames(l)
	if len(got) != 0 || where != at || err != wrong {
		t.Fatalf("%s: Frames = %d of them, %d, %d, want none, %d, %d", what, len(got), where, err, at, wrong)
	}
	ranges(t, what, decode.Each(l), nil)
}

// tells asks for the frames of a strip.
func tells(t *testing.T, what string, s api.Strip, want []api.Frame) {
	t.Helper()
	kept := plain(s)
	got, err := decode.All(s)
	if err != api.OK || !slices.EqualFunc(got, want, equal) {
		t.Fatalf("%s: All = %d frames, %d, want %d others, 0", what, len(got), err, len(want))
	}
	if !reflect.DeepEqual(plain(s), kept) {
		t.Fatalf("%s: the strip has changed", what)
	}
}

// both asks for the frames of a strip, and of its text, with and without an end.
func both(t *testing.T, what string, s api.Strip, want []api.Frame) {
	t.Helper()
	for _, end := range []bool{false, true} {
		s.End = end
		tells(t, what, s, want)
		shows(t, what, text(t, s), want)
	}
}

// refused asks for the frames of a strip that may not be.
func refused(t *testing.T, what string, s api.Strip, wrong api.Errno) {
	t.Helper()
	for _, end := range []bool{false, true} {
		s.End = end
		kept := plain(s)
		if got, err := decode.All(s); len(got) != 0 || err != wrong {
			t.Fatalf("%s: All = %d frames, %d, want none, %d", what, len(got), err, wrong)
		}
		if err := strips.Check(s); err != wrong {
			t.Fatalf("%s: strips' Check = %d, want %d", what, err, wrong)
		}
		if !reflect.DeepEqual(plain(s), kept) {
			t.Fatalf("%s: the strip has changed", what)
		}
	}
}

func TestExample(t *testing.T) {
	stops(t, "nothing", "", 0, api.ErrShort)
	for range decode.Each("") {
		t.Fatalf("nothing has a frame")
	}
}

// A text as it stands on paper: four cells of 9, four that are skipped, four of 200,
// and four of which the last one adds 4 to its first block.
func TestOnPaper(t *testing.T) {
	bits := ""
	begin := func(inter, cells string) int {
		bits += strings.Repeat("0", (8-len(bits)%8)%8)
		place := len(bits) / 8
		bits += "0000000000000000" + "100000" + "00000101" + "10" + "000" + "110" + inter + "0000" + "00101" + "0" + "0" + cells
		return place
	}
	begin("0", strings.Repeat("1"+"0011"+strings.Repeat("00001001", 6), 4))
	second := begin("1", "1111")
	third := begin("0", strings.Repeat("1"+"0011"+strings.Repeat("11001000", 6), 4))
	fourth := begin("1", "111"+"0"+"1"+"1011"+"11"+"00000000101"+"0")
	bits += strings.Repeat("0", (8-len(bits)%8)%8)
	l := ""
	for i := 0; i < len(bits); i += 8 {
		b := 0
		fmt.Sscanf(bits[i:i+8], "%b", &b)
		l += string([]byte{byte(b)})
	}
	last := made(6, func(plane, x, y int) int {
		if plane == 0 && x/8 == 2 && y/8 == 2 {
			return 204
		}
		return 200
	})
	want := []api.Frame{level(6, 9), level(6, 9), level(6, 200), last}
	shows(t, "all four", l, want)
	shows(t, "all four, and the end", l+ending, want)
	shows(t, "all four, bytes 0, and the end", l+"\x00\x00\x00"+ending, want)
	shows(t, "three", l[:fourth]+ending, want[:3])
	shows(t, "two", l[:third], want[:2])
	shows(t, "one", l[:second], want[:1])
	shows(t, "the third alone", l[third:fourth], want[2:3])
	shows(t, "the third and the fourth", l[third:], want[2:])
	stops(t, "the second first", l[second:], 0, api.ErrFirst)
	stops(t, "the fourth alone", l[fourth:], 0, api.ErrFirst)
	stops(t, "the fourth, cut off", l[:len(l)-1], fourth, api.ErrShort)
	stops(t, "behind the end", l[:third]+ending+l[third:], third, api.ErrForm)
	stops(t, "a byte behind", l+"\x01", len(l), api.ErrShort)
}

// P33.1: each sheet stands on the frame ahead, up to the most sheets there may be.
func TestEachAddsToTheOneAhead(t *testing.T) {
	for _, sheets := range []int{1, 2, 3, 62, 63, 64} {
		var want []api.Frame
		for n := range sheets {
			want = append(want, made(6, func(plane, x, y int) int {
				if plane == 0 && x < 8 && y < 8 {
					return min(10+4*n, 255)
				}
				return 10
			}))
		}
		both(t, "so many", lot(sheets), want)
	}
}

// P33.1: vectors lead into the frame ahead, not into the first one.
func TestVectorsOverTheOneAhead(t *testing.T) {
	// By 4 halves the first cell moves by two samples of luma, and by one of colours.
	begin := sheet(6, false, func(n int) api.Cell {
		return api.Cell{Kind: api.Intra, Dc: [6]int{10 + n, 20 + n, 30 + n, 40 + n, 50 + n, 60 + n}}
	})
	s := strip(begin)
	var want []api.Frame
	for n := range 12 {
		want = append(want, made(6, func(plane, x, y int) int {
			side := []int{16, 8, 8}[plane]
			if x < side && y < side {
				x = min(x+n*side/8, side)
			}
			cell, block := 2*(y/side)+x/side, 3+plane
			if plane == 0 {
				block = 2*(y%16/8) + x%16/8
			}
			return []int{10, 20, 30, 40, 50, 60}[block] + cell
		}))
		both(t, "moved so often", s, want)
		s.Sheets = append(s.Sheets, but(6, 0, api.Cell{Mv: vector{4, 0}}))
	}
}

// P33.1: sheets of all formats, on paper.
func TestFormats(t *testing.T) {
	for _, format := range formats() {
		n := gridOf(format).count() - 1
		s := strip(first(format, 10), skipped(format), but(format, n, more()), but(format, n, more()))
		added := func(more int) api.Frame {
			f := level(format, 10)
			g := gridOf(format)
			width := 16 * g.across
			for y := range 8 {
				for x := range 8 {
					f.Planes[0][(16*(g.rows*g.lines-1)+y)*width+width-16+x] += byte(more)
				}
			}
			return f
		}
		both(t, "a format", s, []api.Frame{level(format, 10), level(format, 10), added(4), added(8)})
		if format > 3 && format < 6 {
			continue
		}
		for _, other := range formats()[:3] {
			s := strip(first(format, 10), first(other, 20), but(other, 3, api.Cell{}), first(format, 30), skipped(format))
			both(t, "and another one", s, []api.Frame{level(format, 10), level(other, 20), level(other, 20), level(format, 30), level(format, 30)})
		}
	}
}

// P33.1 and P33.2: any strips, of all kinds of sheets.
func TestStrips(t *testing.T) {
	chance := rand.New(rand.NewSource(331))
	for sheets := 1; sheets <= 64; sheets++ {
		for _, apart := range []int{1, 2, 9} {
			s := anyStrip(chance, []int{6}, sheets, apart)
			both(t, "small ones", s, oracle(t, s))
		}
	}
	for range 30 {
		s := anyStrip(chance, []int{6, 1}, 1+chance.Intn(8), 3)
		both(t, "of two formats", s, oracle(t, s))
	}
	for range 8 {
		s := anyStrip(chance, []int{6, 1, 2}, 1+chance.Intn(4), 2)
		both(t, "of three formats", s, oracle(t, s))
	}
	// These are told in more bytes than a text may have.
	for _, format := range []int{3, 4} {
		s := strip(anySheet(chance, format, false), anySheet(chance, format, true), anySheet(chance, format, true))
		tells(t, "a great one", s, oracle(t, s))
	}
}

// P33.1: a strip whose text would be too long has frames all the same.
func TestTooLongToBeTold(t *testing.T) {
	s := strip(first(6, 10), but(6, 0, more()))
	for place := range s.Sheets {
		s.Sheets[place].Zeros = api.MaxText
	}
	if _, err := strips.Write(s); err != api.ErrLong {
		t.Fatalf("it is told: %d", err)
	}
	tells(t, "too long", s, oracle(t, s))
	s.Sheets[1].Zeros++
	refused(t, "too many bytes 0", s, api.ErrTree)
}

// with is s with another sheet at one place.
func with(s api.Strip, place int, sheet api.Sheet) api.Strip {
	s.Sheets = slices.Clone(s.Sheets)
	s.Sheets[place] = sheet
	return s
}

// wrong are sheets that may not be, made of one of the smallest format that may.
func wrong(s api.Sheet) map[api.Errno][]api.Sheet {
	l := map[api.Errno][]api.Sheet{api.ErrTree: {{}, {Format: 6, Quant: 5}}}
	for _, change := range []func(s *api.Sheet){
		func(s *api.Sheet) { s.Ref = 256 }, func(s *api.Sheet) { s.Flags = -1 }, func(s *api.Sheet) { s.Format = 0 },
		func(s *api.Sheet) { s.Format = 7 }, func(s *api.Sheet) { s.Format = math.MaxInt }, func(s *api.Sheet) { s.Format = 1 },
		func(s *api.Sheet) { s.Quant = 0 }, func(s *api.Sheet) { s.Quant = 32 }, func(s *api.Sheet) { s.Supp = make([]int, 9) },
		func(s *api.Sheet) { s.Zeros = -1 }, func(s *api.Sheet) { s.Zeros = math.MinInt }, func(s *api.Sheet) { s.Rows = nil },
		func(s *api.Sheet) { s.Rows = s.Rows[1:] }, func(s *api.Sheet) { s.Rows[1].Cells = s.Rows[1].Cells[:1] },
		func(s *api.Sheet) { s.Rows[1].Quant = 5 }, func(s *api.Sheet) { at(*s, 3).Kind = api.Four },
		func(s *api.Sheet) { at(*s, 2).Mv[1] = math.MinInt }, func(s *api.Sheet) { at(*s, 0).Step = 3 },
		func(s *api.Sheet) { at(*s, 1).Events[5] = list{{Level: 1}} }, func(s *api.Sheet) { at(*s, 1).Dc[0] = 255 },
	} {
		other := plain(strip(s)).Sheets[0]
		change(&other)
		l[api.ErrTree] = append(l[api.ErrTree], other)
	}
	for _, mv := range []vector{{-1, 0}, {0, -1}, {-32, 31}} {
		l[api.ErrVector] = append(l[api.ErrVector], but(6, 0, api.Cell{Mv: mv}))
	}
	return l
}

// P33.1: what strips' Check tells of a strip, in its order, at each place.
func TestWrongStrips(t *testing.T) {
	refused(t, "none", api.Strip{}, api.ErrTree)
	refused(t, "an empty list", api.Strip{Sheets: []api.Sheet{}}, api.ErrTree)
	for _, sheets := range []int{65, 66, 128, 1000} {
		refused(t, "too many", lot(sheets), api.ErrTree)
		refused(t, "too many, the first one inter", strip(lot(sheets + 1).Sheets[1:]...), api.ErrTree)
	}
	refused(t, "the first one inter", strip(skipped(6)), api.ErrFirst)
	refused(t, "the first one inter, of bare cells", strip(sheet(6, true, func(int) api.Cell { return dark(7) }), first(6, 9)), api.ErrFirst)
	for _, place := range []int{0, 1, 2, 33, 63} {
		s := lot(64)
		refused(t, "another format", with(s, place, skipped(1)), api.ErrFirst)
		for err, l := range wrong(s.Sheets[place]) {
			for _, sheet := range l {
				refused(t, "a wrong sheet", with(s, place, sheet), err)
				if place < 63 {
					refused(t, "a wrong sheet ahead of another format", with(with(s, place, sheet), place+1, skipped(1)), err)
					refused(t, "another format ahead of a wrong sheet", with(with(s, place, skipped(1)), place+1, sheet), api.ErrFirst)
				}
				refused(t, "a wrong sheet of too many", with(lot(65), place, sheet), api.ErrTree)
			}
		}
	}
	refused(t, "a vector ahead of too few rows", strip(first(6, 9), but(6, 0, api.Cell{Mv: vector{-1, 0}}), api.Sheet{}), api.ErrVector)
	refused(t, "too few rows ahead of a vector", strip(first(6, 9), api.Sheet{}, but(6, 0, api.Cell{Mv: vector{-1, 0}})), api.ErrTree)
}

// P33.1 and P33.2: texts that are wrong behind sheets that are not: none of these is
// told.
func TestWrongBehindSheets(t *testing.T) {
	small := text(t, lot(2))[len(text(t, lot(1))):]
	for _, sheets := range []int{1, 2, 3, 63} {
		l := text(t, lot(sheets))
		shows(t, "right", l, oracle(t, lot(sheets)))
		for end := 1; end < len(small); end++ {
			if strings.Trim(small[:end], "\x00") != "" {
				stops(t, "cut off", l+small[:end], len(l), api.ErrShort)
			}
		}
		stops(t, "a byte", l+"\xff", len(l), api.ErrShort)
		stops(t, "bytes", l+"\xff\xff\xff", len(l), api.ErrMark)
		stops(t, "a row's mark", l+"\x00\x00\x84", len(l), api.ErrMark)
		stops(t, "the end's bits", l+"\x00\x00\xfd", len(l), api.ErrForm)
		stops(t, "behind the end", l+ending+"\x00", len(l), api.ErrForm)
		stops(t, "behind the end", l+ending+small, len(l), api.ErrForm)
		if sheets < 63 {
			other := text(t, strip(first(1, 9), skipped(1)))
			stops(t, "another format", l+other+small, len(l)+len(other), api.ErrFirst)
		}
	}
	full := text(t, lot(64))
	shows(t, "the most sheets", full+ending, oracle(t, lot(64)))
	stops(t, "one more", full+small, len(full), api.ErrLong)
	stops(t, "one more, not inter", full+text(t, lot(1))+ending, len(full), api.ErrLong)
	stops(t, "the end alone", ending, 0, api.ErrMark)
}

// P33.1: how many bytes a text may have.
func TestMostBytes(t *testing.T) {
	s := lot(3)
	want := oracle(t, s)
	l := text(t, s)
	room := api.MaxText - len(l)
	shows(t, "the most bytes", l+strings.Repeat("\x00", room), want)
	shows(t, "the most bytes, and the end", l+strings.Repeat("\x00", room-3)+ending, want)
	stops(t, "one more", l+strings.Repeat("\x00", room+1), 0, api.ErrLong)
	stops(t, "one more, at the end", l+strings.Repeat("\x00", room-2)+ending, 0, api.ErrLong)
	for _, b := range []string{"\x00", "\x80", "\xff", ending} {
		stops(t, "far too many", strings.Repeat(b, 1000000), 0, api.ErrLong)
	}
	stops(t, "bytes 0", strings.Repeat("\x00", api.MaxText), 0, api.ErrMark)
}

// agrees asks of any text what the chapter's words say: strips' Parse's place and
// error, or a frame for each sheet of a strip that is written as that text.
func agrees(t *testing.T, l string) api.Errno {
	t.Helper()
	s, at, err := strips.Parse(l)
	if err != api.OK {
		stops(t, "a text", l, at, err)
		return err
	}
	if again, err := strips.Write(s); again != l || err != api.OK {
		t.Fatalf("a text that has frames is none that is written: %d", err)
	}
	want := oracle(t, s)
	if len(want) != len(s.Sheets) {
		t.Fatalf("%d frames of %d sheets", len(want), len(s.Sheets))
	}
	shows(t, "a text", l, want)
	return api.OK
}

// P33.3: texts that are cut off, turned, put together anew, or any at all.
func TestAnyTexts(t *testing.T) {
	chance := rand.New(rand.NewSource(332))
	met := map[api.Errno]int{}
	for range 20 {
		l := text(t, anyStrip(chance, []int{6}, 1+chance.Intn(3), 2))
		for end := range len(l) + 1 {
			met[agrees(t, l[:end])]++
		}
	}
	for range 4000 {
		s := anyStrip(chance, []int{6, 6, 6, 1}, 1+chance.Intn(3), 2)
		l := []byte(text(t, s))
		if len(s.Sheets) > 1 && chance.Intn(8) == 0 {
			l = l[len(text(t, strip(s.Sheets[0]))):]
		}
		for range 1 + chance.Intn(2) {
			i := chance.Intn(len(l))
			switch chance.Intn(5) {
			case 0:
				l[i] ^= 1 << chance.Intn(8)
			case 1:
				l = slices.Delete(l, i, i+1)
			case 2:
				l = slices.Insert(l, i, byte(chance.Intn(256)))
			case 3:
				l = slices.Insert(l, i, make([]byte, chance.Intn(4))...)
			case 4:
				l = append(l, []string{ending, "\x00", "\x00\x00", "\xff", "\x00\x00\x80"}[chance.Intn(5)]...)
			}
		}
		met[agrees(t, string(l))]++
	}
	for range 2000 {
		l := make([]byte, chance.Intn(40))
		for i := range l {
			l[i] = byte(chance.Intn(256))
		}
		met[agrees(t, string(l))]++
		met[agrees(t, "\x00\x00\x80"+string(l))]++
	}
	for _, err := range []api.Errno{api.OK, api.ErrShort, api.ErrCode, api.ErrMark, api.ErrForm, api.ErrVector, api.ErrFirst} {
		if met[err] < 5 {
			t.Errorf("error %d was met %d times", err, met[err])
		}
	}
}

// P33.3: a sheet that is not inter, and what comes behind it, has the same frames
// whatever stands ahead.
func TestHangsOnNothingAhead(t *testing.T) {
	chance := rand.New(rand.NewSource(333))
	for range 20 {
		tail := anyStrip(chance, []int{6, 1}, 1+chance.Intn(5), 4)
		want := oracle(t, tail)
		both(t, "alone", tail, want)
		for range 4 {
			head := anyStrip(chance, []int{6, 1}, 1+chance.Intn(5), 3)
			s := strip(slices.Concat(head.Sheets, tail.Sheets)...)
			both(t, "behind others", s, slices.Concat(oracle(t, head), want))
		}
	}
}

// P33.2: the loop ends when it is left, and begins anew when it is ranged again.
func TestLeftAndRangedAgain(t *testing.T) {
	s := lot(9)
	want := oracle(t, s)
	seq := decode.Each(text(t, s))
	for leave := range 10 {
		count := 0
		for n, f := range seq {
			if n != count || !equal(f, want[n]) {
				t.Fatalf("frame %d is told as %d, or is another one", count, n)
			}
			if count++; n == leave {
				break
			}
		}
		if count != min(leave+1, 9) {
			t.Fatalf("%d frames are told, where the loop is left at %d", count, leave)
		}
		calls := 0
		seq(func(int, api.Frame) bool {
			calls++
			return calls <= leave
		})
		if calls != min(leave+1, 9) {
			t.Fatalf("%d frames are told, where no more than %d are asked for", calls, leave+1)
		}
	}
	ranges(t, "ranged again", seq, want)
}

// P33.2: loops over one sequence within each other, and over others in between.
func TestLoopsWithinLoops(t *testing.T) {
	s := lot(7)
	want := oracle(t, s)
	l := text(t, s)
	seq := decode.Each(l)
	count := 0
	for n, f := range seq {
		ranges(t, "within", seq, want)
		ranges(t, "another one", decode.Each(l[:len(l)-1]), nil)
		shows(t, "another one", text(t, lot(n+1)), want[:n+1])
		if n != count || !equal(f, want[n]) {
			t.Fatalf("frame %d is told as %d, or is another one", count, n)
		}
		count++
	}
	if count != 7 {
		t.Fatalf("%d frames are told", count)
	}
}

// A sequence with nothing that it could tell its frames to ends all the same.
func TestNobodyIsTold(t *testing.T) {
	for _, l := range []string{"", text(t, lot(1)), text(t, lot(5))} {
		decode.Each(l)(nil)
	}
}

// spoil changes all samples of f, and what lies behind them.
func spoil(f api.Frame) {
	for _, l := range f.Planes {
		l = l[:cap(l)]
		for i := range l {
			l[i] ^= 255
		}
	}
}

// What is told in a loop is new memory: whoever changes it changes no frame behind it,
// nor one that was told ahead.
func TestFramesOfEachAreNew(t *testing.T) {
	chance := rand.New(rand.NewSource(334))
	for _, s := range []api.Strip{lot(6), strip(first(6, 9), skipped(6), skipped(6)), anyStrip(chance, []int{6}, 8, 9)} {
		want := oracle(t, s)
		seq := decode.Each(text(t, s))
		for n, f := range seq {
			if !equal(f, want[n]) {
				t.Fatalf("frame %d is another one, where those ahead were changed", n)
			}
			spoil(f)
		}
		var kept []api.Frame
		for n, f := range seq {
			kept = append(kept, f)
			for i := range n + 1 {
				if !equal(kept[i], want[i]) {
					t.Fatalf("frame %d has changed at frame %d", i, n)
				}
			}
		}
		areApart(t, kept, want)
		ranges(t, "in the end", seq, want)
	}
}

// areApart changes frame by frame, and in each plane by plane, and asks for all others.
func areApart(t *testing.T, l, want []api.Frame) {
	t.Helper()
	for i := range l {
		for plane := range l[i].Planes {
			var one api.Frame
			one.Planes[plane] = l[i].Planes[plane]
			spoil(one)
			for other := range l {
				for p := range l[other].Planes {
					if same := bytes.Equal(l[other].Planes[p], want[other].Planes[p]); same == (other == i && p == plane) {
						t.Fatalf("plane %d of frame %d, where plane %d of frame %d was changed: %v", p, other, plane, i, same)
					}
				}
			}
			spoil(one)
		}
	}
}

// What All and Frames tell is new memory, frame by frame and plane by plane.
func TestAnswersAreNew(t *testing.T) {
	chance := rand.New(rand.NewSource(335))
	for _, s := range []api.Strip{lot(6), strip(first(6, 9), skipped(6), skipped(6)), anyStrip(chance, []int{6}, 8, 9)} {
		want := oracle(t, s)
		all, _ := decode.All(s)
		areApart(t, all, want)
		frames, _, _ := decode.Frames(text(t, s))
		areApart(t, frames, want)
		for i := range all {
			spoil(all[i])
			spoil(frames[i])
		}
		both(t, "again", s, want)
	}
}

// What lies behind the ends of lists that come in stays as it was.
func TestRoomStays(t *testing.T) {
	behind := list{{Level: 1}, {Last: true, Run: 3, Level: 5}, {Run: 7, Level: 9}, {Last: true, Level: 99}}
	events := slices.Clone(behind)
	s := strip(first(6, 9), but(6, 2, api.Cell{Events: [6][]api.Event{3: events[:2]}}))
	cells := append(slices.Clone(s.Sheets[1].Rows[0].Cells), dark(3), dark(4))
	s.Sheets[1].Rows[0].Cells = cells[:2]
	rows := append(slices.Clone(s.Sheets[1].Rows), api.Row{Id: 3, Quant: 4})
	s.Sheets[1].Rows = rows[:2]
	sheets := append(slices.Clone(s.Sheets), api.Sheet{Ref: 7, Quant: 8})
	s.Sheets = sheets[:2]
	tells(t, "with room", s, oracle(t, s))
	if !slices.Equal(events, behind) || !reflect.DeepEqual(cells[2:], []api.Cell{dark(3), dark(4)}) ||
		!reflect.DeepEqual(rows[2], api.Row{Id: 3, Quant: 4}) || !reflect.DeepEqual(sheets[2], api.Sheet{Ref: 7, Quant: 8}) {
		t.Errorf("what lies behind the strip's lists has changed")
	}
}

// What is told hangs on the arguments alone, whatever was asked ahead.
func TestNothingIsKept(t *testing.T) {
	chance := rand.New(rand.NewSource(336))
	s := anyStrip(chance, []int{6}, 5, 9)
	want := oracle(t, s)
	for range 40 {
		other := anyStrip(chance, []int{6, 1}, 1+chance.Intn(4), 2)
		both(t, "another one", other, oracle(t, other))
		refused(t, "another one", strip(skipped(6)), api.ErrFirst)
		other.End = false
		stops(t, "another one", text(t, other)+ending+"\xff", len(text(t, other)), api.ErrForm)
		both(t, "again", s, want)
	}
}
