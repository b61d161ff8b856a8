package strips_test

import (
	"fmt"
	"math"
	"math/rand"
	"reflect"
	"slices"
	"strings"
	"testing"

	"overspill/api"
	"overspill/inbits"
	"overspill/outbits"
	"overspill/sheetin"
	"overspill/sheetout"
	"overspill/sound"
	"overspill/strips"
)

type vector = [2]int

// grid is how the cells of a format stand: so many rows, of so many lines each, and
// so many cells side by side.
type grid struct {
	rows, lines, across int
}

func gridOf(format int) grid {
	return []grid{{6, 1, 8}, {9, 1, 11}, {18, 1, 22}, {18, 2, 44}, {18, 4, 88}, {2, 1, 2}}[format-1]
}

func (g grid) each() int  { return g.lines * g.across }
func (g grid) count() int { return g.rows * g.each() }

// formats are all of them, the small one first.
func formats() []int {
	return []int{6, 1, 2, 3, 4, 5}
}

func isIntra(c api.Cell) bool {
	return c.Kind == api.Intra || c.Kind == api.IntraQ
}

// some are events, other ones for each n.
func some(n int) []api.Event {
	return [][]api.Event{
		nil,
		{{Last: true, Level: 1}},
		{{Level: -1}, {Last: true, Run: 2, Level: 1}},
		nil,
		{{Last: true, Run: 40, Level: -3}},
		{{Run: 1, Level: 100}, {Level: 2}, {Last: true, Level: -1}},
		{{Last: true, Run: 62, Level: 127}},
	}[n%7]
}

// cell is one of that kind, other ones for each n, without a vector.
func cell(kind, n int) api.Cell {
	c := api.Cell{Kind: kind, Stuff: n / 5 % 3}
	if kind == api.InterQ || kind == api.IntraQ {
		c.Step = []int{-2, -1, 1, 2}[n%4]
	}
	for i := range c.Events {
		if isIntra(c) {
			c.Dc[i] = 1 + (37*i+n)%254
		}
		c.Events[i] = some(i + n)
	}
	return c
}

// skipped is a cell of an inter sheet of which nothing more is told.
func skipped() api.Cell {
	return api.Cell{Skip: true}
}

// by is a cell of which nothing but its vector is told.
func by(x, y int) api.Cell {
	return api.Cell{Mv: vector{x, y}}
}

// flat is an intra cell without events.
func flat() api.Cell {
	return api.Cell{Kind: api.Intra, Dc: [6]int{9, 9, 9, 9, 9, 9}}
}

// blank is a sheet without heads of rows, all of whose cells are as little as they
// may be.
func blank(format int, inter bool) api.Sheet {
	s := api.Sheet{Ref: 5, Format: format, Inter: inter, Quant: 9}
	g := gridOf(format)
	for range g.rows {
		c := flat()
		if inter {
			c = skipped()
		}
		s.Rows = append(s.Rows, api.Row{Cells: slices.Repeat([]api.Cell{c}, g.each())})
	}
	return s
}

// at is the cell of that number.
func at(s api.Sheet, n int) *api.Cell {
	each := gridOf(s.Format).each()
	return &s.Rows[n/each].Cells[n%each]
}

// bounds are the least and the most that a vector may have in one direction, from the
// cell of that number among so many.
func bounds(number, cells int) (int, int) {
	return max(-32, -32*number), min(31, 32*(cells-1-number))
}

// anyVector is one that leads inside.
func anyVector(chance *rand.Rand, format, n int) vector {
	g := gridOf(format)
	left, right := bounds(n%g.across, g.across)
	top, bottom := bounds(n/g.across, g.rows*g.lines)
	return vector{left + chance.Intn(right-left+1), top + chance.Intn(bottom-top+1)}
}

// anyCell is one that may be cell n of a sheet.
func anyCell(chance *rand.Rand, format, n int, inter bool) api.Cell {
	kind := api.Intra + chance.Intn(2)
	if inter && chance.Intn(4) > 0 {
		kind = chance.Intn(3)
	}
	if kind == api.Four {
		return skipped()
	}
	c := cell(kind, chance.Intn(1000))
	if !isIntra(c) {
		c.Mv = anyVector(chance, format, n)
	}
	return c
}

// anySheet is one that may be, in which about one of so many rows has a head.
func anySheet(chance *rand.Rand, format int, inter bool, apart int) api.Sheet {
	s := api.Sheet{Ref: chance.Intn(256), Flags: chance.Intn(8), Format: format, Inter: inter, Quant: 1 + chance.Intn(31)}
	for range chance.Intn(9) {
		s.Supp = append(s.Supp, chance.Intn(256))
	}
	g := gridOf(format)
	for number := range g.rows {
		var row api.Row
		if number > 0 && chance.Intn(apart) == 0 {
			row = api.Row{Head: true, Id: chance.Intn(4), Quant: 1 + chance.Intn(31)}
		}
		for i := range g.each() {
			row.Cells = append(row.Cells, anyCell(chance, format, number*g.each()+i, inter))
		}
		s.Rows = append(s.Rows, row)
	}
	return s
}

// plain has nil for each list that is empty, and lists of its own.
func plain(s api.Sheet) api.Sheet {
	s.Supp, s.Rows = append([]int(nil), s.Supp...), append([]api.Row(nil), s.Rows...)
	for i := range s.Rows {
		s.Rows[i].Cells = append([]api.Cell(nil), s.Rows[i].Cells...)
		for j := range s.Rows[i].Cells {
			for k, l := range s.Rows[i].Cells[j].Events {
				s.Rows[i].Cells[j].Events[k] = append([]api.Event(nil), l...)
			}
		}
	}
	return s
}

// equal asks field by field; nil and empty lists are the same.
func equal(a, b api.Sheet) bool {
	return reflect.DeepEqual(plain(a), plain(b))
}

// The bytes by which the end is told.
const ending = "\x00\x00\xfc"

// small is a short sheet that is told in 7 bytes; text is how.
func small(ref int) api.Sheet {
	s := blank(6, true)
	s.Ref = ref
	return s
}

// first is a short sheet that is not inter.
func first(format int) api.Sheet {
	return blank(format, false)
}

// strip is one of these sheets, without the end's mark.
func strip(sheets ...api.Sheet) api.Strip {
	return api.Strip{Sheets: sheets}
}

// ended is a strip at whose end the mark is told.
func ended(sheets ...api.Sheet) api.Strip {
	return api.Strip{Sheets: sheets, End: true}
}

// lot is a strip of so many short sheets.
func lot(sheets int) api.Strip {
	s := strip(first(6))
	for n := 1; n < sheets; n++ {
		s.Sheets = append(s.Sheets, small(n%256))
	}
	return s
}

// with is s with another sheet at one place.
func with(s api.Strip, place int, sheet api.Sheet) api.Strip {
	s.Sheets = slices.Clone(s.Sheets)
	s.Sheets[place] = sheet
	return s
}

// text is the bytes that tell one sheet.
func text(t *testing.T, s api.Sheet) string {
	t.Helper()
	w := outbits.New()
	if err := sheetout.Put(w, s); err != api.OK {
		t.Fatalf("a sheet is not told: %d", err)
	}
	return w.Text()
}

// lay is the text that tells a strip by the chapter's words.
func lay(t *testing.T, s api.Strip) string {
	t.Helper()
	l := ""
	for _, sheet := range s.Sheets {
		l += text(t, sheet)
	}
	if s.End {
		l += ending
	}
	return l
}

// plainStrip has nil for each list that is empty, and lists of its own.
func plainStrip(s api.Strip) api.Strip {
	var l []api.Sheet
	for _, sheet := range s.Sheets {
		l = append(l, plain(sheet))
	}
	s.Sheets = l
	return s
}

// equalStrips asks field by field; nil and empty lists are the same.
func equalStrips(a, b api.Strip) bool {
	return reflect.DeepEqual(plainStrip(a), plainStrip(b))
}

// parses asks for the strip that a text tells.
func parses(t *testing.T, what, l string, want api.Strip) {
	t.Helper()
	got, at, err := strips.Parse(l)
	if at != 0 || err != api.OK || !equalStrips(got, want) {
		t.Fatalf("%s: Parse = %d sheets, %t, %d, %d, want %d sheets, %t", what, len(got.Sheets), got.End, at, err, len(want.Sheets), want.End)
	}
	if !strips.Same(got, want) || !strips.Same(want, got) {
		t.Fatalf("%s: what was parsed is not the same strip", what)
	}
}

// stops asks for the error of a text, and the byte.
func stops(t *testing.T, what, l string, at int, wrong api.Errno) {
	t.Helper()
	got, where, err := strips.Parse(l)
	if where != at || err != wrong || !reflect.DeepEqual(got, api.Strip{}) {
		t.Fatalf("%s: Parse = %v, %d, %d, want nothing, %d, %d", what, got, where, err, at, wrong)
	}
}

// writes asks for the text that tells a strip, and parses it.
func writes(t *testing.T, what string, s api.Strip) {
	t.Helper()
	kept := plainStrip(s)
	want := lay(t, s)
	if err := strips.Check(s); err != api.OK {
		t.Fatalf("%s: Check = %d", what, err)
	}
	for range 2 {
		if got, err := strips.Write(s); got != want || err != api.OK {
			t.Fatalf("%s: Write = %d bytes, %d, want %d bytes", what, len(got), err, len(want))
		}
	}
	if !equalStrips(s, kept) {
		t.Fatalf("%s: the strip was changed", what)
	}
	parses(t, what, want, s)
}

// refused asks for a strip that may not be.
func refused(t *testing.T, what string, s api.Strip, wrong api.Errno) {
	t.Helper()
	kept := plainStrip(s)
	if err := strips.Check(s); err != wrong {
		t.Fatalf("%s: Check = %d, want %d", what, err, wrong)
	}
	if got, err := strips.Write(s); got != "" || err != wrong {
		t.Fatalf("%s: Write = %d bytes, %d, want none, %d", what, len(got), err, wrong)
	}
	if !equalStrips(s, kept) {
		t.Fatalf("%s: the strip was changed", what)
	}
}

func TestExamples(t *testing.T) {
	stops(t, "nothing", "", 0, api.ErrShort)
	stops(t, "an inter sheet", "\x00\x00\x80\x16\x1a\x04\x3c", 0, api.ErrFirst)
	stops(t, "the end alone", ending, 0, api.ErrMark)
}

// Strips as they stand on paper: four flat cells, and four that are skipped.
func TestOnPaper(t *testing.T) {
	head := "0000000000000000" + "100000" + "00000101" + "10" + "000" + "110" + "0" + "0000" + "01001" + "0" + "0"
	bits := head + strings.Repeat("1"+"0011"+strings.Repeat("00001001", 6), 4)
	bits += strings.Repeat("0", (8-len(bits)%8)%8)
	begin := ""
	for i := 0; i < len(bits); i += 8 {
		b := 0
		fmt.Sscanf(bits[i:i+8], "%b", &b)
		begin += string([]byte{byte(b)})
	}
	skip := "\x00\x00\x80\x16\x1a\x09\x3c"
	writes(t, "one", strip(first(6)))
	parses(t, "one", begin, strip(first(6)))
	parses(t, "and its end", begin+ending, ended(first(6)))
	parses(t, "and another", begin+skip, strip(first(6), small(5)))
	parses(t, "and others", begin+skip+begin+skip+skip+ending, ended(first(6), small(5), first(6), small(5), small(5)))
	stops(t, "the end's bits", begin+"\x00\x00\xfd", len(begin), api.ErrForm)
	stops(t, "the end's bits", begin+skip+"\x00\x00\xfe", len(begin)+7, api.ErrForm)
	stops(t, "behind the end", begin+ending+"\x00", len(begin), api.ErrForm)
	if got, err := strips.Write(ended(first(6), small(5))); got != begin+skip+ending || err != api.OK {
		t.Fatalf("Write = %q, %d", got, err)
	}
}

// P28.1, how many sheets there may be.
func TestCounts(t *testing.T) {
	for _, sheets := range []int{1, 2, 3, 63, 64} {
		s := lot(sheets)
		writes(t, "so many", s)
		s.End = true
		writes(t, "so many, ended", s)
	}
	for _, sheets := range []int{65, 66, 128, 129, 256, 1000} {
		refused(t, "too many", lot(sheets), api.ErrTree)
		refused(t, "too many", ended(lot(sheets).Sheets...), api.ErrTree)
		refused(t, "too many, the first one inter", strip(lot(sheets + 1).Sheets[1:]...), api.ErrTree)
		refused(t, "too many, of nothing", strip(make([]api.Sheet, sheets)...), api.ErrTree)
	}
	refused(t, "none", api.Strip{}, api.ErrTree)
	refused(t, "none, ended", ended(), api.ErrTree)
	refused(t, "an empty list", api.Strip{Sheets: []api.Sheet{}, End: true}, api.ErrTree)
}

// P28.1, sheets that are inter: which ones may stand there, and behind which.
func TestFollows(t *testing.T) {
	for _, ahead := range formats()[:4] {
		refused(t, "an inter sheet alone", strip(blank(ahead, true)), api.ErrFirst)
		refused(t, "an inter sheet first", ended(blank(ahead, true), first(ahead)), api.ErrFirst)
		stops(t, "an inter sheet alone", text(t, blank(ahead, true)), 0, api.ErrFirst)
		for _, format := range formats()[:4] {
			writes(t, "none is inter", strip(first(ahead), first(format)))
			for _, behind := range [][]api.Sheet{{first(ahead)}, {first(format), first(ahead)}, {first(ahead), blank(ahead, true)}} {
				s := strip(append(slices.Clone(behind), blank(format, true))...)
				if ahead == format {
					writes(t, "the same format", s)
					continue
				}
				refused(t, "another format", s, api.ErrFirst)
				s.End = true
				refused(t, "another format", s, api.ErrFirst)
				stops(t, "another format", lay(t, s), len(lay(t, strip(behind...))), api.ErrFirst)
				refused(t, "and one more", strip(append(slices.Clone(s.Sheets), first(1))...), api.ErrFirst)
			}
		}
	}
}

// P28.1, each place at which an inter sheet has another format than the one ahead.
func TestFollowsAtEachPlace(t *testing.T) {
	for place := range 64 {
		s := with(lot(64), place, blank(1, true))
		refused(t, "another format", s, api.ErrFirst)
		stops(t, "another format", lay(t, s), len(lay(t, strip(s.Sheets[:place]...))), api.ErrFirst)
		if place == 63 {
			continue
		}
		s = with(lot(64), place, first(1))
		refused(t, "another format ahead", s, api.ErrFirst)
		stops(t, "another format ahead", lay(t, s), len(lay(t, strip(s.Sheets[:place+1]...))), api.ErrFirst)
	}
}

// wrong are sheets that may not be, and why.
func wrong() map[string]api.Errno {
	return map[string]api.Errno{"quantiser": api.ErrTree, "rows": api.ErrTree, "cell": api.ErrTree, "vector": api.ErrVector, "zeros": api.ErrTree}
}

// spoilt is a sheet that may not be.
func spoilt(fault string, s api.Sheet) api.Sheet {
	s = plain(s)
	switch fault {
	case "quantiser":
		s.Quant = 32
	case "rows":
		s.Rows = s.Rows[1:]
	case "cell":
		at(s, 3).Kind = api.Four
	case "vector":
		s.Inter = true
		for n := range 4 {
			*at(s, n) = skipped()
		}
		*at(s, 3) = by(1, 0)
	case "zeros":
		s.Zeros = 262145
	}
	return s
}

// P28.1, sheets that may not be, at each place; of two the left one counts, and of one
// its own fault comes ahead of what it follows.
func TestWrongSheets(t *testing.T) {
	for fault, err := range wrong() {
		for _, place := range []int{0, 1, 2, 31, 62, 63} {
			s := lot(64)
			s = with(s, place, spoilt(fault, s.Sheets[place]))
			refused(t, fault, s, err)
			if place < 62 {
				refused(t, fault+" ahead of another format", with(s, place+1, blank(1, true)), err)
				refused(t, fault+" ahead of another fault", with(s, place+1, api.Sheet{}), err)
			}
			if place > 0 {
				refused(t, fault+" behind an inter sheet of another format", with(s, place-1, blank(1, true)), api.ErrFirst)
				other := with(s, place-1, first(1))
				refused(t, fault+" of another format than the one ahead", other, err)
			}
		}
		s := spoilt(fault, small(1))
		refused(t, fault+" of an inter sheet that is first", strip(s), err)
		refused(t, fault+" of one of too many", with(lot(65), 0, s), api.ErrTree)
	}
	refused(t, "a vector ahead of too few rows", strip(first(6), spoilt("vector", small(1)), api.Sheet{}), api.ErrVector)
	refused(t, "too few rows ahead of a vector", strip(first(6), api.Sheet{}, spoilt("vector", small(1))), api.ErrTree)
	refused(t, "sheets of nothing", strip(make([]api.Sheet, 64)...), api.ErrTree)
	for _, n := range []int{math.MinInt, -1, 0, 7, math.MaxInt} {
		s := small(1)
		s.Format = n
		refused(t, "no format", strip(first(6), s), api.ErrTree)
	}
}

// P28.1, Same: each part counts.
func TestSame(t *testing.T) {
	chance := rand.New(rand.NewSource(1))
	base := ended(anySheet(chance, 6, false, 1), anySheet(chance, 6, true, 1), anySheet(chance, 6, true, 1))
	same := func(what string, a, b api.Strip, want bool) {
		t.Helper()
		keptA, keptB := plainStrip(a), plainStrip(b)
		if strips.Same(a, b) != want || strips.Same(b, a) != want {
			t.Fatalf("%s: Same = %t", what, !want)
		}
		if !equalStrips(a, keptA) || !equalStrips(b, keptB) {
			t.Fatalf("%s: a strip was changed", what)
		}
	}
	same("itself", base, plainStrip(base), true)
	same("nothing", api.Strip{}, api.Strip{Sheets: []api.Sheet{}}, true)
	same("nothing, ended", api.Strip{}, api.Strip{End: true}, false)
	same("the end", base, strip(base.Sheets...), false)
	same("fewer", base, ended(base.Sheets[:2]...), false)
	same("none", base, ended(), false)
	same("more", base, ended(append(slices.Clone(base.Sheets), base.Sheets[0])...), false)
	same("another order", base, ended(base.Sheets[0], base.Sheets[2], base.Sheets[1]), false)
	same("empty sheets", strip(make([]api.Sheet, 1000)...), strip(make([]api.Sheet, 1000)...), true)
	same("more empty sheets", strip(make([]api.Sheet, 1000)...), strip(make([]api.Sheet, 1001)...), false)
	for place := range 3 {
		for _, change := range []func(s *api.Sheet){
			func(s *api.Sheet) { s.Ref ^= 1 },
			func(s *api.Sheet) { s.Flags ^= 1 },
			func(s *api.Sheet) { s.Format = 1 },
			func(s *api.Sheet) { s.Inter = !s.Inter },
			func(s *api.Sheet) { s.Quant++ },
			func(s *api.Sheet) { s.Supp = append(s.Supp, 0) },
			func(s *api.Sheet) { s.Zeros++ },
			func(s *api.Sheet) { s.Rows = s.Rows[:1] },
			func(s *api.Sheet) { s.Rows[1].Head = !s.Rows[1].Head },
			func(s *api.Sheet) { s.Rows[1].Id++ },
			func(s *api.Sheet) { s.Rows[1].Quant++ },
			func(s *api.Sheet) { s.Rows[0].Cells = nil },
			func(s *api.Sheet) { at(*s, 3).Stuff++ },
			func(s *api.Sheet) { at(*s, 3).Mv[1]++ },
			func(s *api.Sheet) { at(*s, 3).Dc[5]++ },
			func(s *api.Sheet) { at(*s, 3).Events[5] = append(at(*s, 3).Events[5], api.Event{}) },
		} {
			other := plainStrip(base)
			change(&other.Sheets[place])
			same("a part", base, other, false)
		}
		other := plainStrip(base)
		s := &other.Sheets[place]
		for i := range s.Rows {
			for j := range s.Rows[i].Cells {
				for k, l := range s.Rows[i].Cells[j].Events {
					if len(l) == 0 {
						s.Rows[i].Cells[j].Events[k] = []api.Event{}
					}
				}
			}
		}
		same("empty lists", base, other, true)
	}
}

// anyStrip is one that may be; one of so many of its sheets is not inter.
func anyStrip(chance *rand.Rand, formats []int, sheets, apart int) api.Strip {
	s := api.Strip{End: chance.Intn(2) == 0}
	format := 0
	for n := range sheets {
		inter := n > 0 && chance.Intn(apart) > 0
		if !inter {
			format = formats[chance.Intn(len(formats))]
		}
		sheet := anySheet(chance, format, inter, 1+chance.Intn(6))
		sheet.Zeros = []int{0, 0, 0, 1, 2, 3, 10, 256}[chance.Intn(8)]
		s.Sheets = append(s.Sheets, sheet)
	}
	return s
}

// P28.2 to P28.4, strips of all formats, of all kinds of sheets.
func TestStrips(t *testing.T) {
	chance := rand.New(rand.NewSource(2))
	for sheets := 1; sheets <= 64; sheets++ {
		for _, apart := range []int{1, 2, 5} {
			writes(t, "small ones", anyStrip(chance, []int{6}, sheets, apart))
		}
	}
	for range 30 {
		writes(t, "of two formats", anyStrip(chance, []int{6, 1}, 1+chance.Intn(6), 2))
	}
	for range 6 {
		writes(t, "of three formats", anyStrip(chance, []int{6, 1, 2}, 1+chance.Intn(4), 2))
	}
	// Cells without events, so that they fit the longest text.
	for _, format := range []int{3, 4, 5} {
		s := strip(first(format), blank(format, true))
		for i := range s.Sheets[1].Rows {
			s.Sheets[1].Rows[i].Head, s.Sheets[1].Rows[i].Quant = i > 0, min(i, 31)
		}
		writes(t, "a great one", s)
		s.End = true
		writes(t, "a great one, ended", s)
	}
}

// Each of a sheet's bytes 0 is that sheet's, whatever comes behind it.
func TestZeros(t *testing.T) {
	for _, zeros := range []int{0, 1, 2, 3, 4, 255, 256, 65536} {
		s := strip(first(6), small(1), small(2))
		for place := range s.Sheets {
			one := with(s, place, func() api.Sheet { sheet := s.Sheets[place]; sheet.Zeros = zeros; return sheet }())
			writes(t, "bytes 0", one)
			one.End = true
			writes(t, "bytes 0, ended", one)
		}
	}
}

// A text has at most so many bytes: bytes 0 fill it up to there, and beyond.
func TestMostBytes(t *testing.T) {
	for _, end := range []bool{false, true} {
		s := api.Strip{Sheets: lot(3).Sheets, End: end}
		room := 262144 - len(lay(t, s))
		for _, place := range []int{0, 1, 2} {
			one := plainStrip(s)
			one.Sheets[place].Zeros = room
			writes(t, "the most bytes", one)
			for _, more := range []int{1, 2, 3, 4} {
				one.Sheets[place].Zeros = room + more
				l := lay(t, one)
				if err := strips.Check(one); err != api.OK {
					t.Fatalf("Check asks how long it is: %d", err)
				}
				if got, err := strips.Write(one); got != "" || err != api.ErrLong {
					t.Fatalf("%d bytes: Write = %d bytes, %d", len(l), len(got), err)
				}
				stops(t, "too long", l, 0, api.ErrLong)
			}
		}
		one := plainStrip(s)
		for place := range one.Sheets {
			one.Sheets[place].Zeros = 262144
		}
		if got, err := strips.Write(one); got != "" || err != api.ErrLong {
			t.Fatalf("Write = %d bytes, %d", len(got), err)
		}
		one.Sheets[2].Zeros = 262145
		refused(t, "too many bytes 0", one, api.ErrTree)
		one.Sheets[2] = blank(1, true)
		refused(t, "another format, and too long", one, api.ErrFirst)
	}
	for _, b := range []string{"\x00", "\xff", ending} {
		stops(t, "too long", strings.Repeat(b, 262145), 0, api.ErrLong)
		stops(t, "too long", strings.Repeat(b, 3000000), 0, api.ErrLong)
	}
	stops(t, "too long", text(t, small(1))+strings.Repeat("\xff", 262138), 0, api.ErrLong)
}

// Sheets that are told in far more bits than a text may have.
func TestFarTooLong(t *testing.T) {
	full := first(2)
	for n := range gridOf(2).count() {
		for i := range 6 {
			for k := range 63 {
				at(full, n).Events[i] = append(at(full, n).Events[i], api.Event{Last: k == 62, Level: 127})
			}
		}
		at(full, n).Stuff = 64
	}
	s := api.Strip{Sheets: slices.Repeat([]api.Sheet{full}, 64), End: true}
	if got, err := strips.Write(s); got != "" || err != api.ErrLong {
		t.Fatalf("Write = %d bytes, %d", len(got), err)
	}
	writes(t, "one of them", strip(full))
}

// P28.2, each number of sheets beyond the most, and what comes ahead of that.
func TestOneSheetTooMany(t *testing.T) {
	full := lay(t, lot(64))
	for _, more := range []string{text(t, small(1)), text(t, first(6)), text(t, blank(1, true)), text(t, first(1)) + "\xff", text(t, small(1)) + ending, text(t, small(1)) + text(t, first(1))} {
		stops(t, "a 65th sheet", full+more, len(full), api.ErrLong)
	}
	stops(t, "a 65th sheet, cut off", full+text(t, small(1))[:6], len(full), api.ErrShort)
	stops(t, "a row's mark", full+"\x00\x00\x84\x00", len(full), api.ErrMark)
	stops(t, "the end's bits", full+"\x00\x00\xfe", len(full), api.ErrForm)
	stops(t, "behind the end", full+ending+text(t, small(1)), len(full), api.ErrForm)
	parses(t, "the end", full+ending, ended(lot(64).Sheets...))
	stops(t, "65 sheets", lay(t, lot(65)), len(full), api.ErrLong)
	stops(t, "1000 sheets", lay(t, lot(1000)), len(full), api.ErrLong)
	stops(t, "the 64th of another format", lay(t, with(lot(65), 63, blank(1, true))), len(lay(t, lot(63))), api.ErrFirst)
}

// P28.2, what stands behind the end's mark.
func TestEnd(t *testing.T) {
	for _, s := range []api.Strip{lot(1), lot(2), strip(first(1)), lot(64)} {
		l := lay(t, s)
		parses(t, "the end", l+ending, ended(s.Sheets...))
		for low := 1; low < 4; low++ {
			mark := "\x00\x00" + string([]byte{byte(0xfc + low)})
			stops(t, "a bit behind the mark", l+mark, len(l), api.ErrForm)
			stops(t, "a bit behind the mark, and more", l+mark+text(t, small(1)), len(l), api.ErrForm)
		}
		for _, more := range []string{"\x00", "\xff", "\x00\x00", ending, text(t, small(1)), strings.Repeat("\x00", 1000), "\x80"} {
			stops(t, "more", l+ending+more, len(l), api.ErrForm)
		}
		// Bytes 0 ahead of the mark are the sheet's.
		zeros := plainStrip(ended(s.Sheets...))
		zeros.Sheets[len(zeros.Sheets)-1].Zeros = 5
		parses(t, "bytes 0 ahead of the mark", l+"\x00\x00\x00\x00\x00"+ending, zeros)
		stops(t, "bytes 0 and a bit behind the mark", l+"\x00\x00\x00\x00\x00\x00\x00\xfd", len(l)+5, api.ErrForm)
	}
	for _, l := range []string{ending, ending + ending, ending + "\x00", "\x00\x00\xff", ending + text(t, first(6))} {
		stops(t, "the end first", l, 0, api.ErrMark)
	}
}

// P28.2, marks of all numbers: a row's is no sheet's.
func TestMarks(t *testing.T) {
	for number := range 32 {
		mark := "\x00\x00" + string([]byte{byte(0x80 + number<<2)})
		begin := lay(t, lot(2))
		switch number {
		case 0:
			stops(t, "a sheet", mark, 0, api.ErrShort)
			stops(t, "a sheet", begin+mark, len(begin), api.ErrShort)
		case 31:
			stops(t, "the end", mark, 0, api.ErrMark)
			parses(t, "the end", begin+mark, ended(lot(2).Sheets...))
		default:
			stops(t, "a row", mark, 0, api.ErrMark)
			stops(t, "a row", begin+mark, len(begin), api.ErrMark)
			stops(t, "a row", begin+mark+begin, len(begin), api.ErrMark)
		}
	}
}

// oracle is what the chapter's words say of a text.
func oracle(l string) (api.Strip, int, api.Errno) {
	if len(l) > 262144 {
		return api.Strip{}, 0, api.ErrLong
	}
	var s api.Strip
	at := 0
	for {
		rest, count := l[at:], len(s.Sheets)
		if rest == "" && count > 0 {
			return s, 0, api.OK
		}
		if rest == "" {
			return api.Strip{}, at, api.ErrShort
		}
		if count > 0 && len(rest) > 2 && rest[0] == 0 && rest[1] == 0 && rest[2]>>2 == 0x3f {
			if rest[2]&3 != 0 || len(rest) > 3 {
				return api.Strip{}, at, api.ErrForm
			}
			s.End = true
			return s, 0, api.OK
		}
		r := inbits.New(rest)
		sheet, err := sheetin.Take(r)
		if err != api.OK {
			return api.Strip{}, at, err
		}
		if count == 64 {
			return api.Strip{}, at, api.ErrLong
		}
		if sheet.Inter && (count == 0 || s.Sheets[count-1].Format != sheet.Format) {
			return api.Strip{}, at, api.ErrFirst
		}
		s.Sheets = append(s.Sheets, sheet)
		at += r.At() / 8
	}
}

// holds asks for a text what the chapter's words say of it.
func holds(t *testing.T, l string) api.Errno {
	t.Helper()
	want, at, err := oracle(l)
	got, where, wrong := strips.Parse(l)
	if where != at || wrong != err || !equalStrips(got, want) {
		t.Fatalf("Parse(%q) = %v, %d, %d, want %v, %d, %d", l, got, where, wrong, want, at, err)
	}
	if err == api.OK {
		if again, err := strips.Write(got); again != l || err != api.OK {
			t.Fatalf("what was parsed is written as another text: %q, %d, from %q", again, err, l)
		}
		if err := strips.Check(got); err != api.OK {
			t.Fatalf("what was parsed may not be: %d", err)
		}
	} else if !reflect.DeepEqual(got, api.Strip{}) {
		t.Fatalf("beside an error: %v", got)
	}
	return err
}

// P28.2 and P28.4, texts that are cut off, turned, put together anew, or any at all.
func TestAnyTexts(t *testing.T) {
	chance := rand.New(rand.NewSource(6))
	met := map[api.Errno]int{}
	for range 40 {
		l := lay(t, anyStrip(chance, []int{6}, 1+chance.Intn(3), 2))
		for end := range len(l) + 1 {
			met[holds(t, l[:end])]++
		}
	}
	for range 4000 {
		s := anyStrip(chance, []int{6, 6, 6, 1}, 1+chance.Intn(3), 2)
		if chance.Intn(8) == 0 {
			chance.Shuffle(len(s.Sheets), func(i, j int) { s.Sheets[i], s.Sheets[j] = s.Sheets[j], s.Sheets[i] })
		}
		l := []byte(lay(t, s))
		for range 1 + chance.Intn(2) {
			i := chance.Intn(len(l))
			switch chance.Intn(5) {
			case 0:
				l[i] ^= 1 << chance.Intn(8)
			case 1:
				l = slices.Delete(l, i, i+1)
			case 2:
				l = slices.Insert(l, i, byte(chance.Intn(256)))
			case 3:
				l = slices.Insert(l, i, make([]byte, chance.Intn(4))...)
			case 4:
				l = append(l, []string{ending, "\x00", "\x00\x00", "\xff", "\x00\x00\x80"}[chance.Intn(5)]...)
			}
		}
		met[holds(t, string(l))]++
	}
	for range 2000 {
		l := make([]byte, chance.Intn(40))
		for i := range l {
			l[i] = byte(chance.Intn(256))
		}
		met[holds(t, string(l))]++
		met[holds(t, "\x00\x00\x80"+string(l))]++
		met[holds(t, "\x00\x00\xfc"+string(l))]++
	}
	for _, err := range []api.Errno{api.OK, api.ErrShort, api.ErrCode, api.ErrMark, api.ErrForm, api.ErrVector, api.ErrOrder, api.ErrFirst} {
		if met[err] < 5 {
			t.Errorf("error %d was met %d times", err, met[err])
		}
	}
}

// Each bit of a text, turned.
func TestEachBit(t *testing.T) {
	chance := rand.New(rand.NewSource(8))
	s := anyStrip(chance, []int{6}, 3, 2)
	s.End = true
	l := []byte(lay(t, s))
	for bit := range 8 * len(l) {
		l[bit/8] ^= 0x80 >> (bit % 8)
		holds(t, string(l))
		l[bit/8] ^= 0x80 >> (bit % 8)
	}
}

// spoil writes to all lists of a strip, up to the ends of their room, but those of one
// sheet.
func spoil(s api.Strip, but int) {
	for i, sheet := range s.Sheets {
		if i == but {
			continue
		}
		for k := range sheet.Supp[:cap(sheet.Supp)] {
			sheet.Supp[:cap(sheet.Supp)][k] = -7
		}
		for _, row := range sheet.Rows {
			for _, c := range row.Cells {
				for _, l := range c.Events {
					for n := range l[:cap(l)] {
						l[:cap(l)][n] = api.Event{Run: -9}
					}
				}
			}
			for n := range row.Cells[:cap(row.Cells)] {
				row.Cells[:cap(row.Cells)][n] = api.Cell{Stuff: -5}
			}
		}
		for n := range sheet.Rows[:cap(sheet.Rows)] {
			sheet.Rows[:cap(sheet.Rows)][n] = api.Row{Id: -3}
		}
	}
	for i := len(s.Sheets); i < cap(s.Sheets); i++ {
		s.Sheets[:cap(s.Sheets)][i] = api.Sheet{Ref: -1}
	}
}

// No two sheets of an answer share memory, nor do those of two answers.
func TestMemory(t *testing.T) {
	chance := rand.New(rand.NewSource(10))
	s := anyStrip(chance, []int{6}, 5, 3)
	for place := range s.Sheets {
		s.Sheets[place].Supp = []int{1, 2, 3}
	}
	l := lay(t, s)
	for but := range 5 {
		one, _, _ := strips.Parse(l)
		other, _, _ := strips.Parse(l)
		spoil(one, but)
		if !equalStrips(other, s) {
			t.Fatal("two answers share a list")
		}
		if !equal(one.Sheets[but], s.Sheets[but]) {
			t.Fatalf("sheet %d shares a list with another one", but)
		}
	}
}

// The room behind a strip's lists stays as it was.
func TestRoomStays(t *testing.T) {
	s := lot(3)
	room := append(slices.Grow(slices.Clone(s.Sheets), 9), small(77))
	s.Sheets = room[:3]
	kept := plain(room[3])
	rows := append(slices.Grow(slices.Clone(s.Sheets[1].Rows), 9), api.Row{Id: 77})
	s.Sheets[1].Rows = rows[:2]
	for range 2 {
		writes(t, "room", s)
		if !strips.Same(s, s) || strips.Check(s) != api.OK || !equal(room[3], kept) || rows[2].Id != 77 {
			t.Fatal("the room behind a list was written to")
		}
	}
}

// What was written reads the same by sheetin, sheet by sheet.
func TestSheetBySheet(t *testing.T) {
	chance := rand.New(rand.NewSource(11))
	s := anyStrip(chance, []int{6, 1}, 20, 3)
	s.End = true
	l, err := strips.Write(s)
	if err != api.OK {
		t.Fatalf("Write = %d", err)
	}
	r := inbits.New(l)
	for n, sheet := range s.Sheets {
		got, err := sheetin.Take(r)
		if err != api.OK || !sound.Same(got, sheet) {
			t.Fatalf("sheet %d is read as another one, %d", n, err)
		}
	}
	if l[r.At()/8:] != ending {
		t.Fatalf("behind the sheets stands %q", l[r.At()/8:])
	}
}
