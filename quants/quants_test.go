package quants_test

import (
	"fmt"
	"math"
	"math/rand"
	"reflect"
	"slices"
	"testing"

	"overspill/api"
	"overspill/quants"
	"overspill/sound"
)

// grid is how the cells of a format stand: so many rows, of so many lines each, and
// so many cells side by side.
type grid struct {
	rows, lines, across int
}

func gridOf(format int) grid {
	return []grid{{6, 1, 8}, {9, 1, 11}, {18, 1, 22}, {18, 2, 44}, {18, 4, 88}, {2, 1, 2}}[format-1]
}

func (g grid) each() int  { return g.lines * g.across }
func (g grid) count() int { return g.rows * g.each() }

// formats are all of them, the small one first.
func formats() []int {
	return []int{6, 1, 2, 3, 4, 5}
}

// kindsOfSheets are those that are not inter, and those that are.
func kindsOfSheets() []bool {
	return []bool{false, true}
}

// stepOf is one of the four steps, other ones for each n.
func stepOf(n int) int {
	return []int{-2, -1, 1, 2}[n%4]
}

// cell is one of that kind that may be, other ones for each n.
func cell(kind, n int) api.Cell {
	c := api.Cell{Kind: kind, Stuff: n / 7 % 3}
	if kind == api.InterQ || kind == api.IntraQ {
		c.Step = stepOf(n)
	}
	for i := range c.Dc {
		if kind == api.Intra || kind == api.IntraQ {
			c.Dc[i] = 1 + (37*i+n)%254
		}
		if (i+n)%4 == 0 {
			c.Events[i] = []api.Event{{Level: -1}, {Last: true, Run: n % 50, Level: 1 + n%127}}
		}
	}
	return c
}

// skipped is a cell of an inter sheet of which nothing more is told.
func skipped() api.Cell {
	return api.Cell{Skip: true}
}

// stepped is a cell with that step.
func stepped(inter bool, step int) api.Cell {
	c := cell(api.IntraQ, 1)
	if inter {
		c = cell(api.InterQ, 1)
	}
	c.Step = step
	return c
}

// blank is a sheet of that quantiser without heads of rows, none of whose cells has a
// step.
func blank(format int, inter bool, quant int) api.Sheet {
	s := api.Sheet{Ref: 5, Format: format, Inter: inter, Quant: quant}
	g := gridOf(format)
	c := cell(api.Intra, 3)
	if inter {
		c = skipped()
	}
	for range g.rows {
		s.Rows = append(s.Rows, api.Row{Cells: slices.Repeat([]api.Cell{c}, g.each())})
	}
	return s
}

// at is the cell of that number.
func at(s api.Sheet, n int) *api.Cell {
	each := gridOf(s.Format).each()
	return &s.Rows[n/each].Cells[n%each]
}

// anySheet is one that may be, in which about one of so many rows has a head, and
// about one of so many cells a step.
func anySheet(chance *rand.Rand, format int, inter bool, heads, cells int) api.Sheet {
	s := blank(format, inter, 1+chance.Intn(31))
	for number := range s.Rows {
		if number > 0 && chance.Intn(heads) == 0 {
			s.Rows[number].Head, s.Rows[number].Id, s.Rows[number].Quant = true, chance.Intn(4), 1+chance.Intn(31)
		}
		for i := range s.Rows[number].Cells {
			s.Rows[number].Cells[i] = anyCell(chance, inter, chance.Intn(cells) == 0)
		}
	}
	return s
}

// anyCell is one that may be in a sheet, whether with a step or without.
func anyCell(chance *rand.Rand, inter, step bool) api.Cell {
	kinds := []int{api.Intra, api.Intra, api.Inter}
	if step {
		kinds = []int{api.IntraQ, api.IntraQ, api.InterQ}
	}
	switch {
	case inter && !step && chance.Intn(3) == 0:
		return skipped()
	case inter:
		return cell(kinds[1+chance.Intn(2)], chance.Intn(1000))
	}
	return cell(kinds[0], chance.Intn(1000))
}

// plain has nil for each list that is empty, and lists of its own.
func plain(s api.Sheet) api.Sheet {
	s.Supp, s.Rows = append([]int(nil), s.Supp...), append([]api.Row(nil), s.Rows...)
	for i := range s.Rows {
		s.Rows[i].Cells = append([]api.Cell(nil), s.Rows[i].Cells...)
		for j := range s.Rows[i].Cells {
			for k, l := range s.Rows[i].Cells[j].Events {
				s.Rows[i].Cells[j].Events[k] = append([]api.Event(nil), l...)
			}
		}
	}
	return s
}

// oracle says by the chapter's words which quantiser is in force at cell n, and at the
// begin of its row if n is not to be counted: it looks back for the last head, and adds
// the steps behind it.
func oracle(s api.Sheet, n int, counted bool) int {
	each := gridOf(s.Format).each()
	quant, first := s.Quant, 0
	for number := n / each; number > 0; number-- {
		if s.Rows[number].Head {
			quant, first = s.Rows[number].Quant, number*each
			break
		}
	}
	for i := first; i < n || counted && i == n; i++ {
		if c := at(s, i); c.Kind == api.InterQ || c.Kind == api.IntraQ {
			quant = min(31, max(1, quant+c.Step))
		}
	}
	return quant
}

// answers asks both calls of a sheet that may be, and that it stays as it was.
func answers(t *testing.T, what string, s api.Sheet, of, first []int) {
	t.Helper()
	kept := plain(s)
	got, err := quants.Of(s)
	if err != api.OK || !slices.Equal(got, of) {
		t.Fatalf("%s: Of = %v, %d, want %v", what, got, err, of)
	}
	got, err = quants.First(s)
	if err != api.OK || !slices.Equal(got, first) {
		t.Fatalf("%s: First = %v, %d, want %v", what, got, err, first)
	}
	if !reflect.DeepEqual(plain(s), kept) {
		t.Fatalf("%s: the sheet was changed", what)
	}
}

// agrees asks both calls of a sheet against the chapter's words, and what follows of
// these.
func agrees(t *testing.T, what string, s api.Sheet) {
	t.Helper()
	g := gridOf(s.Format)
	var of, first []int
	for n := range g.count() {
		if n%g.each() == 0 {
			first = append(first, oracle(s, n, false))
		}
		of = append(of, oracle(s, n, true))
	}
	answers(t, what, s, of, first)
	follows(t, what, s)
}

// follows asks for P30.3, and that a row's first cell is as near its row's begin.
func follows(t *testing.T, what string, s api.Sheet) {
	t.Helper()
	of, _ := quants.Of(s)
	first, _ := quants.First(s)
	g := gridOf(s.Format)
	if len(of) != g.count() || len(first) != g.rows {
		t.Fatalf("%s: %d cells and %d rows", what, len(of), len(first))
	}
	for number, ahead := range first {
		for i, quant := range append([]int{ahead}, of[number*g.each():(number+1)*g.each()]...) {
			if quant < 1 || quant > 31 || quant-ahead > 2 || ahead-quant > 2 {
				t.Fatalf("%s: row %d, place %d: %d behind %d", what, number, i, quant, ahead)
			}
			ahead = quant
		}
	}
}

// refused asks both calls of a sheet that may not be.
func refused(t *testing.T, what string, s api.Sheet, wrong api.Errno) {
	t.Helper()
	kept := plain(s)
	if got, err := quants.Of(s); err != wrong || len(got) > 0 {
		t.Fatalf("%s: Of = %v, %d, want %d", what, got, err, wrong)
	}
	if got, err := quants.First(s); err != wrong || len(got) > 0 {
		t.Fatalf("%s: First = %v, %d, want %d", what, got, err, wrong)
	}
	if !reflect.DeepEqual(plain(s), kept) {
		t.Fatalf("%s: the sheet was changed", what)
	}
}

func TestExample(t *testing.T) {
	s := blank(6, false, 5)
	*at(s, 0) = stepped(false, 2)
	s.Rows[1].Head, s.Rows[1].Quant = true, 9
	answers(t, "the example", s, []int{7, 7, 9, 9}, []int{5, 9})
}

// Some sheets, as they stand on paper.
func TestOnPaper(t *testing.T) {
	s := blank(6, true, 5)
	answers(t, "nothing", s, []int{5, 5, 5, 5}, []int{5, 5})
	*at(s, 1) = stepped(true, -1)
	answers(t, "a step at a row's end", s, []int{5, 4, 4, 4}, []int{5, 4})
	*at(s, 2) = stepped(false, -2)
	answers(t, "a step at a row's begin", s, []int{5, 4, 2, 2}, []int{5, 4})
	*at(s, 3) = stepped(true, -2)
	answers(t, "a step down to the least one", s, []int{5, 4, 2, 1}, []int{5, 4})
	s.Rows[1].Head, s.Rows[1].Quant = true, 31
	answers(t, "a head and a step", s, []int{5, 4, 29, 27}, []int{5, 31})
	*at(s, 2) = stepped(true, 2)
	answers(t, "a step beyond the greatest one", s, []int{5, 4, 31, 29}, []int{5, 31})
	*at(s, 0) = stepped(true, 1)
	*at(s, 1) = stepped(true, 2)
	answers(t, "all cells with steps", s, []int{6, 8, 31, 29}, []int{5, 31})
}

// Each quantiser of a sheet and of a row's head, and each step from it, in both kinds
// that have one.
func TestEachQuantiserAndStep(t *testing.T) {
	for _, inter := range kindsOfSheets() {
		for quant := 1; quant <= 31; quant++ {
			for n := range 4 {
				want := min(31, max(1, quant+stepOf(n)))
				s := blank(6, inter, quant)
				answers(t, "no step", s, []int{quant, quant, quant, quant}, []int{quant, quant})
				*at(s, 0) = stepped(inter, stepOf(n))
				answers(t, "the sheet's quantiser", s, []int{want, want, want, want}, []int{quant, want})
				s.Rows[1].Head, s.Rows[1].Quant = true, 32-quant
				answers(t, "its first row's", s, []int{want, want, 32 - quant, 32 - quant}, []int{quant, 32 - quant})

				s = blank(6, inter, 32-quant)
				s.Rows[1].Head, s.Rows[1].Quant, s.Rows[1].Id = true, quant, n
				*at(s, 2) = stepped(inter, stepOf(n))
				answers(t, "a head's quantiser", s, []int{32 - quant, 32 - quant, want, want}, []int{32 - quant, quant})
			}
		}
	}
}

// Cells without steps leave the quantiser, whatever is in them.
func TestCellsWithoutSteps(t *testing.T) {
	for kind := range 4 {
		for n := range 28 {
			c := cell([]int{api.Inter, api.Intra, api.Inter, api.Intra}[kind], n)
			if kind == 2 {
				c = api.Cell{Skip: true, Stuff: n}
			}
			s := blank(6, true, 1+n)
			*at(s, 0), *at(s, 2), *at(s, 3) = c, c, c
			*at(s, 1) = stepped(n%2 == 0, 2)
			answers(t, "no steps", s, []int{1 + n, 3 + n, 3 + n, 3 + n}, []int{1 + n, 3 + n})
		}
	}
	for x := range 32 {
		s := blank(6, true, 7)
		*at(s, 0) = api.Cell{Mv: [2]int{x, 31 - x}}
		answers(t, "a vector", s, []int{7, 7, 7, 7}, []int{7, 7})
	}
}

// One cell alone has a step, each in turn: it holds from it on, over rows without
// heads.
func TestEachCellsStep(t *testing.T) {
	for _, format := range []int{6, 1, 2, 3} {
		g := gridOf(format)
		for n := range g.count() {
			s := blank(format, true, 16)
			*at(s, n) = stepped(n%2 == 0, stepOf(n))
			of, first := slices.Repeat([]int{16}, g.count()), slices.Repeat([]int{16}, g.rows)
			for i := n; i < g.count(); i++ {
				of[i] = 16 + stepOf(n)
			}
			for number := range g.rows {
				if number*g.each() > n {
					first[number] = 16 + stepOf(n)
				}
			}
			answers(t, fmt.Sprint("format ", format, ", cell ", n), s, of, first)
		}
	}
}

// One row alone has a head, each in turn: it holds from it on, over those without.
func TestEachRowsHead(t *testing.T) {
	for _, format := range formats() {
		g := gridOf(format)
		for number := 1; number < g.rows; number++ {
			s := blank(format, format%2 == 0, 31)
			s.Rows[number].Head, s.Rows[number].Quant = true, number
			of, first := slices.Repeat([]int{31}, g.count()), slices.Repeat([]int{31}, g.rows)
			for i := number * g.each(); i < g.count(); i++ {
				of[i] = number
			}
			for i := number; i < g.rows; i++ {
				first[i] = number
			}
			answers(t, fmt.Sprint("format ", format, ", row ", number), s, of, first)
		}
	}
}

// Steps one behind the other, all up or all down, come to an end and stay there, and
// lead back from there at once.
func TestUpAndDown(t *testing.T) {
	for _, format := range []int{1, 2} {
		for _, inter := range kindsOfSheets() {
			for n := range 4 {
				for turn := range 40 {
					s := blank(format, inter, 1+turn%31)
					for i := range gridOf(format).count() {
						step := stepOf(n)
						if i%40 >= turn {
							step = -step
						}
						*at(s, i) = stepped(inter, step)
					}
					agrees(t, "up and down", s)
				}
			}
		}
	}
}

// Sheets of all formats, with heads at all rows, at some, and at none, and with steps
// of all cells, of some, and of none.
func TestAnySheets(t *testing.T) {
	chance := rand.New(rand.NewSource(30))
	for _, format := range formats() {
		times := max(1, 600/gridOf(format).count())
		for _, inter := range kindsOfSheets() {
			for _, heads := range []int{1, 2, 6, 1000000} {
				for _, cells := range []int{1, 3, 20, 1000000} {
					if format >= 4 && (heads != 6 || cells != 3) {
						continue
					}
					for range times {
						s := anySheet(chance, format, inter, heads, cells)
						if format < 5 {
							agrees(t, "any sheet", s)
						} else {
							follows(t, "any sheet", s)
						}
					}
				}
			}
		}
	}
}

// Of the greatest format the last row's quantisers are those that the steps of all rows
// lead to.
func TestGreatestFormat(t *testing.T) {
	s := blank(5, true, 1)
	of, first := []int(nil), []int(nil)
	for number := range 18 {
		s.Rows[number].Cells[351] = stepped(true, 1)
		of = append(of, slices.Repeat([]int{number + 1}, 351)...)
		of, first = append(of, number+2), append(first, number+1)
	}
	answers(t, "a step at each row's end", s, of, first)
	s.Rows[17].Head, s.Rows[17].Quant = true, 3
	first[17] = 3
	copy(of[17*352:], slices.Repeat([]int{3}, 351))
	of[18*352-1] = 4
	answers(t, "and a head at the last one", s, of, first)
}

// faults are changes by which no sheet may be.
func faults() []func(s *api.Sheet) {
	last := func(s *api.Sheet) *api.Row { return &s.Rows[len(s.Rows)-1] }
	end := func(s *api.Sheet) *api.Cell { return &last(s).Cells[len(last(s).Cells)-1] }
	return []func(s *api.Sheet){
		func(s *api.Sheet) { s.Ref = 256 },
		func(s *api.Sheet) { s.Flags = -1 },
		func(s *api.Sheet) { s.Format = 0 },
		func(s *api.Sheet) { s.Format = 7 },
		func(s *api.Sheet) { s.Format = math.MinInt },
		func(s *api.Sheet) { s.Format = 1 + s.Format%6 },
		func(s *api.Sheet) { s.Quant = 0 },
		func(s *api.Sheet) { s.Quant = 32 },
		func(s *api.Sheet) { s.Quant = math.MaxInt },
		func(s *api.Sheet) { s.Supp = []int{256} },
		func(s *api.Sheet) { s.Zeros = -1 },
		func(s *api.Sheet) { s.Zeros = 262145 },
		func(s *api.Sheet) { s.Rows = nil },
		func(s *api.Sheet) { s.Rows = s.Rows[1:] },
		func(s *api.Sheet) { s.Rows = append(s.Rows, s.Rows[0]) },
		func(s *api.Sheet) { s.Rows[0].Head, s.Rows[0].Quant = true, 1 },
		func(s *api.Sheet) { s.Rows[0].Quant = 1 },
		func(s *api.Sheet) { last(s).Head, last(s).Id, last(s).Quant = true, 4, 1 },
		func(s *api.Sheet) { last(s).Head, last(s).Id, last(s).Quant = true, 0, 0 },
		func(s *api.Sheet) { last(s).Head, last(s).Id, last(s).Quant = true, 0, 32 },
		func(s *api.Sheet) { last(s).Head, last(s).Id, last(s).Quant = false, 0, 9 },
		func(s *api.Sheet) { last(s).Cells = last(s).Cells[1:] },
		func(s *api.Sheet) { last(s).Cells = append(last(s).Cells, skipped()) },
		func(s *api.Sheet) { *end(s) = api.Cell{Kind: api.Four} },
		func(s *api.Sheet) { *end(s) = stepped(false, 0) },
		func(s *api.Sheet) { *end(s) = stepped(false, 3) },
		func(s *api.Sheet) { *end(s) = stepped(false, math.MinInt) },
		func(s *api.Sheet) { *end(s) = cell(api.Intra, 1); end(s).Step = 1 },
		func(s *api.Sheet) { *end(s) = api.Cell{Skip: true, Kind: api.InterQ, Step: 1} },
		func(s *api.Sheet) { *end(s) = api.Cell{Mv: [2]int{32, 0}} },
	}
}

// Sheets that may not be; a vector that leads outside is told behind all else.
func TestWrongSheets(t *testing.T) {
	chance := rand.New(rand.NewSource(31))
	for _, format := range formats() {
		for _, inter := range kindsOfSheets() {
			for n, fault := range faults() {
				if format == 5 && n%5 > 0 {
					continue
				}
				s := anySheet(chance, format, inter, 2, 2)
				fault(&s)
				refused(t, fmt.Sprint("fault ", n), s, api.ErrTree)
				if inter && len(s.Rows) > 0 {
					s.Rows[0].Cells[0] = api.Cell{Mv: [2]int{-1, 0}}
					refused(t, fmt.Sprint("fault ", n, " and a vector"), s, api.ErrTree)
				}
			}
		}
		s := blank(format, true, 9)
		*at(s, gridOf(format).count()-1) = api.Cell{Kind: api.InterQ, Step: 1, Mv: [2]int{0, 1}}
		refused(t, "a vector", s, api.ErrVector)
		s.Inter = false
		refused(t, "skipped cells", s, api.ErrTree)
	}
}

// Sheets that no call made.
func TestAnything(t *testing.T) {
	for _, s := range []api.Sheet{
		{}, {Format: 6, Quant: 1}, {Format: 6, Quant: 1, Rows: make([]api.Row, 2)}, {Format: math.MinInt, Quant: 1},
		{Format: 6, Quant: 1, Rows: []api.Row{{Cells: make([]api.Cell, 2)}, {Cells: make([]api.Cell, 2)}}},
		{Format: 6, Quant: 1, Inter: true, Rows: make([]api.Row, 100000)}, {Rows: []api.Row{{Cells: make([]api.Cell, 4)}}},
	} {
		refused(t, "anything", s, api.ErrTree)
	}
	s := api.Sheet{Format: 6, Quant: 1, Inter: true, Rows: []api.Row{{Cells: make([]api.Cell, 2)}, {Cells: make([]api.Cell, 2)}}}
	answers(t, "cells of nothing", s, []int{1, 1, 1, 1}, []int{1, 1})
}

// Sheets some of whose parts are other ones: what Check tells of them is told, or the
// quantisers by the chapter's words.
func TestAnyChanges(t *testing.T) {
	chance := rand.New(rand.NewSource(32))
	numbers := []int{math.MinInt, -3, -2, -1, 0, 1, 2, 3, 4, 5, 30, 31, 32, math.MaxInt}
	met := map[api.Errno]int{}
	for n := range 20000 {
		s := anySheet(chance, []int{6, 6, 6, 1}[n%4], n%3 > 0, 2, 2)
		for range chance.Intn(3) {
			any := numbers[chance.Intn(len(numbers))]
			row := &s.Rows[chance.Intn(len(s.Rows))]
			c := &row.Cells[chance.Intn(len(row.Cells))]
			[]func(){
				func() { s.Quant = any },
				func() { row.Quant = any },
				func() { row.Head = !row.Head },
				func() { c.Step = any },
				func() { c.Kind = any },
				func() { c.Skip = !c.Skip },
				func() { *c = api.Cell{Mv: [2]int{any, 0}} },
			}[chance.Intn(7)]()
		}
		want := sound.Check(s)
		met[want]++
		if want == api.OK {
			agrees(t, "changed", s)
		} else {
			refused(t, "changed", s, want)
		}
	}
	for _, err := range []api.Errno{api.OK, api.ErrTree, api.ErrVector} {
		if met[err] < 100 {
			t.Errorf("error %d was met %d times", err, met[err])
		}
	}
}

// Each answer is a list of its own, and the same each time.
func TestAnswersShareNothing(t *testing.T) {
	s := anySheet(rand.New(rand.NewSource(33)), 1, true, 2, 2)
	for range 3 {
		agrees(t, "asked again", s)
		of, _ := quants.Of(s)
		first, _ := quants.First(s)
		clear(of[:cap(of)])
		clear(first[:cap(first)])
	}
	of, _ := quants.Of(s)
	kept := slices.Clone(of)
	*at(s, 0) = stepped(true, 2)
	s.Rows[1].Quant = 31
	if !slices.Equal(of, kept) {
		t.Fatal("the answer hangs on the sheet")
	}
}

// The room behind the lists of a sheet stays as it was.
func TestRoomStays(t *testing.T) {
	s := blank(6, true, 5)
	s.Supp = []int{1, 2}
	*at(s, 1) = cell(api.InterQ, 4)
	s.Supp = append(slices.Grow(s.Supp, 9), 77)[:len(s.Supp)]
	s.Rows = append(slices.Grow(s.Rows, 9), api.Row{Id: 77})[:len(s.Rows)]
	for i := range s.Rows {
		cells := s.Rows[i].Cells
		for j := range cells {
			for k, l := range cells[j].Events {
				cells[j].Events[k] = append(slices.Grow(l, 9), api.Event{Run: 77})[:len(l)]
			}
		}
		s.Rows[i].Cells = append(slices.Grow(cells, 9), api.Cell{Stuff: 77})[:len(cells)]
	}
	answers(t, "room", s, []int{5, 3, 3, 3}, []int{5, 3})
	stays := s.Supp[:3][2] == 77 && s.Rows[:3][2].Id == 77
	for _, row := range s.Rows {
		stays = stays && row.Cells[:3][2].Stuff == 77
		for _, c := range row.Cells {
			for _, l := range c.Events {
				stays = stays && l[:len(l)+1][len(l)].Run == 77
			}
		}
	}
	if !stays {
		t.Fatal("the room behind a list was written to")
	}
}
