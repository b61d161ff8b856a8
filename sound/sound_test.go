package sound_test

import (
	"math"
	"math/rand"
	"reflect"
	"slices"
	"testing"

	"overspill/api"
	"overspill/sound"
)

type list = []api.Event

// grid is how the cells of a format stand: so many rows, of so many lines each, and
// so many cells side by side.
type grid struct {
	rows, lines, across int
}

// grids are those of the formats from 1 on, as they stand on paper.
func grids() []grid {
	return []grid{{6, 1, 8}, {9, 1, 11}, {18, 1, 22}, {18, 2, 44}, {18, 4, 88}, {2, 1, 2}}
}

func gridOf(format int) grid {
	return grids()[format-1]
}

// formats are all of them, the small one first.
func formats() []int {
	return []int{6, 1, 2, 3, 4, 5}
}

// small are those of few cells.
func small() []int {
	return []int{6, 1, 2}
}

// sheets are the two kinds of them.
func sheets() []bool {
	return []bool{false, true}
}

// ends are numbers at both ends of an int, and of narrower ones.
func ends() []int {
	return []int{
		math.MinInt, math.MinInt + 1, math.MinInt32 - 1, math.MinInt32, -1 << 22, -65536, -257, -256, -33,
		256, 257, 65536, math.MaxInt32, math.MaxInt32 + 1, 1 << 32, 1<<32 + 1, math.MaxInt - 1, math.MaxInt,
	}
}

// some are events, other ones for each n.
func some(n int) list {
	return []list{
		{{Last: true, Level: 1}},
		{{Level: -1}, {Last: true, Run: 2, Level: 1}},
		nil,
		{{Run: 1, Level: 100}, {Level: 2}, {Last: true, Level: -1}},
		{{Last: true, Run: 62, Level: 127}},
		{{Level: 1}, {Level: -2}, {Level: 3}, {Last: true, Run: 5, Level: -127}},
		{},
	}[n%7]
}

// cell is one of that kind that may be, other ones for each n, without a vector.
func cell(kind, n int) api.Cell {
	c := api.Cell{Stuff: n % 3, Kind: kind}
	if kind == api.InterQ || kind == api.IntraQ {
		c.Step = []int{-2, -1, 1, 2}[n%4]
	}
	for i := range c.Events {
		if kind == api.Intra || kind == api.IntraQ {
			c.Dc[i] = 1 + (37*i+n)%254
		}
		c.Events[i] = slices.Clone(some(i + n))
	}
	return c
}

// skipped is a cell of an inter sheet of which nothing more is told.
func skipped(n int) api.Cell {
	return api.Cell{Stuff: n % 4, Skip: true}
}

// turn is a cell that may be in a sheet, wherever it stands: of all kinds in turn.
func turn(inter bool, n int) api.Cell {
	if !inter {
		return cell([]int{api.Intra, api.IntraQ}[n%2], n)
	}
	if n%6 == 2 || n%6 == 5 {
		return skipped(n)
	}
	return cell([]int{api.Intra, api.IntraQ, 0, api.Inter, api.InterQ}[n%6], n)
}

// kinds are cells of all kinds that may be in a sheet.
func kinds(inter bool, n int) []api.Cell {
	var l []api.Cell
	for i := range 6 {
		l = append(l, turn(inter, 6*n+i))
	}
	return l
}

// sheet is one that may be: cells of all kinds, rows with heads and without.
func sheet(format int, inter bool) api.Sheet {
	s := api.Sheet{Ref: 200, Flags: 5, Format: format, Inter: inter, Quant: 17, Supp: []int{1, 255}, Zeros: 3}
	g, n := gridOf(format), 0
	for number := range g.rows {
		var row api.Row
		if number%3 > 0 {
			row.Head, row.Id, row.Quant = true, number%4, 1+7*number%31
		}
		for range g.lines * g.across {
			row.Cells = append(row.Cells, turn(inter, n))
			n++
		}
		s.Rows = append(s.Rows, row)
	}
	return s
}

// clone has lists of its own.
func clone(s api.Sheet) api.Sheet {
	s.Supp, s.Rows = slices.Clone(s.Supp), slices.Clone(s.Rows)
	for i := range s.Rows {
		s.Rows[i].Cells = cloneCells(s.Rows[i].Cells)
	}
	return s
}

func cloneCells(cells []api.Cell) []api.Cell {
	cells = slices.Clone(cells)
	for j := range cells {
		for k, l := range cells[j].Events {
			cells[j].Events[k] = slices.Clone(l)
		}
	}
	return cells
}

// equal asks all parts, field by field; nil and empty lists are the same.
func equal(a, b api.Sheet) bool {
	for i := range min(len(a.Rows), len(b.Rows)) {
		if !equalCells(a.Rows[i].Cells, b.Rows[i].Cells) {
			return false
		}
	}
	return reflect.DeepEqual(hollow(a), hollow(b))
}

// hollow has no cells in its rows, and no list that is empty.
func hollow(s api.Sheet) api.Sheet {
	s.Supp, s.Rows = append([]int(nil), s.Supp...), append([]api.Row(nil), s.Rows...)
	for i := range s.Rows {
		s.Rows[i].Cells = nil
	}
	return s
}

func equalCells(a, b []api.Cell) bool {
	if len(a) != len(b) {
		return false
	}
	for i := range a {
		for k := range a[i].Events {
			if !slices.Equal(a[i].Events[k], b[i].Events[k]) {
				return false
			}
		}
		c, d := a[i], b[i]
		c.Events, d.Events = [6][]api.Event{}, [6][]api.Event{}
		if !reflect.DeepEqual(c, d) {
			return false
		}
	}
	return true
}

// emptied has an empty list where s has none, and none where it has an empty one.
func emptied(s api.Sheet) api.Sheet {
	s = clone(s)
	for _, row := range s.Rows {
		for j := range row.Cells {
			for k, l := range row.Cells[j].Events {
				switch {
				case l == nil:
					row.Cells[j].Events[k] = list{}
				case len(l) == 0:
					row.Cells[j].Events[k] = nil
				}
			}
		}
	}
	return s
}

// inside is whether a vector leads from cell n of a format to samples of luma that
// are all there, reckoned sample by sample in one line and one column.
func inside(format, n int, mv [2]int) bool {
	g := gridOf(format)
	cells := [2]int{g.across, g.rows * g.lines}
	place := [2]int{n % g.across, n / g.across}
	for i, v := range mv {
		for sample := 16 * place[i]; sample < 16*place[i]+16; sample++ {
			halves := 2*sample + v
			if halves < 0 || halves > 2*(16*cells[i]-1) {
				return false
			}
		}
	}
	return true
}

// checked says by the chapters' words why a sheet may not be.
func checked(s api.Sheet) api.Errno {
	if !rightHead(s) || s.Zeros < 0 || s.Zeros > 262144 || len(s.Rows) != gridOf(s.Format).rows {
		return api.ErrTree
	}
	g, wrong, n := gridOf(s.Format), api.OK, 0
	for number, row := range s.Rows {
		if len(row.Cells) != g.lines*g.across {
			return api.ErrTree
		}
		if row.Head && (number == 0 || row.Id < 0 || row.Id > 3 || row.Quant < 1 || row.Quant > 31) {
			return api.ErrTree
		}
		if !row.Head && (row.Id != 0 || row.Quant != 0) {
			return api.ErrTree
		}
		for _, c := range row.Cells {
			if !rightCell(s.Inter, c) {
				return api.ErrTree
			}
			if c.Kind != api.Intra && c.Kind != api.IntraQ && !inside(s.Format, n, c.Mv) {
				wrong = api.ErrVector
			}
			n++
		}
	}
	return wrong
}

// rightHead is whether a sheet's head may be, by chapter 24.
func rightHead(s api.Sheet) bool {
	for _, b := range s.Supp {
		if b < 0 || b > 255 {
			return false
		}
	}
	return s.Ref >= 0 && s.Ref <= 255 && s.Flags >= 0 && s.Flags <= 7 && s.Format >= 1 && s.Format <= 6 &&
		s.Quant >= 1 && s.Quant <= 31 && len(s.Supp) <= 8
}

// rightCell is whether a cell may be, by chapter 22.
func rightCell(inter bool, c api.Cell) bool {
	if c.Stuff < 0 || c.Stuff > 64 {
		return false
	}
	if c.Skip {
		return inter && equalCells([]api.Cell{c}, []api.Cell{{Stuff: c.Stuff, Skip: true}})
	}
	intra := c.Kind == api.Intra || c.Kind == api.IntraQ
	if !intra && (!inter || c.Kind != api.Inter && c.Kind != api.InterQ) {
		return false
	}
	stepped := c.Kind == api.InterQ || c.Kind == api.IntraQ
	if stepped != (c.Step != 0) || c.Step < -2 || c.Step > 2 {
		return false
	}
	for _, n := range c.Mv {
		if n < -32 || n > 31 || intra && n != 0 {
			return false
		}
	}
	for i, l := range c.Events {
		if !rightBlock(intra, c.Dc[i], l) {
			return false
		}
	}
	return true
}

// rightBlock is whether a block may be, by chapters 9, 10 and 15.
func rightBlock(intra bool, dc int, l list) bool {
	number := -1
	if intra {
		number = 0
	}
	if intra && (dc < 1 || dc > 254) || !intra && dc != 0 {
		return false
	}
	for i, e := range l {
		if e.Run < 0 || e.Run > 63 || e.Level == 0 || e.Level < -127 || e.Level > 127 || e.Last != (i == len(l)-1) {
			return false
		}
		number += 1 + e.Run
		if number > 63 {
			return false
		}
	}
	return true
}

// check asks why a sheet may not be, and that it stays as it was.
func check(t *testing.T, what string, s api.Sheet, want api.Errno) {
	t.Helper()
	kept := clone(s)
	if got := sound.Check(s); got != want {
		t.Fatalf("%s: Check = %d, want %d", what, got, want)
	}
	if !equal(s, kept) {
		t.Fatalf("%s: Check changed the sheet", what)
	}
	if got := checked(s); got != want {
		t.Fatalf("%s: by the chapter's words it is %d, want %d", what, got, want)
	}
}

// changed asks of a sheet that may be, and that is changed so, why it may not be.
func changed(t *testing.T, what string, format int, inter bool, want api.Errno, change func(s *api.Sheet)) {
	t.Helper()
	s := sheet(format, inter)
	change(&s)
	check(t, what, s, want)
}

// at is the cell of that number.
func at(s *api.Sheet, n int) *api.Cell {
	g := gridOf(s.Format)
	return &s.Rows[n/(g.lines*g.across)].Cells[n%(g.lines*g.across)]
}

// count is how many cells a format has.
func count(format int) int {
	g := gridOf(format)
	return g.rows * g.lines * g.across
}

// places are numbers of cells of a format: those around the ends of lines and rows.
func places(format int) []int {
	g := gridOf(format)
	each := g.lines * g.across
	l := []int{0, 1, g.across - 1, g.across, each - 1, each, each + g.across - 1, 2*each - 1, count(format) - each, count(format) - g.across, count(format) - 1}
	slices.Sort(l)
	l = slices.Compact(l)
	return slices.DeleteFunc(l, func(n int) bool { return n >= count(format) })
}

func TestExample(t *testing.T) {
	intra := api.Cell{Kind: api.Intra, Dc: [6]int{1, 1, 1, 1, 1, 1}}
	rows := func(first api.Cell) []api.Row {
		return []api.Row{{Cells: []api.Cell{first, intra}}, {Cells: []api.Cell{intra, intra}}}
	}
	s := api.Sheet{Format: 6, Quant: 1, Rows: rows(intra)}
	check(t, "four cells", s, api.OK)
	s.Inter = true
	check(t, "an inter sheet of them", s, api.OK)
	for _, mv := range [][2]int{{-1, 0}, {0, -1}, {-1, -1}} {
		s.Rows = rows(api.Cell{Mv: mv})
		check(t, "a vector of -1", s, api.ErrVector)
	}
	s.Rows = rows(api.Cell{Mv: [2]int{1, 1}})
	check(t, "a vector of 1", s, api.OK)
}

// P25.1, what may be.
func TestCheckOfRightSheets(t *testing.T) {
	for _, format := range formats() {
		for _, inter := range sheets() {
			check(t, "a sheet of all kinds", sheet(format, inter), api.OK)
			for _, c := range kinds(inter, format) {
				s := sheet(format, inter)
				for n := range count(format) {
					*at(&s, n) = c
				}
				check(t, "a sheet of one kind", s, api.OK)
			}
		}
	}
}

func TestCheckOfRightHeads(t *testing.T) {
	for _, inter := range sheets() {
		for n := range 256 {
			changed(t, "a head", 6, inter, api.OK, func(s *api.Sheet) {
				s.Ref, s.Flags, s.Quant = n, n%8, 1+n%31
				s.Supp = slices.Repeat([]int{n}, n%9)
			})
		}
		for _, supp := range [][]int{nil, {}, {0, 0, 0, 0, 0, 0, 0, 0}, {255, 255, 255, 255, 255, 255, 255, 255}} {
			changed(t, "bytes beside it", 6, inter, api.OK, func(s *api.Sheet) { s.Supp = supp })
		}
		for _, zeros := range []int{0, 1, 2, 255, 256, 65536, 262143, 262144} {
			changed(t, "zeros", 6, inter, api.OK, func(s *api.Sheet) { s.Zeros = zeros })
		}
	}
}

func TestCheckOfRightRowHeads(t *testing.T) {
	for _, format := range small() {
		for number := 1; number < gridOf(format).rows; number++ {
			s := sheet(format, true)
			for n := range 4 * 31 {
				s.Rows[number].Head, s.Rows[number].Id, s.Rows[number].Quant = true, n%4, 1+n/4
				if err := sound.Check(s); err != api.OK {
					t.Fatalf("format %d: a head of %d, %d of row %d: %d", format, n%4, 1+n/4, number, err)
				}
			}
			s.Rows[number] = api.Row{Cells: s.Rows[number].Cells}
			check(t, "a row without a head", s, api.OK)
		}
	}
}

// P25.1, what may not be: of the head.
func TestCheckOfWrongHeads(t *testing.T) {
	for _, inter := range sheets() {
		for _, n := range append(ends(), -1) {
			changed(t, "ref", 6, inter, api.ErrTree, func(s *api.Sheet) { s.Ref = n })
			changed(t, "flags", 6, inter, api.ErrTree, func(s *api.Sheet) { s.Flags = n })
			changed(t, "format", 6, inter, api.ErrTree, func(s *api.Sheet) { s.Format = n })
			changed(t, "quant", 6, inter, api.ErrTree, func(s *api.Sheet) { s.Quant = n })
			changed(t, "a byte", 6, inter, api.ErrTree, func(s *api.Sheet) { s.Supp = []int{n} })
			changed(t, "the last byte", 6, inter, api.ErrTree, func(s *api.Sheet) { s.Supp = []int{0, 0, 0, 0, 0, 0, 0, n} })
		}
		changed(t, "flags 8", 6, inter, api.ErrTree, func(s *api.Sheet) { s.Flags = 8 })
		changed(t, "format 0", 6, inter, api.ErrTree, func(s *api.Sheet) { s.Format = 0 })
		changed(t, "format 7", 6, inter, api.ErrTree, func(s *api.Sheet) { s.Format = 7 })
		changed(t, "quant 0", 6, inter, api.ErrTree, func(s *api.Sheet) { s.Quant = 0 })
		changed(t, "quant 32", 6, inter, api.ErrTree, func(s *api.Sheet) { s.Quant = 32 })
		changed(t, "nine bytes", 6, inter, api.ErrTree, func(s *api.Sheet) { s.Supp = make([]int, 9) })
		changed(t, "many bytes", 6, inter, api.ErrTree, func(s *api.Sheet) { s.Supp = make([]int, 256) })
	}
}

func TestCheckOfWrongZeros(t *testing.T) {
	for _, inter := range sheets() {
		for _, n := range []int{-1, -2, 262145, 262146, 1 << 19, math.MinInt, math.MinInt + 1, math.MinInt32, math.MaxInt32, 1 << 32, 1<<32 + 1, math.MaxInt} {
			changed(t, "zeros", 6, inter, api.ErrTree, func(s *api.Sheet) { s.Zeros = n })
		}
	}
}

// Rows and cells as many as another format has, or one less or more.
func TestCheckOfWrongRows(t *testing.T) {
	for _, format := range formats() {
		for _, inter := range sheets() {
			rows := gridOf(format).rows
			for _, n := range []int{0, 1, rows / 2, rows - 1} {
				changed(t, "too few rows", format, inter, api.ErrTree, func(s *api.Sheet) { s.Rows = s.Rows[:n] })
			}
			changed(t, "nil for rows", format, inter, api.ErrTree, func(s *api.Sheet) { s.Rows = nil })
			changed(t, "a row more", format, inter, api.ErrTree, func(s *api.Sheet) { s.Rows = append(s.Rows, s.Rows[rows-1]) })
			changed(t, "an empty row more", format, inter, api.ErrTree, func(s *api.Sheet) { s.Rows = append(s.Rows, api.Row{}) })
			changed(t, "another first row", format, inter, api.ErrTree, func(s *api.Sheet) { s.Rows = s.Rows[1:] })
			for _, other := range formats() {
				if other != format {
					changed(t, "another format", format, inter, api.ErrTree, func(s *api.Sheet) { s.Format = other })
				}
			}
		}
	}
}

func TestCheckOfWrongCounts(t *testing.T) {
	for _, format := range formats() {
		for _, inter := range sheets() {
			g := gridOf(format)
			each := g.lines * g.across
			for _, number := range []int{0, g.rows - 1} {
				for _, n := range []int{0, 1, each - 1} {
					changed(t, "too few cells", format, inter, api.ErrTree, func(s *api.Sheet) { s.Rows[number].Cells = s.Rows[number].Cells[:n] })
				}
				changed(t, "a cell more", format, inter, api.ErrTree, func(s *api.Sheet) {
					s.Rows[number].Cells = append(s.Rows[number].Cells, cell(api.Intra, 0))
				})
				changed(t, "a line more", format, inter, api.ErrTree, func(s *api.Sheet) {
					s.Rows[number].Cells = append(s.Rows[number].Cells, s.Rows[number].Cells[:g.across]...)
				})
				changed(t, "a cell in another row", format, inter, api.ErrTree, func(s *api.Sheet) {
					from, to := &s.Rows[number], &s.Rows[(number+1)%g.rows]
					to.Cells = append(to.Cells, from.Cells[each-1])
					from.Cells = from.Cells[:each-1]
				})
			}
			changed(t, "all cells in one row", format, inter, api.ErrTree, func(s *api.Sheet) {
				all := sound.Cells(*s)
				s.Rows = []api.Row{{Cells: all}}
			})
		}
	}
}

func TestCheckOfWrongRowHeads(t *testing.T) {
	for _, format := range small() {
		for _, number := range []int{0, 1, gridOf(format).rows - 1} {
			for _, n := range append(ends(), -1, 1, 2, 31) {
				changed(t, "an id without a head", format, true, api.ErrTree, func(s *api.Sheet) {
					s.Rows[number].Head, s.Rows[number].Id, s.Rows[number].Quant = false, n, 0
				})
				changed(t, "a quantiser without a head", format, true, api.ErrTree, func(s *api.Sheet) {
					s.Rows[number].Head, s.Rows[number].Id, s.Rows[number].Quant = false, 0, n
				})
			}
			for _, n := range append(ends(), -1, 4, 5, 32) {
				changed(t, "a head's id", format, false, api.ErrTree, func(s *api.Sheet) {
					s.Rows[number].Head, s.Rows[number].Id, s.Rows[number].Quant = true, n, 5
				})
			}
			for _, n := range append(ends(), -1, 0, 32, 33) {
				changed(t, "a head's quantiser", format, false, api.ErrTree, func(s *api.Sheet) {
					s.Rows[number].Head, s.Rows[number].Id, s.Rows[number].Quant = true, 1, n
				})
			}
		}
	}
}

// The first row has no head, whatever the head is.
func TestCheckOfFirstHead(t *testing.T) {
	for _, format := range small() {
		for n := range 4 * 32 {
			changed(t, "the first row's head", format, n%2 == 0, api.ErrTree, func(s *api.Sheet) {
				s.Rows[0].Head, s.Rows[0].Id, s.Rows[0].Quant = true, n/32, n%32
			})
		}
	}
}

// faults are changes by which a cell may not be in any sheet.
func faults() []func(c *api.Cell) {
	l := []func(c *api.Cell){
		func(c *api.Cell) { c.Stuff = -1 },
		func(c *api.Cell) { c.Stuff = 65 },
		func(c *api.Cell) { *c = api.Cell{Kind: api.Four} },
		func(c *api.Cell) { *c = api.Cell{Kind: 5} },
		func(c *api.Cell) { *c = api.Cell{Kind: -1} },
		func(c *api.Cell) { *c = cell(api.Intra, 1); c.Step = 1 },
		func(c *api.Cell) { *c = cell(api.IntraQ, 1); c.Step = 0 },
		func(c *api.Cell) { *c = cell(api.Intra, 1); c.Mv[0] = 1 },
		func(c *api.Cell) { *c = cell(api.IntraQ, 1); c.Mv[1] = -1 },
		func(c *api.Cell) { *c = cell(api.Intra, 1); c.Dc[5] = 0 },
		func(c *api.Cell) { *c = cell(api.Intra, 1); c.Dc[0] = 255 },
		func(c *api.Cell) { *c = cell(api.Intra, 1); c.Events[5] = list{{Level: 1}} },
		func(c *api.Cell) { *c = cell(api.Intra, 1); c.Events[0] = list{{Last: true, Run: 63, Level: 1}} },
		func(c *api.Cell) { *c = cell(api.Inter, 1); c.Mv = [2]int{32, 0} },
		func(c *api.Cell) { *c = cell(api.Inter, 1); c.Mv = [2]int{0, -33} },
		func(c *api.Cell) { *c = cell(api.InterQ, 1); c.Mv = [2]int{math.MaxInt, math.MinInt} },
		func(c *api.Cell) { *c = cell(api.Inter, 1); c.Step = 2 },
		func(c *api.Cell) { *c = cell(api.InterQ, 1); c.Step = 3 },
		func(c *api.Cell) { *c = cell(api.Inter, 1); c.Dc[3] = 1 },
		func(c *api.Cell) { *c = cell(api.Inter, 1); c.Events[2] = list{{Last: true}} },
		func(c *api.Cell) { *c = api.Cell{Skip: true, Kind: api.InterQ} },
		func(c *api.Cell) { *c = api.Cell{Skip: true, Kind: api.Intra} },
		func(c *api.Cell) { *c = api.Cell{Skip: true, Mv: [2]int{1, 1}} },
		func(c *api.Cell) { *c = api.Cell{Skip: true, Mv: [2]int{-32, -32}} },
		func(c *api.Cell) { *c = api.Cell{Skip: true, Events: [6][]api.Event{5: some(0)}} },
	}
	return l
}

// A cell that may not be in its sheet, at each place; a vector that no cell may have is
// of that kind, too.
func TestCheckOfWrongCells(t *testing.T) {
	for _, format := range formats() {
		for i, n := range places(format) {
			for j, fault := range faults() {
				if count(format) > 99 && i != j {
					continue
				}
				for _, inter := range sheets() {
					changed(t, "a wrong cell", format, inter, api.ErrTree, func(s *api.Sheet) { fault(at(s, n)) })
				}
			}
			for _, c := range []api.Cell{skipped(0), skipped(3), cell(api.Inter, n), cell(api.InterQ, n)} {
				changed(t, "a cell of an inter sheet in another one", format, false, api.ErrTree, func(s *api.Sheet) { *at(s, n) = c })
			}
		}
	}
}

// Every cell of the small formats, one by one.
func TestCheckOfEachCell(t *testing.T) {
	for _, format := range small() {
		s := sheet(format, true)
		for n := range count(format) {
			was := *at(&s, n)
			*at(&s, n) = api.Cell{Kind: api.Four}
			check(t, "a cell of kind Four", s, api.ErrTree)
			*at(&s, n) = was
			check(t, "as it was", s, api.OK)
		}
	}
}

// P25.1, vectors: all of them from each cell of the smallest format.
func TestCheckOfAllVectors(t *testing.T) {
	for n := range 4 {
		s := sheet(6, true)
		for _, kind := range []int{api.Inter, api.InterQ} {
			*at(&s, n) = cell(kind, n)
			for x := -33; x <= 32; x++ {
				for y := -33; y <= 32; y++ {
					at(&s, n).Mv = [2]int{x, y}
					want := api.OK
					switch {
					case x < -32 || x > 31 || y < -32 || y > 31:
						want = api.ErrTree
					case n%2 == 0 && x < 0, n%2 == 1 && x > 0, n/2 == 0 && y < 0, n/2 == 1 && y > 0:
						want = api.ErrVector
					}
					if got := sound.Check(s); got != want {
						t.Fatalf("cell %d, kind %d by %d, %d: %d, want %d", n, kind, x, y, got, want)
					}
				}
			}
		}
	}
}

// Vectors that just lead outside, and just not, from cells at the ends of lines and
// rows of each format. Where a row has more lines than one, cells of its inner lines
// are away from all edges.
func TestCheckOfVectors(t *testing.T) {
	for _, format := range formats() {
		for _, n := range places(format) {
			s := sheet(format, true)
			for _, kind := range []int{api.Inter, api.InterQ} {
				for _, mv := range [][2]int{{-1, 0}, {1, 0}, {0, -1}, {0, 1}, {-32, -32}, {31, 31}, {-32, 31}, {31, -32}} {
					*at(&s, n) = cell(kind, n)
					at(&s, n).Mv = mv
					want := api.OK
					if !inside(format, n, mv) {
						want = api.ErrVector
					}
					if got := sound.Check(s); got != want {
						t.Fatalf("format %d, cell %d, kind %d by %v: %d, want %d", format, n, kind, mv, got, want)
					}
				}
			}
		}
	}
}

// Each cell of a sheet, by the four vectors that lead one half of a sample away: it
// is the numbers of cells that tell whether they are inside.
func TestCheckOfEveryNumber(t *testing.T) {
	for _, format := range formats() {
		g := gridOf(format)
		s := sheet(format, true)
		for n := range count(format) {
			*at(&s, n) = skipped(0)
		}
		step := 1
		if format == 5 {
			step = 29
		}
		for n := 0; n < count(format); n += step {
			column, line := n%g.across, n/g.across
			for mv, is := range map[[2]int]bool{
				{-1, 0}: column > 0, {1, 0}: column < g.across-1, {0, -1}: line > 0, {0, 1}: line < g.rows*g.lines-1,
			} {
				*at(&s, n) = api.Cell{Mv: mv}
				if err := sound.Check(s); err != api.OK && err != api.ErrVector || (err == api.OK) != is {
					t.Fatalf("format %d, cell %d by %v: %d", format, n, mv, err)
				}
			}
			*at(&s, n) = skipped(0)
		}
	}
}

// What is wrong for another reason than a vector is told, wherever both stand.
func TestCheckOfVectorsAndMore(t *testing.T) {
	outside := func(s *api.Sheet, n int) {
		*at(s, n) = api.Cell{Mv: [2]int{-1, -1}}
		if n == count(s.Format)-1 {
			at(s, n).Mv = [2]int{1, 1}
		}
	}
	for _, format := range []int{6, 1, 4} {
		last := count(format) - 1
		for _, n := range []int{0, last} {
			changed(t, "a vector alone", format, true, api.ErrVector, func(s *api.Sheet) { outside(s, n) })
			for _, fault := range faults() {
				changed(t, "a wrong cell", format, true, api.ErrTree, func(s *api.Sheet) { outside(s, n); fault(at(s, last-n)) })
				changed(t, "a wrong cell beside it", format, true, api.ErrTree, func(s *api.Sheet) { outside(s, n); fault(at(s, 1)) })
			}
			for _, change := range []func(s *api.Sheet){
				func(s *api.Sheet) { s.Ref = 256 },
				func(s *api.Sheet) { s.Zeros = -1 },
				func(s *api.Sheet) { s.Quant = 0 },
				func(s *api.Sheet) { s.Inter = false },
				func(s *api.Sheet) { s.Rows = append(s.Rows, api.Row{}) },
				func(s *api.Sheet) { s.Rows[0].Head = true },
				func(s *api.Sheet) { s.Rows[0].Quant = 1 },
				func(s *api.Sheet) { row := &s.Rows[len(s.Rows)-1]; row.Head, row.Id, row.Quant = true, 4, 1 },
				func(s *api.Sheet) { row := &s.Rows[len(s.Rows)-1]; row.Cells = row.Cells[1:] },
			} {
				changed(t, "more than a vector", format, true, api.ErrTree, func(s *api.Sheet) { outside(s, n); change(s) })
			}
		}
	}
}

// Cells that are not predicted have no vectors to ask for, so that the first cell of a
// sheet may be of any kind.
func TestCheckAsksVectorsOfPredictedCells(t *testing.T) {
	for _, format := range formats() {
		for _, n := range []int{0, count(format) - 1} {
			for _, c := range kinds(true, n) {
				changed(t, "no vector", format, true, api.OK, func(s *api.Sheet) { *at(s, n) = c })
			}
		}
	}
}

// Sheets that no call made, up to those of nothing.
func TestCheckOfAnything(t *testing.T) {
	for _, s := range []api.Sheet{
		{}, {Rows: []api.Row{{}}}, {Format: 6}, {Format: 6, Quant: 1}, {Format: 6, Quant: 1, Rows: make([]api.Row, 2)},
		{Format: 5, Quant: 1, Rows: make([]api.Row, 18)}, {Format: 6, Quant: 1, Rows: make([]api.Row, 100000)},
		{Format: -1, Quant: 1, Rows: []api.Row{{Cells: make([]api.Cell, 4)}}}, {Format: math.MaxInt, Quant: 1}, {Format: math.MinInt, Quant: 1},
		{Format: 6, Quant: 1, Rows: []api.Row{{Cells: make([]api.Cell, 2)}, {Cells: make([]api.Cell, 2)}}},
		{Format: 6, Quant: 1, Inter: true, Supp: make([]int, 100000)},
	} {
		check(t, "anything", s, api.ErrTree)
	}
	check(t, "cells of nothing", api.Sheet{Format: 6, Quant: 1, Inter: true, Rows: []api.Row{{Cells: make([]api.Cell, 2)}, {Cells: make([]api.Cell, 2)}}}, api.OK)
}

// changes are those of any part of a sheet, by any numbers.
func changes(chance *rand.Rand) []func(s *api.Sheet) {
	numbers := append(ends(), -32, -31, -2, -1, 0, 0, 0, 1, 1, 2, 3, 4, 5, 6, 7, 8, 30, 31, 32, 63, 64, 65, 127, 254, 255, 262144, 262145)
	any := func() int { return numbers[chance.Intn(len(numbers))] }
	vector := func() int { return chance.Intn(66) - 33 }
	row := func(s *api.Sheet) *api.Row { return &s.Rows[chance.Intn(len(s.Rows))] }
	one := func(s *api.Sheet) *api.Cell {
		cells := row(s).Cells
		return &cells[chance.Intn(len(cells))]
	}
	return []func(s *api.Sheet){
		func(s *api.Sheet) { s.Ref = any() },
		func(s *api.Sheet) { s.Flags = any() },
		func(s *api.Sheet) { s.Quant = any() },
		func(s *api.Sheet) { s.Zeros = any() },
		func(s *api.Sheet) { s.Inter = !s.Inter },
		func(s *api.Sheet) { s.Supp = append(s.Supp, any()) },
		func(s *api.Sheet) { r := row(s); r.Head = !r.Head },
		func(s *api.Sheet) { row(s).Id = any() },
		func(s *api.Sheet) { row(s).Quant = any() },
		func(s *api.Sheet) { r := row(s); r.Head, r.Id, r.Quant = true, chance.Intn(5), chance.Intn(33) },
		func(s *api.Sheet) { r := row(s); r.Head, r.Id, r.Quant = false, 0, 0 },
		func(s *api.Sheet) { one(s).Stuff = any() },
		func(s *api.Sheet) { c := one(s); c.Skip = !c.Skip },
		func(s *api.Sheet) { one(s).Kind = any() },
		func(s *api.Sheet) { one(s).Step = any() },
		func(s *api.Sheet) { one(s).Mv[chance.Intn(2)] = any() },
		func(s *api.Sheet) { one(s).Mv = [2]int{vector(), vector()} },
		func(s *api.Sheet) { *one(s) = api.Cell{Mv: [2]int{vector(), vector()}} },
		func(s *api.Sheet) { *one(s) = api.Cell{Kind: api.InterQ, Step: 1, Mv: [2]int{vector(), vector()}} },
		func(s *api.Sheet) { *one(s) = cell(api.Intra, chance.Intn(99)) },
		func(s *api.Sheet) { *one(s) = skipped(chance.Intn(99)) },
		func(s *api.Sheet) { one(s).Dc[chance.Intn(6)] = any() },
		func(s *api.Sheet) { one(s).Events[chance.Intn(6)] = some(chance.Intn(7)) },
		func(s *api.Sheet) {
			l := &one(s).Events[chance.Intn(6)]
			*l = append(slices.Clone(*l), api.Event{Last: chance.Intn(2) == 0, Run: any(), Level: any()})
		},
	}
}

// Sheets with up to three parts changed, against the chapters' words.
func TestCheckOfAnyChanges(t *testing.T) {
	chance := rand.New(rand.NewSource(25))
	l := changes(chance)
	met := map[api.Errno]int{}
	for range 20000 {
		format := []int{6, 6, 6, 6, 6, 6, 6, 1, 1, 2}[chance.Intn(10)]
		s := sheet(format, chance.Intn(4) > 0)
		if s.Inter {
			*at(&s, chance.Intn(count(format))) = api.Cell{Mv: [2]int{chance.Intn(3) - 1, chance.Intn(3) - 1}}
		}
		for range 1 + chance.Intn(3) {
			l[chance.Intn(len(l))](&s)
		}
		want := checked(s)
		check(t, "changed", s, want)
		met[want]++
	}
	if met[api.OK] < 1000 || met[api.ErrTree] < 1000 || met[api.ErrVector] < 1000 || len(met) != 3 {
		t.Errorf("met %v", met)
	}
}

// same asks both ways, and that both sheets stay as they were.
func same(t *testing.T, what string, a, b api.Sheet, want bool) {
	t.Helper()
	first, second := clone(a), clone(b)
	if sound.Same(a, b) != want || sound.Same(b, a) != want {
		t.Fatalf("%s: Same is not %v", what, want)
	}
	if !equal(a, first) || !equal(b, second) {
		t.Fatalf("%s: Same changed a sheet", what)
	}
}

// P25.2, of sheets that are the same.
func TestSame(t *testing.T) {
	same(t, "nothing", api.Sheet{}, api.Sheet{}, true)
	for _, format := range formats() {
		for _, inter := range sheets() {
			same(t, "the same", sheet(format, inter), sheet(format, inter), true)
			same(t, "empty lists for none", sheet(format, inter), emptied(sheet(format, inter)), true)
			s := sheet(format, inter)
			same(t, "one", s, s, true)
			same(t, "nothing", s, api.Sheet{}, false)
			same(t, "the other kind", s, sheet(format, !inter), false)
			for _, other := range formats() {
				same(t, "another format", s, sheet(other, inter), other == format)
			}
		}
	}
}

// nil and empty lists are the same.
func TestSameOfEmptyLists(t *testing.T) {
	for _, s := range []api.Sheet{
		{Supp: []int{}}, {Rows: []api.Row{}}, {Supp: []int{}, Rows: []api.Row{}}, {Supp: make([]int, 0, 9), Rows: make([]api.Row, 0, 9)},
	} {
		same(t, "empty", s, api.Sheet{}, true)
	}
	one := api.Sheet{Rows: []api.Row{{}}}
	same(t, "a row", one, api.Sheet{}, false)
	same(t, "a row without cells", one, api.Sheet{Rows: []api.Row{{Cells: []api.Cell{}}}}, true)
	same(t, "two rows", one, api.Sheet{Rows: make([]api.Row, 2)}, false)
	bare := api.Sheet{Rows: []api.Row{{Cells: make([]api.Cell, 1)}}}
	same(t, "a cell", bare, one, false)
	empty := api.Cell{Events: [6][]api.Event{{}, nil, make(list, 0, 5), {}, nil, {}}}
	same(t, "a cell without events", bare, api.Sheet{Rows: []api.Row{{Cells: []api.Cell{empty}}}}, true)
	same(t, "a byte", api.Sheet{Supp: []int{0}}, api.Sheet{}, false)
	same(t, "two bytes", api.Sheet{Supp: []int{0}}, api.Sheet{Supp: []int{0, 0}}, false)
}

// others are changes of one part alone.
func others() []func(s *api.Sheet) {
	return []func(s *api.Sheet){
		func(s *api.Sheet) { s.Ref++ },
		func(s *api.Sheet) { s.Flags = math.MinInt },
		func(s *api.Sheet) { s.Format = math.MaxInt },
		func(s *api.Sheet) { s.Inter = !s.Inter },
		func(s *api.Sheet) { s.Quant-- },
		func(s *api.Sheet) { s.Zeros++ },
		func(s *api.Sheet) { s.Supp[0]++ },
		func(s *api.Sheet) { s.Supp[1] = -1 },
		func(s *api.Sheet) { s.Supp = s.Supp[:1] },
		func(s *api.Sheet) { s.Supp = append(s.Supp, 0) },
		func(s *api.Sheet) { s.Supp[0], s.Supp[1] = s.Supp[1], s.Supp[0] },
		func(s *api.Sheet) { s.Supp = nil },
		func(s *api.Sheet) { s.Rows = nil },
		func(s *api.Sheet) { s.Rows = s.Rows[1:] },
		func(s *api.Sheet) { s.Rows = s.Rows[:1] },
		func(s *api.Sheet) { s.Rows = append(s.Rows, api.Row{}) },
		func(s *api.Sheet) { s.Rows[0], s.Rows[1] = s.Rows[1], s.Rows[0] },
	}
}

// rowOthers are changes of one part of a row alone.
func rowOthers() []func(r *api.Row) {
	return []func(r *api.Row){
		func(r *api.Row) { r.Head = !r.Head },
		func(r *api.Row) { r.Id++ },
		func(r *api.Row) { r.Quant-- },
		func(r *api.Row) { r.Cells = nil },
		func(r *api.Row) { r.Cells = r.Cells[1:] },
		func(r *api.Row) { r.Cells = r.Cells[:len(r.Cells)-1] },
		func(r *api.Row) { r.Cells = append(r.Cells, api.Cell{}) },
		func(r *api.Row) { r.Cells[0], r.Cells[1] = r.Cells[1], r.Cells[0] },
	}
}

// cellOthers are changes of one part of a cell alone.
func cellOthers() []func(c *api.Cell) {
	l := []func(c *api.Cell){
		func(c *api.Cell) { c.Stuff++ },
		func(c *api.Cell) { c.Skip = !c.Skip },
		func(c *api.Cell) { c.Kind++ },
		func(c *api.Cell) { c.Step-- },
		func(c *api.Cell) { c.Mv[0]++ },
		func(c *api.Cell) { c.Mv[1]-- },
	}
	for i := range 6 {
		l = append(l,
			func(c *api.Cell) { c.Dc[i]++ },
			func(c *api.Cell) { c.Events[i] = append(slices.Clone(c.Events[i]), api.Event{}) },
			func(c *api.Cell) { c.Events[i] = list{{Last: true, Run: 9, Level: i + 1}} },
		)
	}
	return l
}

// P25.2, of sheets of which one part alone is another one.
func TestSameOfOthers(t *testing.T) {
	for _, format := range []int{6, 1, 2, 4} {
		for _, inter := range sheets() {
			s := sheet(format, inter)
			for _, other := range others() {
				o := clone(s)
				other(&o)
				same(t, "a part of the sheet", s, o, false)
			}
			for _, number := range []int{0, 1, gridOf(format).rows - 1} {
				for _, other := range rowOthers() {
					o := clone(s)
					other(&o.Rows[number])
					same(t, "a part of a row", s, o, false)
				}
			}
			if count(format) > 99 {
				continue
			}
			for _, n := range places(format) {
				for _, other := range cellOthers() {
					o := clone(s)
					other(at(&o, n))
					same(t, "a part of a cell", s, o, false)
				}
			}
		}
	}
}

// Cells that stand in other rows make other sheets, though all cells are the same.
func TestSameOfOtherRows(t *testing.T) {
	a := sheet(6, true)
	b := clone(a)
	b.Rows[1].Cells = append(slices.Clone(b.Rows[0].Cells[1:]), b.Rows[1].Cells...)
	b.Rows[0].Cells = b.Rows[0].Cells[:1]
	same(t, "a cell in another row", a, b, false)
	same(t, "and itself", b, clone(b), true)
	if !equalCells(sound.Cells(a), sound.Cells(b)) {
		t.Error("the cells are others")
	}
}

// Sheets that may not be are asked likewise.
func TestSameOfAnything(t *testing.T) {
	chance := rand.New(rand.NewSource(26))
	l := changes(chance)
	met := map[bool]int{}
	for range 6000 {
		a := sheet(6, chance.Intn(2) == 0)
		for range chance.Intn(4) {
			l[chance.Intn(len(l))](&a)
		}
		b := clone(a)
		for range chance.Intn(2) {
			l[chance.Intn(len(l))](&b)
		}
		same(t, "anything", a, b, equal(a, b))
		met[equal(a, b)]++
	}
	if met[true] < 1000 || met[false] < 1000 {
		t.Errorf("met %v", met)
	}
}

// uneven are sheets that may not be, of rows of any lengths.
func uneven() []api.Sheet {
	cells := func(n, first int) []api.Cell {
		var l []api.Cell
		for i := range n {
			c := cell(api.IntraQ, first+i)
			c.Mv = [2]int{first + i, math.MinInt + i}
			c.Skip = i%2 == 0
			l = append(l, c)
		}
		return l
	}
	return []api.Sheet{
		{}, {Rows: []api.Row{}}, {Rows: make([]api.Row, 5)}, {Format: 6, Quant: 3, Rows: []api.Row{{Cells: []api.Cell{}}}},
		{Rows: []api.Row{{Cells: cells(1, 0)}}}, {Rows: []api.Row{{}, {Cells: cells(3, 9)}, {}, {}, {Cells: cells(1, 70)}, {}}},
		{Format: -4, Rows: []api.Row{{Cells: cells(1, 5)}, {Cells: cells(2, 6)}, {Cells: cells(3, 8)}, {Cells: cells(40, 11)}}},
	}
}

// everyCell asks for cells and vectors, one by one.
func everyCell(t *testing.T, s api.Sheet) {
	t.Helper()
	kept := clone(s)
	var want []api.Cell
	var mvs [][2]int
	for _, row := range kept.Rows {
		for _, c := range row.Cells {
			want, mvs = append(want, c), append(mvs, c.Mv)
		}
	}
	for range 2 {
		got, vectors := sound.Cells(s), sound.Vectors(s)
		if !equalCells(got, want) {
			t.Fatalf("Cells = %v, want %v", got, want)
		}
		if !slices.Equal(vectors, mvs) {
			t.Fatalf("Vectors = %v, want %v", vectors, mvs)
		}
	}
	if !equal(s, kept) {
		t.Fatal("the sheet was changed")
	}
}

// P25.2, cells and vectors of sheets that may be, and of others; P25.3.
func TestCells(t *testing.T) {
	for _, format := range formats() {
		for _, inter := range sheets() {
			s := sheet(format, inter)
			if inter {
				for n := range count(format) {
					if at(&s, n).Kind == api.InterQ {
						at(&s, n).Mv = [2]int{n%30 - 10, 5 - n%11}
					}
				}
			}
			everyCell(t, s)
			if n := []int{48, 99, 396, 1584, 6336, 4}[format-1]; len(sound.Cells(s)) != n || len(sound.Vectors(s)) != n {
				t.Fatalf("format %d: %d cells, %d vectors, want %d", format, len(sound.Cells(s)), len(sound.Vectors(s)), n)
			}
		}
	}
	for _, s := range uneven() {
		everyCell(t, s)
	}
}

// What was told is changed all over, up to the room behind it, and the sheet stays; then
// the sheet is changed, and what is told stays.
func TestCellsAreNew(t *testing.T) {
	for _, s := range append(uneven(), sheet(6, true), sheet(1, false)) {
		kept := clone(s)
		cells, vectors := sound.Cells(s), sound.Vectors(s)
		spoil(cells)
		for i := range vectors[:cap(vectors)] {
			vectors[:cap(vectors)][i] = [2]int{-99, 99}
		}
		if !equal(s, kept) {
			t.Fatal("the sheet hangs on what was told")
		}
		cells, vectors = sound.Cells(s), sound.Vectors(s)
		wasCells, wasVectors := cloneCells(cells), slices.Clone(vectors)
		for i := range s.Rows {
			spoil(s.Rows[i].Cells)
		}
		if !equalCells(cells, wasCells) || !slices.Equal(vectors, wasVectors) {
			t.Fatal("what was told hangs on the sheet")
		}
	}
}

// spoil changes cells, their events, and the room behind all of them.
func spoil(cells []api.Cell) {
	for i := range cells {
		for _, l := range cells[i].Events {
			for j := range l[:cap(l)] {
				l[:cap(l)][j] = api.Event{Run: -77, Level: 77}
			}
		}
	}
	for i := range cells[:cap(cells)] {
		cells[:cap(cells)][i] = api.Cell{Stuff: -77}
	}
}

// Where cells of a sheet share lists, or rows cells, those that are told do not.
func TestCellsShareNothing(t *testing.T) {
	events := make(list, 2, 9)
	events[0], events[1] = api.Event{Level: 1}, api.Event{Last: true, Level: 2}
	c := api.Cell{Events: [6][]api.Event{events, events[:1], events, events[:0], events, events[1:]}}
	row := api.Row{Cells: []api.Cell{c, c, c}}
	s := api.Sheet{Rows: []api.Row{row, row, {Cells: row.Cells[1:2]}}}
	got := sound.Cells(s)
	if len(got) != 7 {
		t.Fatalf("%d cells, want 7", len(got))
	}
	mark := 100
	for i := range got {
		for k := range got[i].Events {
			l := append(got[i].Events[k], api.Event{})
			got[i].Events[k] = l
			for j := range l[:cap(l)] {
				l[:cap(l)][j] = api.Event{Level: mark + j}
			}
			mark += 100
		}
	}
	mark = 100
	for i := range got {
		for k, l := range got[i].Events {
			for j := range l {
				if l[j].Level != mark+j {
					t.Fatalf("cell %d, list %d: %v, want levels from %d on", i, k, l, mark)
				}
			}
			mark += 100
		}
	}
	if !slices.Equal(events[:3], list{{Level: 1}, {Last: true, Level: 2}, {}}) {
		t.Fatalf("the list became %v", events[:3])
	}
}

// The room behind the lists of a sheet stays as it was.
func TestRoomStays(t *testing.T) {
	roomy := func() api.Sheet {
		s := sheet(6, true)
		s.Supp = append(slices.Grow(s.Supp, 9), 77)[:len(s.Supp)]
		s.Rows = append(slices.Grow(s.Rows, 9), api.Row{Id: 77})[:len(s.Rows)]
		for i := range s.Rows {
			cells := s.Rows[i].Cells
			for j := range cells {
				for k, l := range cells[j].Events {
					cells[j].Events[k] = append(slices.Grow(l, 9), api.Event{Run: 77})[:len(l)]
				}
			}
			s.Rows[i].Cells = append(slices.Grow(cells, 9), api.Cell{Stuff: 77})[:len(cells)]
		}
		return s
	}
	s := roomy()
	if sound.Check(s) != api.OK || !sound.Same(s, sheet(6, true)) || len(sound.Cells(s)) != 4 || len(sound.Vectors(s)) != 4 {
		t.Fatal("a sheet with room behind its lists")
	}
	stays := s.Supp[:3][2] == 77 && s.Rows[:3][2].Id == 77
	for _, row := range s.Rows {
		stays = stays && row.Cells[:3][2].Stuff == 77
		for _, c := range row.Cells {
			for _, l := range c.Events {
				stays = stays && l[:len(l)+1][len(l)].Run == 77
			}
		}
	}
	if !stays {
		t.Fatal("the room behind a list was written to")
	}
}
