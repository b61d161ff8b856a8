package screens_test

import (
	"bytes"
	"math"
	"math/rand"
	"reflect"
	"slices"
	"testing"

	"overspill/api"
	"overspill/planes"
	"overspill/quants"
	"overspill/rebuild"
	"overspill/screens"
	"overspill/sound"
)

type (
	list   = []api.Event
	block  = [64]int
	vector = [2]int
)

// greatness is how great a format is, as it stands on paper: so many samples in each
// plane, and so many rows, each of which has so many lines of so many cells.
type greatness struct {
	widths, heights     [3]int
	rows, lines, across int
}

func great(format int) greatness {
	return []greatness{
		{[3]int{128, 64, 64}, [3]int{96, 48, 48}, 6, 1, 8},
		{[3]int{176, 88, 88}, [3]int{144, 72, 72}, 9, 1, 11},
		{[3]int{352, 176, 176}, [3]int{288, 144, 144}, 18, 1, 22},
		{[3]int{704, 352, 352}, [3]int{576, 288, 288}, 18, 2, 44},
		{[3]int{1408, 704, 704}, [3]int{1152, 576, 576}, 18, 4, 88},
		{[3]int{32, 16, 16}, [3]int{32, 16, 16}, 2, 1, 2},
	}[format-1]
}

func (g greatness) each() int  { return g.lines * g.across }
func (g greatness) count() int { return g.rows * g.each() }

// formats are all of them, the small one first.
func formats() []int {
	return []int{6, 1, 2, 3, 4, 5}
}

// wild are numbers at the ends of an int, and about those of other parts.
func wild() []int {
	return []int{
		math.MinInt, math.MinInt + 1, -1 << 62, -1 << 32, math.MinInt32, -65536, -256, -129, -33, -1,
		256, 257, 65536, math.MaxInt32, 1 << 32, 1<<32 + 1, 1<<32 + 6, 1 << 62, math.MaxInt - 1, math.MaxInt,
	}
}

func isIntra(c api.Cell) bool {
	return !c.Skip && (c.Kind == api.Intra || c.Kind == api.IntraQ)
}

func hasStep(c api.Cell) bool {
	return c.Kind == api.InterQ || c.Kind == api.IntraQ
}

// bounded brings n to the bounds, as what is clipped counts.
func bounded(n, low, high int) int {
	return min(max(n, low), high)
}

// made is a frame each sample of which is what it tells of its plane, column and
// line.
func made(format int, tells func(plane, x, y int) int) api.Frame {
	g := great(format)
	f := api.Frame{Format: format}
	for plane := range f.Planes {
		for y := range g.heights[plane] {
			for x := range g.widths[plane] {
				f.Planes[plane] = append(f.Planes[plane], byte(tells(plane, x, y)))
			}
		}
	}
	return f
}

// level is a frame all samples of which are the same.
func level(format, sample int) api.Frame {
	return made(format, func(int, int, int) int { return sample })
}

// mixed is a frame in which neighbours differ, another one for each seed.
func mixed(format int, seed int64) api.Frame {
	chance := rand.New(rand.NewSource(seed))
	last := 0
	return made(format, func(int, int, int) int {
		last = (last + 1 + chance.Intn(255)) % 256
		return last
	})
}

// copied is f in memory of its own.
func copied(f api.Frame) api.Frame {
	for plane, l := range f.Planes {
		f.Planes[plane] = slices.Clone(l)
	}
	return f
}

// equal is whether a and b are one frame.
func equal(a, b api.Frame) bool {
	for plane := range a.Planes {
		if !bytes.Equal(a.Planes[plane], b.Planes[plane]) {
			return false
		}
	}
	return a.Format == b.Format
}

// plain has nil for each list that is empty, and lists of its own.
func plain(s api.Sheet) api.Sheet {
	s.Supp, s.Rows = append([]int(nil), s.Supp...), append([]api.Row(nil), s.Rows...)
	for i := range s.Rows {
		s.Rows[i].Cells = append([]api.Cell(nil), s.Rows[i].Cells...)
		for j := range s.Rows[i].Cells {
			for k, l := range s.Rows[i].Cells[j].Events {
				s.Rows[i].Cells[j].Events[k] = append(list(nil), l...)
			}
		}
	}
	return s
}

// order is at which place each number of a block stands, by chapter 11's words:
// diagonal by diagonal, on even ones upwards, on odd ones downwards.
func order() []int {
	var l []int
	for d := range 15 {
		for i := 0; i <= d; i++ {
			row := i
			if d%2 == 0 {
				row = d - i
			}
			if row < 8 && d-row < 8 {
				l = append(l, 8*row+d-row)
			}
		}
	}
	return l
}

// value says by chapter 12's words what a quantiser makes of a level.
func value(level, quant int) int {
	n := quant*(2*level+1) - (1 - quant%2)
	if level < 0 {
		n = quant*(2*level-1) + (1 - quant%2)
	}
	return bounded(n, -2048, 2047)
}

// inverse says by chapter 14's words what values add to a block.
func inverse(l block) block {
	weights := [8][8]int{
		{64, 64, 64, 64, 64, 64, 64, 64},
		{89, 75, 50, 18, -18, -50, -75, -89},
		{83, 36, -36, -83, -83, -36, 36, 83},
		{75, -18, -89, -50, 50, 89, 18, -75},
		{64, -64, -64, 64, 64, -64, -64, 64},
		{50, -89, 18, 75, -75, -18, 89, -50},
		{36, -83, 83, -36, -36, 83, -83, 36},
		{18, -50, 75, -89, 89, -75, 50, -18},
	}
	var sums block
	for from, n := range l {
		for place := range sums {
			if n != 0 {
				sums[place] += weights[from%8][place%8] * weights[from/8][place/8] * n
			}
		}
	}
	for place, sum := range sums {
		sums[place] = bounded((sum+1<<14)>>15, -256, 255)
	}
	return sums
}

// added says by the chapters' words what that block of the cell has beside its
// prediction.
func added(c api.Cell, i, quant int) block {
	var l block
	next, at := 0, order()
	if isIntra(c) {
		l[0], next = 8*c.Dc[i], 1
	}
	for _, e := range c.Events[i] {
		l[at[next+e.Run]] = value(e.Level, quant)
		next += e.Run + 1
	}
	if l == (block{}) {
		return l
	}
	return inverse(l)
}

// colour is what a vector's number is in colours.
func colour(v int) int {
	if v < 0 {
		return -colour(-v)
	}
	return v/4*2 + []int{0, 1, 1, 1}[v%4]
}

// half is the sample at halves (x, y) of samples that stand so many side by side, by
// chapter 18's words.
func half(samples []byte, width, x, y int) int {
	at := func(a, b int) int { return int(samples[b*width+a]) }
	a, b := x/2, y/2
	switch {
	case x%2 == 1 && y%2 == 1:
		return (at(a, b) + at(a+1, b) + at(a, b+1) + at(a+1, b+1) + 2) / 4
	case x%2 == 1:
		return (at(a, b) + at(a+1, b) + 1) / 2
	case y%2 == 1:
		return (at(a, b) + at(a, b+1) + 1) / 2
	}
	return at(a, b)
}

// inForce says by chapter 30's words which quantiser each cell has.
func inForce(s api.Sheet) []int {
	var l []int
	quant := s.Quant
	for _, row := range s.Rows {
		if row.Head {
			quant = row.Quant
		}
		for _, c := range row.Cells {
			if hasStep(c) {
				quant = bounded(quant+c.Step, 1, 31)
			}
			l = append(l, quant)
		}
	}
	return l
}

// paper is the frame of a sheet that may be, behind f, by the chapters' words.
func paper(f api.Frame, s api.Sheet) api.Frame {
	next := level(s.Format, 0)
	quant, n := inForce(s), 0
	for _, row := range s.Rows {
		for _, c := range row.Cells {
			for i := range 6 {
				draw(next, f, c, n, i, added(c, i, quant[n]))
			}
			n++
		}
	}
	return next
}

// draw lays block i of cell n, to which that is added.
func draw(next, f api.Frame, c api.Cell, n, i int, more block) {
	g := great(next.Format)
	plane, x, y, v := 0, 16*(n%g.across)+8*(i%2), 16*(n/g.across)+8*(i/2), c.Mv
	if i >= 4 {
		plane, x, y, v = i-3, 8*(n%g.across), 8*(n/g.across), vector{colour(c.Mv[0]), colour(c.Mv[1])}
	}
	width := g.widths[plane]
	for place, sample := range more {
		a, b := x+place%8, y+place/8
		if !isIntra(c) {
			sample += half(f.Planes[plane], width, 2*a+v[0], 2*b+v[1])
		}
		next.Planes[plane][b*width+a] = byte(bounded(sample, 0, 255))
	}
}

// some are events that blocks of all kinds may have, other ones for each n.
func some(n int) list {
	return []list{
		nil,
		{{Last: true, Level: 1}},
		{{Level: -1}, {Last: true, Run: 2, Level: 1}},
		{{Last: true, Run: 40, Level: -3}},
		{{Run: 1, Level: 100}, {Level: 2}, {Last: true, Level: -1}},
		{{Last: true, Run: 62, Level: 127}},
		{{Level: 1}, {Level: -2}, {Level: 3}, {Last: true, Run: 5, Level: -127}},
	}[n%7]
}

// cell is one of that kind without a vector, other ones for each n.
func cell(kind, n int) api.Cell {
	c := api.Cell{Kind: kind, Stuff: n % 3}
	if hasStep(c) {
		c.Step = []int{-2, -1, 1, 2}[n%4]
	}
	for i := range c.Events {
		if isIntra(c) {
			c.Dc[i] = 1 + (37*i+n)%254
		}
		c.Events[i] = some(i + n)
	}
	return c
}

// dark is a bare intra cell, all of whose samples are dc.
func dark(dc int) api.Cell {
	return api.Cell{Kind: api.Intra, Dc: [6]int{dc, dc, dc, dc, dc, dc}}
}

// inside says whether all samples of luma that mv leads to from cell n are there.
func inside(format, n int, mv vector) bool {
	g := great(format)
	x, y := 32*(n%g.across)+mv[0], 32*(n/g.across)+mv[1]
	return x >= 0 && y >= 0 && x+30 <= 2*(g.widths[0]-1) && y+30 <= 2*(g.heights[0]-1)
}

// anyCell is one that may be cell n of a sheet.
func anyCell(chance *rand.Rand, format int, inter bool, n int) api.Cell {
	kinds := []int{api.Intra, api.Intra, api.IntraQ}
	if inter {
		kinds = append(kinds, api.Inter, api.Inter, api.Inter, api.InterQ, api.InterQ)
		if chance.Intn(6) == 0 {
			return api.Cell{Stuff: chance.Intn(3), Skip: true}
		}
	}
	c := cell(kinds[chance.Intn(len(kinds))], chance.Intn(1000))
	for i := range c.Events {
		if chance.Intn(2) == 0 {
			c.Events[i] = nil
		}
	}
	for !isIntra(c) {
		c.Mv = vector{chance.Intn(64) - 32, chance.Intn(64) - 32}
		if inside(format, n, c.Mv) {
			break
		}
	}
	return c
}

// sheet is one that may be, of that quantiser, each cell of which is what it tells of
// its number.
func sheet(format int, inter bool, quant int, tells func(n int) api.Cell) api.Sheet {
	s := api.Sheet{Ref: 5, Format: format, Inter: inter, Quant: quant}
	g := great(format)
	for n := range g.count() {
		if n%g.each() == 0 {
			s.Rows = append(s.Rows, api.Row{})
		}
		row := &s.Rows[n/g.each()]
		row.Cells = append(row.Cells, tells(n))
	}
	return s
}

// anySheet is one that may be.
func anySheet(chance *rand.Rand, format int, inter bool) api.Sheet {
	s := sheet(format, inter, 1+chance.Intn(31), func(n int) api.Cell { return anyCell(chance, format, inter, n) })
	for number := range s.Rows {
		if number > 0 && chance.Intn(3) == 0 {
			s.Rows[number].Head, s.Rows[number].Id, s.Rows[number].Quant = true, chance.Intn(4), 1+chance.Intn(31)
		}
	}
	s.Ref, s.Flags, s.Zeros = chance.Intn(256), chance.Intn(8), chance.Intn(3)
	return s
}

// skipped is an inter sheet all of whose cells are.
func skipped(format int) api.Sheet {
	return sheet(format, true, 7, func(n int) api.Cell { return api.Cell{Stuff: n % 2, Skip: true} })
}

// at is the cell of that number.
func at(s api.Sheet, n int) *api.Cell {
	each := great(s.Format).each()
	return &s.Rows[n/each].Cells[n%each]
}

// tells asks for the frame of a sheet that may be, and whether it is still.
func tells(t *testing.T, what string, f api.Frame, s api.Sheet, want api.Frame) {
	t.Helper()
	ahead, kept := copied(f), plain(s)
	got, err := screens.Next(f, s)
	if err != api.OK || !equal(got, want) {
		t.Fatalf("%s: Next is another frame of format %d, or %d", what, got.Format, err)
	}
	if still := screens.Still(f, s); still != equal(f, want) {
		t.Fatalf("%s: Still is %v", what, still)
	}
	if !equal(f, ahead) || !reflect.DeepEqual(plain(s), kept) {
		t.Fatalf("%s: what was handed in has changed", what)
	}
}

// agrees asks for that frame by the chapters' words, and answers it.
func agrees(t *testing.T, what string, f api.Frame, s api.Sheet) api.Frame {
	t.Helper()
	next := paper(f, s)
	tells(t, what, f, s, next)
	return next
}

// refused asks for the frame of a sheet that may not be there.
func refused(t *testing.T, what string, f api.Frame, s api.Sheet, want api.Errno) {
	t.Helper()
	ahead, kept := copied(f), plain(s)
	if got, err := screens.Next(f, s); err != want || !reflect.DeepEqual(got, api.Frame{}) {
		t.Fatalf("%s: Next has format %d, and is %d, want %d", what, got.Format, err, want)
	}
	if screens.Still(f, s) {
		t.Fatalf("%s: it is still", what)
	}
	if !equal(f, ahead) || !reflect.DeepEqual(plain(s), kept) {
		t.Fatalf("%s: what was handed in has changed", what)
	}
}

// noFrames are frames that are not right, all made of one that is.
func noFrames(right api.Frame) []api.Frame {
	l := []api.Frame{{}, {Format: right.Format}}
	for _, format := range append(wild(), 0, 7, 8, right.Format%6+1) {
		f := right
		f.Format = format
		l = append(l, f)
	}
	for plane := range right.Planes {
		less, more, none, twice := right, right, right, right
		less.Planes[plane] = right.Planes[plane][1:]
		more.Planes[plane] = append(slices.Clone(right.Planes[plane]), 1)
		none.Planes[plane] = nil
		twice.Planes[plane] = bytes.Repeat(right.Planes[plane], 2)
		l = append(l, less, more, none, twice)
	}
	return l
}

func TestExample(t *testing.T) {
	s := sheet(6, false, 5, func(int) api.Cell { return dark(10) })
	tells(t, "the example", api.Frame{}, s, level(6, 10))
	s.Inter = true
	refused(t, "an inter one", api.Frame{}, s, api.ErrFirst)
	// With a frame ahead it is the same one, though it has nothing of it.
	tells(t, "behind another one", level(6, 3), s, level(6, 10))
	tells(t, "behind the same", level(6, 10), s, level(6, 10))
}

// P32.1: each cell stands where its number says.
func TestCellsOnPaper(t *testing.T) {
	s := sheet(6, false, 5, func(n int) api.Cell {
		return api.Cell{Kind: api.Intra, Dc: [6]int{10*n + 1, 10*n + 2, 10*n + 3, 10*n + 4, 10*n + 5, 10*n + 6}}
	})
	want := made(6, func(plane, x, y int) int {
		if plane > 0 {
			return 10*(x/8+2*(y/8)) + 4 + plane
		}
		return 10*(x/16+2*(y/16)) + 1 + x/8%2 + 2*(y/8%2)
	})
	tells(t, "cells and blocks", api.Frame{}, s, want)
}

// P32.1: each cell of each format, told apart.
func TestEachCell(t *testing.T) {
	for _, format := range formats() {
		g := great(format)
		s := sheet(format, false, 5, func(n int) api.Cell { return dark(1 + n%251) })
		want := made(format, func(plane, x, y int) int {
			if plane == 0 {
				x, y = x/2, y/2
			}
			return 1 + (x/8+g.across*(y/8))%251
		})
		tells(t, "each cell", api.Frame{Format: 3}, s, want)
		// Of all cells but one nothing is told: that one alone is another one.
		for n := 0; n < g.count(); n += 1 + g.count()/3 {
			s := skipped(format)
			*at(s, n) = dark(99)
			want := made(format, func(plane, x, y int) int {
				if plane == 0 {
					x, y = x/2, y/2
				}
				if x/8+g.across*(y/8) == n {
					return 99
				}
				return 40
			})
			tells(t, "one cell", level(format, 40), s, want)
		}
	}
}

// P32.1: each cell is told by the quantiser in force there.
func TestQuantisersOnPaper(t *testing.T) {
	// The level 3 adds so much by each quantiser.
	adds := func(quant int) int { return (value(3, quant) + 4) / 8 }
	c := api.Cell{}
	for i := range c.Events {
		c.Events[i] = list{{Last: true, Level: 3}}
	}
	for _, v := range []struct {
		quant, head int
		steps       [4]int
		want        [4]int
	}{
		{5, 0, [4]int{}, [4]int{5, 5, 5, 5}},
		{31, 0, [4]int{}, [4]int{31, 31, 31, 31}},
		{9, 0, [4]int{2}, [4]int{11, 11, 11, 11}},
		{9, 0, [4]int{0, -2}, [4]int{9, 7, 7, 7}},
		{9, 0, [4]int{0, 0, 0, 2}, [4]int{9, 9, 9, 11}},
		{9, 20, [4]int{}, [4]int{9, 9, 20, 20}},
		{9, 20, [4]int{2, 2, -1, -2}, [4]int{11, 13, 19, 17}},
		{2, 30, [4]int{-2, -2, 2, 2}, [4]int{1, 1, 31, 31}},
	} {
		s := sheet(6, true, v.quant, func(n int) api.Cell {
			c := c
			if c.Step = v.steps[n]; c.Step != 0 {
				c.Kind = api.InterQ
			}
			return c
		})
		s.Rows[1].Head, s.Rows[1].Quant = v.head > 0, v.head
		want := made(6, func(plane, x, y int) int {
			if plane == 0 {
				x, y = x/2, y/2
			}
			return 100 + adds(v.want[x/8+2*(y/8)])
		})
		tells(t, "a quantiser", level(6, 100), s, want)
	}
}

// P32.1: what a vector leads to is taken of the frame ahead, not of cells that are laid
// already.
func TestVectorsOnPaper(t *testing.T) {
	f := made(6, func(plane, x, y int) int { return 5*x + 3*y })
	s := skipped(6)
	*at(s, 0) = dark(200)
	*at(s, 1) = api.Cell{Mv: vector{-32, 0}}
	*at(s, 2) = api.Cell{Mv: vector{0, -32}}
	*at(s, 3) = api.Cell{Mv: vector{-32, -32}}
	want := made(6, func(plane, x, y int) int {
		side := 16
		if plane > 0 {
			side = 8
		}
		if x < side && y < side {
			return 200
		}
		return 5*(x%side) + 3*(y%side)
	})
	tells(t, "vectors", f, s, want)
}

// P32.1: by each vector that each cell may have.
func TestVectors(t *testing.T) {
	f := mixed(6, 1)
	for x := -32; x <= 31; x++ {
		for y := -32; y <= 31; y++ {
			s := sheet(6, true, 4, func(n int) api.Cell {
				if inside(6, n, vector{x, y}) {
					return api.Cell{Mv: vector{x, y}}
				}
				return cell(api.Inter, n)
			})
			agrees(t, "a vector", f, s)
		}
	}
}

// P32.1: each quantiser.
func TestQuantisers(t *testing.T) {
	f := mixed(6, 2)
	for quant := 1; quant <= 31; quant++ {
		for _, kind := range []int{api.Inter, api.InterQ, api.Intra, api.IntraQ} {
			s := sheet(6, true, quant, func(n int) api.Cell { return cell(kind, n+quant) })
			agrees(t, "a quantiser", f, s)
			s.Rows[1].Head, s.Rows[1].Quant = true, 32-quant
			agrees(t, "a head", f, s)
		}
	}
}

// P32.1: any sheets, one behind the other, by the chapters' words.
func TestAnySheets(t *testing.T) {
	chance := rand.New(rand.NewSource(320))
	for _, format := range formats() {
		times := max(3, 2000/great(format).count())
		if format == 5 {
			times = 2
		}
		f := api.Frame{}
		for n := range times {
			f = agrees(t, "any sheet", f, anySheet(chance, format, n%6 > 0))
		}
	}
}

// P32.1: any sheets, by the calls of the layers below.
func TestLayers(t *testing.T) {
	chance := rand.New(rand.NewSource(321))
	for n := range 300 {
		format := formats()[n%3]
		f, s := mixed(format, int64(n)), anySheet(chance, format, n%4 > 0)
		all, _ := quants.Of(s)
		canvas, _ := planes.On(format)
		for i, c := range sound.Cells(s) {
			p, err := rebuild.Cell(f, i, c, all[i])
			if err != api.OK || canvas.Lay(i, p) != api.OK {
				t.Fatalf("cell %d: %d", i, err)
			}
		}
		tells(t, "any sheet", f, s, canvas.Frame())
	}
}

// P32.1: behind which frame one that is not inter stands is not looked at.
func TestFramesNotLookedAt(t *testing.T) {
	chance := rand.New(rand.NewSource(322))
	for _, format := range []int{6, 1, 2} {
		s := anySheet(chance, format, false)
		want := paper(api.Frame{}, s)
		frames := append(noFrames(mixed(format, 3)), mixed(format, 3), level(6, 0), level(1, 255), level(3, 1), want)
		for _, f := range append(frames, noFrames(want)...) {
			tells(t, "not inter", f, s, want)
		}
	}
}

// P32.1: an inter one needs a frame that is right, and has its format, though nothing
// of it is predicted.
func TestErrFirst(t *testing.T) {
	for _, format := range []int{6, 1, 2, 3} {
		right := mixed(format, 4)
		bare := sheet(format, true, 5, func(int) api.Cell { return dark(9) })
		for _, s := range []api.Sheet{skipped(format), bare} {
			agrees(t, "the right frame", right, s)
			for _, f := range noFrames(right) {
				refused(t, "no frame", f, s, api.ErrFirst)
			}
			for _, other := range formats() {
				if other != format {
					refused(t, "another format", level(other, 7), s, api.ErrFirst)
				}
			}
		}
	}
}

// wrongSheets are sheets that may not be, with what is wrong of each.
func wrongSheets() map[api.Errno][]api.Sheet {
	wrong := map[api.Errno][]api.Sheet{api.ErrTree: {{}, {Format: 6, Quant: 5}}}
	for _, inter := range []bool{false, true} {
		for _, change := range []func(s *api.Sheet){
			func(s *api.Sheet) { s.Ref = 256 }, func(s *api.Sheet) { s.Flags = 8 }, func(s *api.Sheet) { s.Format = 1 },
			func(s *api.Sheet) { s.Format = 0 }, func(s *api.Sheet) { s.Format = 7 }, func(s *api.Sheet) { s.Format = math.MaxInt },
			func(s *api.Sheet) { s.Quant = 0 }, func(s *api.Sheet) { s.Quant = 32 }, func(s *api.Sheet) { s.Quant = math.MinInt },
			func(s *api.Sheet) { s.Supp = make([]int, 9) }, func(s *api.Sheet) { s.Supp = []int{256} },
			func(s *api.Sheet) { s.Zeros = -1 }, func(s *api.Sheet) { s.Zeros = api.MaxText + 1 },
			func(s *api.Sheet) { s.Rows = nil }, func(s *api.Sheet) { s.Rows = s.Rows[1:] },
			func(s *api.Sheet) { s.Rows = append(s.Rows, s.Rows[0]) },
			func(s *api.Sheet) { s.Rows[0].Head, s.Rows[0].Quant = true, 5 }, func(s *api.Sheet) { s.Rows[1].Quant = 5 },
			func(s *api.Sheet) { s.Rows[1].Head = true }, func(s *api.Sheet) { s.Rows[1].Head, s.Rows[1].Quant = true, 32 },
			func(s *api.Sheet) { s.Rows[1].Cells = nil }, func(s *api.Sheet) { s.Rows[0].Cells = s.Rows[0].Cells[:1] },
			func(s *api.Sheet) { s.Rows[1].Cells = append(s.Rows[1].Cells, dark(1)) },
			func(s *api.Sheet) { at(*s, 3).Kind = api.Four }, func(s *api.Sheet) { at(*s, 0).Step = 1 },
			func(s *api.Sheet) { at(*s, 2).Dc[5] = 255 }, func(s *api.Sheet) { at(*s, 1).Stuff = 65 },
			func(s *api.Sheet) { at(*s, 1).Events[0] = list{{Level: 1}} },
			func(s *api.Sheet) { at(*s, 3).Events[5] = list{{Last: true, Run: 64, Level: 1}} },
			func(s *api.Sheet) { at(*s, 3).Mv[0] = math.MaxInt },
			func(s *api.Sheet) { at(*s, 3).Skip = true },
		} {
			s := sheet(6, inter, 5, func(n int) api.Cell { return dark(1 + n) })
			change(&s)
			wrong[api.ErrTree] = append(wrong[api.ErrTree], s)
		}
	}
	s := sheet(6, false, 5, func(n int) api.Cell { return dark(1 + n) })
	*at(s, 3) = api.Cell{}
	wrong[api.ErrTree] = append(wrong[api.ErrTree], s)
	for _, mv := range []vector{{-1, 0}, {0, -1}, {-32, -32}} {
		s := skipped(6)
		*at(s, 0) = api.Cell{Mv: mv}
		wrong[api.ErrVector] = append(wrong[api.ErrVector], s)
		s = skipped(6)
		*at(s, 3) = api.Cell{Mv: vector{-mv[0] % 32, -mv[1] % 32}}
		if mv[0] > -32 {
			wrong[api.ErrVector] = append(wrong[api.ErrVector], s)
		}
	}
	return wrong
}

// P32.1: what is wrong of the sheet is told first, whatever the frame.
func TestOrderOfErrors(t *testing.T) {
	right := mixed(6, 5)
	frames := append(noFrames(right), right, level(1, 5))
	for want, l := range wrongSheets() {
		for i, s := range l {
			if err := sound.Check(s); err != want {
				t.Fatalf("sheet %d is %d, want %d", i, err, want)
			}
			for _, f := range frames {
				refused(t, "a wrong sheet", f, s, want)
			}
		}
	}
}

// P32.1: sheets and frames changed in some part.
func TestChanged(t *testing.T) {
	chance := rand.New(rand.NewSource(323))
	right := mixed(6, 6)
	others := append(noFrames(right), level(2, 8))
	told := map[api.Errno]int{}
	for range 4000 {
		f, s := right, plain(anySheet(chance, 6, chance.Intn(3) > 0))
		if chance.Intn(4) == 0 {
			f = others[chance.Intn(len(others))]
		}
		c := at(s, chance.Intn(4))
		switch i := chance.Intn(6); chance.Intn(12) {
		case 0:
			c.Kind = chance.Intn(6)
		case 1:
			c.Dc[i] = chance.Intn(256)
		case 2:
			c.Events[i] = append(c.Events[i], api.Event{Last: true, Level: 1})
		case 3, 4, 5, 6:
			c.Mv = vector{chance.Intn(64) - 32, chance.Intn(64) - 32}
		case 7:
			s.Inter = !s.Inter
		}
		want := sound.Check(s)
		if want == api.OK && s.Inter && (!planes.Right(f) || f.Format != 6) {
			want = api.ErrFirst
		}
		told[want]++
		if want != api.OK {
			refused(t, "a change", f, s, want)
		} else {
			agrees(t, "a change", f, s)
		}
	}
	for _, err := range []api.Errno{api.OK, api.ErrTree, api.ErrVector, api.ErrFirst} {
		if told[err] < 100 {
			t.Errorf("%d was told %d times", err, told[err])
		}
	}
}

// P32.2: one sample of any plane that is another one.
func TestStill(t *testing.T) {
	for _, format := range []int{6, 1, 2} {
		chance := rand.New(rand.NewSource(324))
		s := anySheet(chance, format, false)
		f := paper(api.Frame{}, s)
		if !screens.Still(f, s) {
			t.Fatalf("format %d: its own frame is not still", format)
		}
		for plane := range f.Planes {
			last := len(f.Planes[plane]) - 1
			for place := 0; place <= last; place += 1 + last/40 {
				for _, i := range []int{place, last - place} {
					f.Planes[plane][i]++
					if screens.Still(f, s) {
						t.Fatalf("format %d: still, but for sample %d of plane %d", format, i, plane)
					}
					f.Planes[plane][i]--
				}
			}
		}
		for _, g := range noFrames(f) {
			if screens.Still(g, s) {
				t.Fatalf("format %d: still of format %d", format, g.Format)
			}
		}
	}
}

// P32.2: one cell of an inter sheet that is another one.
func TestStillOfInter(t *testing.T) {
	f := level(6, 50)
	for n := range 4 {
		for i := range 6 {
			s := skipped(6)
			c := at(s, n)
			*c = api.Cell{}
			tells(t, "a bare cell", f, s, f)
			c.Mv = vector{1 - n%2*2, 1 - n/2*2}
			tells(t, "a vector over one colour", f, s, f)
			// By the least quantiser the level 1 adds nothing, by others something.
			c.Events[i] = list{{Last: true, Level: 1}}
			s.Quant = 1
			tells(t, "a level that is lost", f, s, f)
			s.Quant = 8
			if screens.Still(f, s) {
				t.Fatalf("still, but for block %d of cell %d", i, n)
			}
			agrees(t, "a level", f, s)
		}
	}
	f.Planes[0][40] = 51
	s := skipped(6)
	at(s, 0).Skip, at(s, 0).Mv = false, vector{2, 0}
	if agrees(t, "a vector over two", f, s); screens.Still(f, s) {
		t.Errorf("still, but for a vector")
	}
}

// P32.3: where all cells are skipped, the frame stays.
func TestSkipped(t *testing.T) {
	for _, format := range formats() {
		for seed := range 3 {
			f := mixed(format, int64(seed))
			tells(t, "skipped", f, skipped(format), f)
			if !screens.Still(f, skipped(format)) {
				t.Fatalf("format %d: a sheet of skipped cells is not still", format)
			}
		}
	}
}

// What is told is new memory, as are its planes.
func TestAnswersAreNew(t *testing.T) {
	for _, s := range []api.Sheet{skipped(6), sheet(6, false, 5, func(int) api.Cell { return dark(70) })} {
		f := level(6, 70)
		got, _ := screens.Next(f, s)
		again, _ := screens.Next(f, s)
		for plane := range f.Planes {
			clear(got.Planes[plane])
			l := got.Planes[plane]
			clear(l[:cap(l)])
		}
		if !equal(f, level(6, 70)) || !equal(again, f) {
			t.Fatalf("the answer is no new memory")
		}
		for plane := range f.Planes {
			clear(f.Planes[plane])
		}
		if !equal(again, level(6, 70)) {
			t.Fatalf("the answer is the frame ahead")
		}
		for plane, l := range again.Planes {
			l = append(l, 1, 2, 3)
			clear(l[:cap(l)])
			for other := plane + 1; other < 3; other++ {
				if !equal(api.Frame{Planes: [3][]byte{again.Planes[other]}}, api.Frame{Planes: [3][]byte{level(6, 70).Planes[other]}}) {
					t.Fatalf("planes %d and %d share memory", plane, other)
				}
			}
		}
	}
}

// What lies behind the ends of lists that come in stays as it was.
func TestRoomStays(t *testing.T) {
	f := mixed(6, 7)
	want := copied(f)
	for plane := range f.Planes {
		f.Planes[plane] = append(f.Planes[plane], bytes.Repeat([]byte{170}, 50)...)[:len(f.Planes[plane])]
	}
	behind := list{{Level: 1}, {Last: true, Run: 3, Level: 5}, {Run: 7, Level: 9}, {Last: true, Level: 99}}
	events := slices.Clone(behind)
	s := sheet(6, true, 5, func(n int) api.Cell { return api.Cell{Events: [6][]api.Event{2: events[:2]}} })
	cells := append(slices.Clone(s.Rows[0].Cells), dark(3), dark(4))
	s.Rows[0].Cells = cells[:2]
	rows := append(slices.Clone(s.Rows), api.Row{Id: 3, Quant: 4})
	s.Rows = rows[:2]
	agrees(t, "with room", f, s)
	refused(t, "with room", api.Frame{}, s, api.ErrFirst)
	if !slices.Equal(events, behind) || !reflect.DeepEqual(cells[2:], []api.Cell{dark(3), dark(4)}) ||
		!reflect.DeepEqual(rows[2], api.Row{Id: 3, Quant: 4}) {
		t.Errorf("what lies behind the sheet's lists has changed")
	}
	for plane, l := range f.Planes {
		if !bytes.Equal(l, want.Planes[plane]) || bytes.Count(l[len(l):len(l)+50], []byte{170}) != 50 {
			t.Errorf("plane %d, or what lies behind it, has changed", plane)
		}
	}
}

// What is told hangs on the arguments alone, whatever was asked ahead.
func TestNothingIsKept(t *testing.T) {
	chance := rand.New(rand.NewSource(325))
	f, s := mixed(6, 8), anySheet(chance, 6, true)
	want := agrees(t, "at first", f, s)
	for n := range 60 {
		format := formats()[n%3]
		other := anySheet(chance, format, n%2 == 0)
		agrees(t, "another one", mixed(format, int64(n)), other)
		refused(t, "another one", api.Frame{}, skipped(format), api.ErrFirst)
		tells(t, "again", f, s, want)
	}
}
