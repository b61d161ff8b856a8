package rebuild_test

import (
	"bytes"
	"math"
	"math/rand"
	"reflect"
	"slices"
	"testing"

	"overspill/api"
	"overspill/motion"
	"overspill/planes"
	"overspill/rebuild"
	"overspill/residue"
)

type (
	list   = []api.Event
	block  = [64]int
	vector = [2]int
)

// greatness is how great a format is, as it stands on paper.
type greatness struct {
	widths, heights [3]int
	across, lines   int
}

// table is that of all formats. Number 0 is none.
func table() [7]greatness {
	return [7]greatness{
		1: {[3]int{128, 64, 64}, [3]int{96, 48, 48}, 8, 6},
		2: {[3]int{176, 88, 88}, [3]int{144, 72, 72}, 11, 9},
		3: {[3]int{352, 176, 176}, [3]int{288, 144, 144}, 22, 18},
		4: {[3]int{704, 352, 352}, [3]int{576, 288, 288}, 44, 36},
		5: {[3]int{1408, 704, 704}, [3]int{1152, 576, 576}, 88, 72},
		6: {[3]int{32, 16, 16}, [3]int{32, 16, 16}, 2, 2},
	}
}

func cells(format int) int {
	return table()[format].across * table()[format].lines
}

// kinds are those that a cell may have.
func kinds() []int {
	return []int{api.Inter, api.InterQ, api.Intra, api.IntraQ}
}

func isIntra(c api.Cell) bool {
	return c.Kind == api.Intra || c.Kind == api.IntraQ
}

// wild are numbers at the ends of an int, and about those of other parts.
func wild() []int {
	return []int{
		math.MinInt, math.MinInt + 1, -1 << 62, -1 << 32, 1 - 1<<32, math.MinInt32, -65536, -256, -129, -128, -65, -64, -33,
		65, 128, 255, 256, 257, 65536, math.MaxInt32, 1 << 32, 1<<32 + 1, 1 << 62, math.MaxInt - 1, math.MaxInt,
	}
}

// quants are all quantisers, and what counts as one of them.
func quants() []int {
	l := append(wild(), -31, -2, -1, 0, 32, 33, 63, 64)
	for quant := 1; quant <= 31; quant++ {
		l = append(l, quant)
	}
	return l
}

// bounded brings n to the bounds, as what is clipped counts.
func bounded(n, low, high int) int {
	return min(max(n, low), high)
}

// made is a frame each sample of which is what it tells of its plane, column and
// line.
func made(format int, tells func(plane, x, y int) int) api.Frame {
	g := table()[format]
	f := api.Frame{Format: format}
	for plane := range f.Planes {
		for y := range g.heights[plane] {
			for x := range g.widths[plane] {
				f.Planes[plane] = append(f.Planes[plane], byte(tells(plane, x, y)))
			}
		}
	}
	return f
}

// level is a frame all samples of which are the same.
func level(format, sample int) api.Frame {
	return made(format, func(int, int, int) int { return sample })
}

// mixed is a frame in which neighbours differ, another one for each seed.
func mixed(format int, seed int64) api.Frame {
	chance := rand.New(rand.NewSource(seed))
	last := 0
	return made(format, func(int, int, int) int {
		last = (last + 1 + chance.Intn(255)) % 256
		return last
	})
}

// copied is f in memory of its own.
func copied(f api.Frame) api.Frame {
	for plane, l := range f.Planes {
		f.Planes[plane] = slices.Clone(l)
	}
	return f
}

// clone is c with lists of its own.
func clone(c api.Cell) api.Cell {
	for i := range c.Events {
		c.Events[i] = slices.Clone(c.Events[i])
	}
	return c
}

// some are events that blocks of all kinds may have, other ones for each n; the first
// are none.
func some(n int) list {
	return []list{
		nil,
		{{Last: true, Level: 1}},
		{{Level: -1}, {Last: true, Run: 2, Level: 1}},
		{{Last: true, Run: 40, Level: -3}},
		{{Run: 1, Level: 100}, {Level: 2}, {Last: true, Level: -1}},
		{{Last: true, Run: 62, Level: 127}},
		{{Level: 1}, {Level: -2}, {Level: 3}, {Last: true, Run: 5, Level: -127}},
	}[n%7]
}

// cell is one of that kind without a vector, other ones for each n.
func cell(kind, n int) api.Cell {
	c := api.Cell{Kind: kind, Stuff: n % 65}
	if kind == api.InterQ || kind == api.IntraQ {
		c.Step = []int{-2, -1, 1, 2}[n%4]
	}
	for i := range c.Events {
		if isIntra(c) {
			c.Dc[i] = 1 + (37*i+n)%254
		}
		c.Events[i] = some(i + n)
	}
	return c
}

// by is a predicted cell with that vector.
func by(kind, n int, mv vector) api.Cell {
	c := cell(kind, n)
	c.Mv = mv
	return c
}

// anyEvents are some that a block may have whose levels are numbered from there on.
func anyEvents(chance *rand.Rand, from int) list {
	var l list
	for number := from + chance.Intn(20); number < 64; {
		level := 1 + chance.Intn(127)
		if chance.Intn(3) > 0 {
			level = 1 + chance.Intn(4)
		}
		if chance.Intn(2) == 0 {
			level = -level
		}
		l = append(l, api.Event{Run: number - from, Level: level})
		from = number + 1
		number = from + chance.Intn(1+chance.Intn(40))
	}
	if len(l) > 0 {
		l[len(l)-1].Last = true
	}
	return l
}

// anyCell is one that may be cell n of that format.
func anyCell(chance *rand.Rand, format, n int) api.Cell {
	if chance.Intn(15) == 0 {
		return api.Cell{Stuff: chance.Intn(65), Skip: true}
	}
	c := cell(kinds()[chance.Intn(4)], chance.Intn(1000))
	for i := range c.Events {
		from := 0
		if isIntra(c) {
			from, c.Dc[i] = 1, 1+chance.Intn(254)
		}
		c.Events[i] = nil
		if chance.Intn(3) > 0 {
			c.Events[i] = anyEvents(chance, from)
		}
	}
	for !isIntra(c) {
		c.Mv = vector{chance.Intn(64) - 32, chance.Intn(64) - 32}
		if inside(format, n, c.Mv) {
			break
		}
	}
	return c
}

// inside says whether all samples of luma that mv leads to from cell n are there.
func inside(format, n int, mv vector) bool {
	g := table()[format]
	x, y := 32*(n%g.across)+mv[0], 32*(n/g.across)+mv[1]
	return x >= 0 && y >= 0 && x+30 <= 2*(g.widths[0]-1) && y+30 <= 2*(g.heights[0]-1)
}

// order is at which place each number of a block stands, by chapter 11's words:
// diagonal by diagonal, on even ones upwards, on odd ones downwards.
func order() []int {
	var l []int
	for d := range 15 {
		for i := 0; i <= d; i++ {
			row := i
			if d%2 == 0 {
				row = d - i
			}
			if row < 8 && d-row < 8 {
				l = append(l, 8*row+d-row)
			}
		}
	}
	return l
}

// value says by chapter 12's words what a quantiser makes of a level.
func value(level, quant int) int {
	n := 0
	switch {
	case level > 0:
		n = quant*(2*level+1) - (1 - quant%2)
	case level < 0:
		n = quant*(2*level-1) + (1 - quant%2)
	}
	return bounded(n, -2048, 2047)
}

// values says by the chapters' words what the quantiser makes of that block.
func values(c api.Cell, number, quant int) block {
	var l block
	at, next := order(), 0
	if isIntra(c) {
		l[0], next = 8*c.Dc[number], 1
	}
	for _, e := range c.Events[number] {
		l[at[next+e.Run]] = value(e.Level, bounded(quant, 1, 31))
		next += e.Run + 1
	}
	return l
}

// added says by the chapters' words what is added to the cell's prediction. The
// weights stand in chapter 14.
func added(c api.Cell, quant int) api.Patch {
	weights := [8][8]int{
		{64, 64, 64, 64, 64, 64, 64, 64},
		{89, 75, 50, 18, -18, -50, -75, -89},
		{83, 36, -36, -83, -83, -36, 36, 83},
		{75, -18, -89, -50, 50, 89, 18, -75},
		{64, -64, -64, 64, 64, -64, -64, 64},
		{50, -89, 18, 75, -75, -18, 89, -50},
		{36, -83, 83, -36, -36, 83, -83, 36},
		{18, -50, 75, -89, 89, -75, 50, -18},
	}
	var p api.Patch
	for i := range p {
		var sums block
		for from, n := range values(c, i, quant) {
			for place := range sums {
				if n != 0 {
					sums[place] += weights[from%8][place%8] * weights[from/8][place/8] * n
				}
			}
		}
		for place, sum := range sums {
			p[i][place] = bounded((sum+1<<14)>>15, -256, 255)
		}
	}
	return p
}

// colour is what a vector's number is in colours.
func colour(v int) int {
	if v < 0 {
		return -colour(-v)
	}
	return v/4*2 + []int{0, 1, 1, 1}[v%4]
}

// half is the sample at halves (x, y) of that plane, by chapter 18's words.
func half(f api.Frame, plane, x, y int) int {
	width := table()[f.Format].widths[plane]
	at := func(a, b int) int { return int(f.Planes[plane][b*width+a]) }
	a, b := x/2, y/2
	switch {
	case x%2 == 1 && y%2 == 1:
		return (at(a, b) + at(a+1, b) + at(a, b+1) + at(a+1, b+1) + 2) / 4
	case x%2 == 1:
		return (at(a, b) + at(a+1, b) + 1) / 2
	case y%2 == 1:
		return (at(a, b) + at(a, b+1) + 1) / 2
	}
	return at(a, b)
}

// predicted says by the chapters' words what f has where mv leads from cell n.
func predicted(f api.Frame, n int, mv vector) api.Patch {
	var p api.Patch
	column, line := n%table()[f.Format].across, n/table()[f.Format].across
	for i := range p {
		plane, x, y, v := 0, 16*column+8*(i%2), 16*line+8*(i/2), mv
		if i >= 4 {
			plane, x, y, v = i-3, 8*column, 8*line, vector{colour(mv[0]), colour(mv[1])}
		}
		for place := range p[i] {
			p[i][place] = half(f, plane, 2*(x+place%8)+v[0], 2*(y+place/8)+v[1])
		}
	}
	return p
}

// paper is the samples of a cell that may be, by the chapters' words.
func paper(f api.Frame, n int, c api.Cell, quant int) api.Patch {
	p := added(c, quant)
	var under api.Patch
	if !isIntra(c) {
		under = predicted(f, n, c.Mv)
	}
	for i := range p {
		for place := range p[i] {
			p[i][place] = bounded(p[i][place]+under[i][place], 0, 255)
		}
	}
	return p
}

// holds asks for the samples of a cell that may be.
func holds(t *testing.T, f api.Frame, n int, c api.Cell, quant int) api.Patch {
	t.Helper()
	kept := clone(c)
	p, err := rebuild.Cell(f, n, c, quant)
	if want := paper(f, n, c, quant); err != api.OK || p != want {
		t.Fatalf("format %d: Cell(%d, %v, %d) = %v, %d, want %v", f.Format, n, c, quant, p, err, want)
	}
	if !reflect.DeepEqual(c, kept) {
		t.Fatalf("the cell became %v, was %v", c, kept)
	}
	return p
}

// refused asks for those of one that may not be: the error, and noughts.
func refused(t *testing.T, what string, f api.Frame, n int, c api.Cell, quant int, want api.Errno) {
	t.Helper()
	if p, err := rebuild.Cell(f, n, c, quant); err != want || p != (api.Patch{}) {
		t.Fatalf("%s: format %d: Cell(%d, %v, %d) = %v, %d, want %d", what, f.Format, n, c, quant, p, err, want)
	}
}

// flat has one number everywhere.
func flat(n int) api.Patch {
	var p api.Patch
	for i := range p {
		for place := range p[i] {
			p[i][place] = n
		}
	}
	return p
}

// noFrames are frames that are not right, all made of one that is.
func noFrames(right api.Frame) []api.Frame {
	l := []api.Frame{{}, {Format: right.Format}}
	for _, format := range append(wild(), -1, 0, 7, 8, right.Format%6+1) {
		f := right
		f.Format = format
		l = append(l, f)
	}
	for plane := range right.Planes {
		less, more, none, twice := right, right, right, right
		less.Planes[plane] = right.Planes[plane][1:]
		more.Planes[plane] = append(slices.Clone(right.Planes[plane]), 1)
		none.Planes[plane] = nil
		twice.Planes[plane] = bytes.Repeat(right.Planes[plane], 2)
		l = append(l, less, more, none, twice)
	}
	return l
}

func TestExample(t *testing.T) {
	c := api.Cell{Kind: api.Intra, Dc: [6]int{10, 10, 10, 10, 10, 10}}
	if p, err := rebuild.Cell(api.Frame{}, 0, c, 5); p != flat(10) || err != api.OK {
		t.Errorf("Cell: %v, %d", p, err)
	}
}

// P31.1: some sums, as they stand on paper.
func TestSumOnPaper(t *testing.T) {
	for _, v := range [][3]int{
		{0, 0, 0}, {1, 2, 3}, {100, -99, 1}, {100, -100, 0}, {100, -101, 0}, {255, 0, 255}, {255, 1, 255}, {254, 1, 255}, {0, 256, 255},
		{-1, 0, 0}, {-1, 1, 0}, {-1, 2, 1}, {-256, 511, 255}, {300, -100, 200}, {600, -400, 200}, {1000, -900, 100}, {1000, 1000, 255},
		{1024, -1024, 0}, {1024, -1023, 1}, {1024, -800, 224}, {1025, -800, 224}, {2000, -800, 224}, {math.MaxInt, -800, 224},
		{-1024, 1024, 0}, {-1023, 1024, 1}, {-1024, 1100, 0}, {-1000, 1100, 24}, {-1000, math.MaxInt, 24}, {-800, 1024, 224},
		{1000, -1025, 0}, {1024, -1025, 0}, {1500, -1025, 0}, {5000, -5000, 0}, {5000, -4990, 0}, {-5000, 5100, 0},
		{math.MaxInt, math.MaxInt, 255}, {math.MinInt, math.MinInt, 0}, {math.MaxInt, math.MinInt, 0}, {math.MinInt, math.MaxInt, 0},
		{math.MaxInt, 1, 255}, {math.MinInt, -1, 0}, {1 << 32, 0, 255}, {-1 << 32, 5, 0}, {1<<32 + 5, -1000, 24}, {5 - 1<<32, 1020, 0},
	} {
		for _, swapped := range []bool{false, true} {
			a, b := v[0], v[1]
			if swapped {
				a, b = b, a
			}
			if p := rebuild.Sum(flat(a), flat(b)); p != flat(v[2]) {
				t.Errorf("Sum of %d and %d is %v, want %d", a, b, p, v[2])
			}
		}
	}
}

// together says by the chapter's words what two numbers make.
func together(a, b int) int {
	return bounded(bounded(a, -1024, 1024)+bounded(b, -1024, 1024), 0, 255)
}

// summed asks for a sum against the chapter's words.
func summed(t *testing.T, p, q api.Patch) {
	t.Helper()
	got, first, second := rebuild.Sum(p, q), p, q
	for i := range got {
		for place, n := range got[i] {
			if want := together(p[i][place], q[i][place]); n != want {
				t.Fatalf("block %d, place %d: of %d and %d %d, want %d", i, place, p[i][place], q[i][place], n, want)
			}
		}
	}
	if p != first || q != second {
		t.Fatalf("what was handed in has changed")
	}
}

// P31.1: each number to 1100, and those at an int's ends, with many others.
func TestSums(t *testing.T) {
	l := append(wild(), -1026, -1025, -1024, -1023, -1022, 1022, 1023, 1024, 1025, 1026, 2047, 2048, 4096, -2048)
	for n := -300; n <= 300; n += 3 {
		l = append(l, n)
	}
	for n := -1100; n <= 1100; n++ {
		l = append(l, n)
	}
	const all = 6 * 64
	for shift := range 40 {
		for begin := 0; begin < len(l); begin += all {
			var p, q api.Patch
			for k := range all {
				p[k/64][k%64] = l[(begin+k)%len(l)]
				q[k/64][k%64] = l[(begin+k+shift*shift*7+shift)%len(l)]
			}
			summed(t, p, q)
			summed(t, q, p)
		}
	}
	for _, a := range l[:40] {
		for begin := 0; begin < len(l); begin += all {
			var q api.Patch
			for k := range all {
				q[k/64][k%64] = l[(begin+k)%len(l)]
			}
			summed(t, flat(a), q)
			summed(t, q, flat(a))
		}
	}
}

// P31.1: each sample hangs on those at its own place alone.
func TestSumsPlaceByPlace(t *testing.T) {
	for i := range 6 {
		for place := range 64 {
			p, q, want := flat(3), flat(4), flat(7)
			p[i][place], want[i][place] = 50, 54
			if got := rebuild.Sum(p, q); got != want {
				t.Fatalf("the first has 50 at %d, %d: %v", i, place, got)
			}
			q[i][place], want[i][place] = -30, 20
			if got := rebuild.Sum(p, q); got != want {
				t.Fatalf("and the second -30: %v", got)
			}
		}
	}
}

func TestAnySums(t *testing.T) {
	chance := rand.New(rand.NewSource(31))
	for range 2000 {
		var p, q api.Patch
		for i := range p {
			for place := range p[i] {
				p[i][place] = int(chance.Uint64()) >> chance.Intn(64)
				q[i][place] = int(chance.Uint64()) >> chance.Intn(64)
			}
		}
		summed(t, p, q)
	}
}

// P31.2: of intra cells neither the frame nor the number is looked at.
func TestIntraCells(t *testing.T) {
	f := mixed(6, 1)
	frames := append(noFrames(f), f, level(6, 255), level(1, 99))
	numbers := append(wild(), -1, 0, 1, 3, 4, 47, 48)
	for _, kind := range []int{api.Intra, api.IntraQ} {
		for n := range 300 {
			holds(t, frames[n%len(frames)], numbers[n%len(numbers)], cell(kind, n), 1+n%31)
		}
		c := cell(kind, 4)
		want := paper(f, 0, c, 7)
		for _, g := range frames {
			for _, n := range numbers {
				if p, err := rebuild.Cell(g, n, c, 7); err != api.OK || p != want {
					t.Fatalf("of format %d: Cell(%d, %v) = %v, %d, want %v", g.Format, n, c, p, err, want)
				}
			}
		}
	}
}

// P31.2: each Dc of each block alone tells all its samples.
func TestDcs(t *testing.T) {
	for dc := 1; dc <= 254; dc++ {
		for i := range 6 {
			c := api.Cell{Kind: api.Intra, Dc: [6]int{7, 77, 177, 107, 17, 70}}
			c.Dc[i] = dc
			want := api.Patch{}
			for number := range want {
				want[number] = flat(c.Dc[number])[number]
			}
			// 128 times 8 is no more than 1024.
			if p, err := rebuild.Cell(api.Frame{}, -1, c, dc); p != want || err != api.OK {
				t.Fatalf("of dc %d: %v, %d", dc, p, err)
			}
		}
	}
}

// P31.2: by each vector from each cell of a small frame, or why there is none.
func TestVectors(t *testing.T) {
	f := mixed(6, 2)
	for n := range cells(6) {
		for x := -32; x <= 31; x++ {
			for y := -32; y <= 31; y++ {
				c := api.Cell{Mv: vector{x, y}, Events: [6][]api.Event{2: {{Last: true, Level: 2}}, 5: {{Last: true, Run: 1, Level: -3}}}}
				if inside(6, n, c.Mv) {
					holds(t, f, n, c, 4)
				} else {
					refused(t, "outside", f, n, c, 4, api.ErrVector)
				}
			}
		}
	}
}

// P31.2: each cell of each format, about which are other ones.
func TestFormats(t *testing.T) {
	for format := 1; format <= 6; format++ {
		f := mixed(format, 3)
		g := table()[format]
		step := 1 + cells(format)/200
		for n := 0; n < cells(format); n += step {
			mv := vector{n%27 - 13, n%23 - 11}
			if !inside(format, n, mv) {
				mv = vector{}
			}
			holds(t, f, n, by(api.InterQ, n, mv), 1+n%31)
		}
		for _, n := range []int{0, g.across - 1, cells(format) - g.across, cells(format) - 1} {
			holds(t, f, n, by(api.Inter, n+1, vector{}), 3)
		}
	}
}

// P31.2: each quantiser, and each number that counts as one.
func TestQuants(t *testing.T) {
	f := mixed(6, 4)
	for _, quant := range quants() {
		for i, kind := range kinds() {
			holds(t, f, i, cell(kind, 60+i), quant)
		}
		holds(t, f, 0, by(api.Inter, 4, vector{13, 8}), quant)
	}
	// The cell's own step has no part in it.
	for _, step := range []int{-2, -1, 1, 2} {
		c := cell(api.InterQ, 3)
		c.Step = step
		other := c
		other.Kind, other.Step = api.Inter, 0
		if holds(t, f, 1, c, 9) != holds(t, f, 1, other, 9) {
			t.Errorf("by step %d another cell", step)
		}
	}
}

// P31.2: what a level adds is added to each sample, and clipped.
func TestPredictedOnPaper(t *testing.T) {
	for _, v := range []struct{ under, level, quant, want int }{
		{100, 3, 5, 104}, {100, -3, 5, 96}, {252, 3, 5, 255}, {251, 3, 5, 255}, {250, 3, 5, 254}, {4, -3, 5, 0}, {3, -3, 5, 0}, {5, -3, 5, 1},
		{0, 127, 31, 255}, {1, 127, 31, 255}, {255, 127, 31, 255}, {255, -127, 31, 0}, {0, -127, 31, 0}, {200, 127, 1, 232}, {30, -127, 1, 0},
	} {
		for i := range 6 {
			c := api.Cell{}
			c.Events[i] = list{{Last: true, Level: v.level}}
			want := flat(v.under)
			want[i] = flat(v.want)[i]
			f := level(6, v.under)
			for n, mv := range []vector{{0, 0}, {-31, 1}, {3, -32}, {-1, -1}} {
				c.Mv = mv
				if p, err := rebuild.Cell(f, n, c, v.quant); p != want || err != api.OK {
					t.Errorf("over %d: Cell(%d, %v, %d) = %v, %d", v.under, n, c, v.quant, p, err)
				}
			}
		}
	}
}

// P31.3: a cell that is skipped is what f has there, whatever the quantiser.
func TestSkipped(t *testing.T) {
	for format := 1; format <= 6; format++ {
		f := mixed(format, 5)
		all := quants()
		for n := range cells(format) {
			want, err := planes.Cut(f, n)
			if err != api.OK {
				t.Fatalf("Cut(%d): %d", n, err)
			}
			c := api.Cell{Stuff: n % 65, Skip: true}
			if p, err := rebuild.Cell(f, n, c, all[n%len(all)]); p != want || err != api.OK {
				t.Fatalf("format %d: skipped cell %d is %v, %d", format, n, p, err)
			}
			// Nor is one without events anything else.
			if p, err := rebuild.Cell(f, n, api.Cell{}, 5); p != want || err != api.OK {
				t.Fatalf("format %d: bare cell %d is %v, %d", format, n, p, err)
			}
		}
	}
}

// P31.2: predicted and skipped cells need a frame that is right, and its cell.
func TestErrArg(t *testing.T) {
	l := []api.Cell{{Skip: true}, {}, by(api.Inter, 3, vector{}), by(api.InterQ, 5, vector{1, 1}), by(api.Inter, 2, vector{-32, 31})}
	for _, format := range []int{1, 6} {
		f := mixed(format, 6)
		for _, c := range l {
			for i, g := range noFrames(f) {
				refused(t, "frame", g, i%5-1, c, 5, api.ErrArg)
			}
			for _, n := range append(wild(), -1, -2, cells(format), cells(format)+1, 2*cells(format)) {
				if n < 0 || n >= cells(format) {
					refused(t, "number", f, n, c, 5, api.ErrArg)
				}
			}
		}
	}
}

// P31.2: vectors that lead outside from the cells at the edges.
func TestErrVector(t *testing.T) {
	for format := 1; format <= 6; format++ {
		f, g := mixed(format, 7), table()[format]
		last := cells(format) - 1
		for _, v := range []struct {
			n  int
			mv vector
		}{
			{0, vector{-1, 0}}, {0, vector{0, -1}}, {0, vector{-32, -32}}, {g.across - 1, vector{1, 0}}, {g.across - 1, vector{0, -1}},
			{g.across, vector{-1, 0}}, {last - g.across + 1, vector{0, 1}}, {last, vector{1, 0}}, {last, vector{0, 1}}, {last, vector{31, 31}},
			{last - 1, vector{-4, 1}}, {1, vector{0, -2}},
		} {
			for _, kind := range []int{api.Inter, api.InterQ} {
				refused(t, "outside", f, v.n, by(kind, v.n, v.mv), 5, api.ErrVector)
			}
		}
	}
}

// wrongCells are cells that may be in no sheet.
func wrongCells() []api.Cell {
	l := []api.Cell{
		{Kind: api.Four}, {Kind: 5}, {Kind: -1}, {Kind: api.Intra}, {Kind: api.InterQ}, {Step: 1}, {Stuff: 65}, {Stuff: -1},
		{Skip: true, Mv: vector{0, 1}}, {Skip: true, Stuff: 65}, {Skip: true, Kind: api.InterQ, Step: 1}, {Dc: [6]int{3: 1}},
		{Skip: true, Events: [6][]api.Event{{{Last: true, Level: 1}}}},
	}
	for _, kind := range kinds() {
		for _, n := range wild() {
			c := cell(kind, 4)
			c.Step = n
			l = append(l, c)
			c = cell(kind, 4)
			c.Mv[n&1] = n
			l = append(l, c)
			c = cell(kind, 4)
			c.Kind = n
			l = append(l, c)
		}
		for i := range 6 {
			for _, events := range []list{
				{{Level: 1}}, {{Last: true}}, {{Last: true, Run: 64, Level: 1}}, {{Last: true, Level: 128}}, {{Last: true, Run: -1, Level: 1}},
				{{Last: true, Level: 1}, {Last: true, Level: 1}}, slices.Repeat(list{{Level: 1}}, 65),
			} {
				c := cell(kind, 4)
				c.Events[i] = events
				l = append(l, c)
			}
		}
		c := cell(kind, 4)
		c.Skip = true
		l = append(l, c)
	}
	for _, kind := range []int{api.Intra, api.IntraQ} {
		c := cell(kind, 4)
		c.Mv = vector{0, 1}
		l = append(l, c)
		for _, dc := range []int{0, -1, 255} {
			c = cell(kind, 4)
			c.Dc[5] = dc
			l = append(l, c)
		}
	}
	return l
}

// P31.2: that a cell may not be is told first, then that the frame or the number is
// wrong, then that the vector leads outside.
func TestOrderOfErrors(t *testing.T) {
	f := mixed(6, 8)
	for _, c := range wrongCells() {
		for _, quant := range []int{math.MinInt, 0, 5, 31, math.MaxInt} {
			refused(t, "cell", f, 0, c, quant, api.ErrTree)
			refused(t, "cell and number", f, 4, c, quant, api.ErrTree)
			refused(t, "cell and frame", api.Frame{}, 0, c, quant, api.ErrTree)
			other := c
			other.Mv = vector{-1, -1}
			refused(t, "cell and vector", f, 0, other, quant, treeOr(other))
		}
	}
	outside := by(api.Inter, 4, vector{-1, 0})
	refused(t, "vector", f, 0, outside, 5, api.ErrVector)
	refused(t, "vector and number", f, -1, outside, 5, api.ErrArg)
	refused(t, "vector and number", f, 4, outside, 5, api.ErrArg)
	for _, g := range noFrames(f) {
		refused(t, "vector and frame", g, 0, outside, 5, api.ErrArg)
	}
}

// treeOr is what is wrong of one whose vector leads outside: where nothing else was
// wrong than its vector, it may be now.
func treeOr(c api.Cell) api.Errno {
	if _, err := residue.Of(c, 5); err != api.OK {
		return err
	}
	return api.ErrVector
}

// P31.2: any cells, by the chapters' words, and by the calls of the layers below.
func TestAnyCells(t *testing.T) {
	chance := rand.New(rand.NewSource(310))
	frames := []api.Frame{mixed(6, 9), mixed(1, 10), mixed(2, 11), level(6, 0), level(6, 255)}
	for range 2500 {
		f := frames[chance.Intn(len(frames))]
		n, quant := chance.Intn(cells(f.Format)), chance.Intn(36)-2
		c := anyCell(chance, f.Format, n)
		p := holds(t, f, n, c, quant)
		for i := range p {
			if slices.Min(p[i][:]) < 0 || slices.Max(p[i][:]) > 255 {
				t.Fatalf("Cell(%d, %v, %d): block %d is %v", n, c, quant, i, p[i])
			}
		}
		if p != layers(f, n, c, quant) {
			t.Fatalf("Cell(%d, %v, %d) is not what the layers below tell", n, c, quant)
		}
	}
}

// layers is the Sum of what the layers below tell.
func layers(f api.Frame, n int, c api.Cell, quant int) api.Patch {
	q, _ := residue.Of(c, quant)
	if isIntra(c) {
		return rebuild.Sum(api.Patch{}, q)
	}
	p, _ := motion.Predict(f, n, c.Mv)
	return rebuild.Sum(p, q)
}

// P31.2: cells and frames changed in some part answer what the layers below tell, in
// their order.
func TestChanged(t *testing.T) {
	chance := rand.New(rand.NewSource(311))
	right := mixed(6, 12)
	others := noFrames(right)
	told := map[api.Errno]int{}
	for range 6000 {
		f, n := right, chance.Intn(4)
		c := clone(anyCell(chance, 6, n))
		if chance.Intn(2) == 0 && !isIntra(c) && !c.Skip {
			c.Mv = vector{chance.Intn(68) - 34, chance.Intn(68) - 34}
		}
		switch i := chance.Intn(6); chance.Intn(8) {
		case 0:
			f = others[chance.Intn(len(others))]
		case 1:
			n = chance.Intn(20) - 8
		case 2:
			c.Kind = chance.Intn(6)
		case 3:
			c.Dc[i] = chance.Intn(256)
		case 4:
			c.Events[i] = append(c.Events[i], api.Event{Last: true, Level: 1})
		}
		quant := chance.Intn(40) - 4
		p, err := rebuild.Cell(f, n, c, quant)
		want := wanted(f, n, c, quant)
		told[err]++
		if err != want || err != api.OK && p != (api.Patch{}) || err == api.OK && p != paper(f, n, c, quant) {
			t.Fatalf("format %d: Cell(%d, %v, %d) = %v, %d, want %d", f.Format, n, c, quant, p, err, want)
		}
	}
	for _, err := range []api.Errno{api.OK, api.ErrTree, api.ErrArg, api.ErrVector} {
		if told[err] < 100 {
			t.Errorf("%d was told %d times", err, told[err])
		}
	}
}

// wanted is the error that the chapter names first.
func wanted(f api.Frame, n int, c api.Cell, quant int) api.Errno {
	if _, err := residue.Of(c, quant); err != api.OK {
		return err
	}
	if isIntra(c) {
		return api.OK
	}
	_, err := motion.Predict(f, n, c.Mv)
	return err
}

// What comes in stays as it was, with what lies behind its lists' ends.
func TestArgumentsStay(t *testing.T) {
	full := mixed(6, 13)
	f := copied(full)
	for plane := range f.Planes {
		room := append(f.Planes[plane], bytes.Repeat([]byte{170}, 50)...)
		f.Planes[plane] = room[:len(f.Planes[plane])]
	}
	behind := list{{Level: 1}, {Last: true, Run: 3, Level: 5}, {Run: 7, Level: 9}, {Last: true, Level: 99}}
	whole := slices.Clone(behind)
	for _, kind := range kinds() {
		for i := range 6 {
			c := cell(kind, 3)
			c.Events[i] = whole[:2]
			holds(t, f, 1, c, 5)
			refused(t, "number", f, -1, by(api.Inter, 1, vector{}), 5, api.ErrArg)
			refused(t, "outside", f, 0, by(api.Inter, 1, vector{-1, 0}), 5, api.ErrVector)
			c.Step = 9
			refused(t, "step", f, 1, c, 5, api.ErrTree)
		}
	}
	if !slices.Equal(whole, behind) {
		t.Errorf("the events have become %v", whole)
	}
	for plane, l := range f.Planes {
		if !bytes.Equal(l, full.Planes[plane]) || bytes.Count(l[len(l):len(l)+50], []byte{170}) != 50 {
			t.Errorf("plane %d, or what lies behind it, has changed", plane)
		}
	}
}

// What is told hangs on the arguments alone, whatever was asked ahead, and stays as it
// is when the frame changes.
func TestNothingIsKept(t *testing.T) {
	f, g := mixed(6, 14), mixed(1, 15)
	c := by(api.Inter, 2, vector{-3, 5})
	before := holds(t, f, 1, c, 6)
	for n := range 40 {
		holds(t, g, n, cell(kinds()[n%4], n), 1+n%31)
		refused(t, "step", g, n, api.Cell{Step: 1}, 5, api.ErrTree)
		refused(t, "frame", api.Frame{}, n, c, 5, api.ErrArg)
		rebuild.Sum(flat(n), flat(math.MaxInt))
		if holds(t, f, 1, c, 6) != before {
			t.Fatalf("the cell has changed")
		}
	}
	kept := before
	clear(f.Planes[0])
	if before != kept || holds(t, f, 1, c, 6) == before {
		t.Errorf("the cell is not made of the frame as it is")
	}
}
