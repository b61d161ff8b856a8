package motion_test

import (
	"bytes"
	"math"
	"math/rand"
	"slices"
	"testing"

	"overspill/api"
	"overspill/motion"
	"overspill/planes"
)

type vector = [2]int

// greatness is what this package takes from the formats, as it stands on paper.
type greatness struct {
	widths, heights [3]int
	across, lines   int
}

// table is that of all formats. Number 0 is none.
func table() [7]greatness {
	return [7]greatness{
		1: {[3]int{128, 64, 64}, [3]int{96, 48, 48}, 8, 6},
		2: {[3]int{176, 88, 88}, [3]int{144, 72, 72}, 11, 9},
		3: {[3]int{352, 176, 176}, [3]int{288, 144, 144}, 22, 18},
		4: {[3]int{704, 352, 352}, [3]int{576, 288, 288}, 44, 36},
		5: {[3]int{1408, 704, 704}, [3]int{1152, 576, 576}, 88, 72},
		6: {[3]int{32, 16, 16}, [3]int{32, 16, 16}, 2, 2},
	}
}

// cells is how many cells the format has.
func cells(format int) int {
	return table()[format].across * table()[format].lines
}

// noFormats are numbers that are none: some are one in fewer bits.
func noFormats() []int {
	l := []int{math.MinInt, math.MinInt + 1, math.MinInt + 6, math.MaxInt - 1, math.MaxInt}
	for n := range 40 {
		l = append(l, -n, 7+n)
	}
	for n := 1; n <= 6; n++ {
		l = append(l, 256+n, n-256, 1<<16+n, 1<<32+n, n-1<<32)
	}
	return l
}

// noCells are numbers of cells that the format does not have.
func noCells(format int) []int {
	all := cells(format)
	return []int{
		-1, -2, -all, all, all + 1, all + table()[format].across, 2 * all, 1 << 16, 1 << 32, 1<<32 + 1, -(1 << 32),
		1 - 1<<32, math.MinInt, math.MinInt + 1, math.MinInt + all - 1, math.MaxInt - 1, math.MaxInt,
	}
}

// noNumbers are numbers that no vector has.
func noNumbers() []int {
	return []int{
		-33, -34, -35, -36, -63, -64, -65, -96, -128, -256, -(1 << 16), -(1 << 32), 1 - 1<<32, -(1 << 62),
		math.MinInt, math.MinInt + 1, math.MinInt + 32, math.MinInt + 64,
		32, 33, 34, 35, 63, 64, 65, 96, 128, 256, 1 << 16, 1 << 32, 1<<32 + 1, 1 << 62,
		math.MaxInt - 63, math.MaxInt - 31, math.MaxInt - 1, math.MaxInt,
	}
}

// corners are the cells at the four corners, those beside them, and one in the
// middle.
func corners(format int) []int {
	g := table()[format]
	var l []int
	for _, line := range []int{0, 1, g.lines / 2, g.lines - 2, g.lines - 1} {
		for _, column := range []int{0, 1, g.across / 2, g.across - 2, g.across - 1} {
			l = append(l, line*g.across+column)
		}
	}
	slices.Sort(l)
	return slices.Compact(l)
}

// made is a frame each sample of which is what it tells of its plane, column and
// line.
func made(format int, tells func(plane, x, y int) int) api.Frame {
	g := table()[format]
	f := api.Frame{Format: format}
	for plane := range f.Planes {
		for y := range g.heights[plane] {
			for x := range g.widths[plane] {
				f.Planes[plane] = append(f.Planes[plane], byte(tells(plane, x, y)))
			}
		}
	}
	return f
}

// mixed is a frame in which neighbours differ, another one for each seed.
func mixed(format int, seed int64) api.Frame {
	random := rand.New(rand.NewSource(seed))
	last := 0
	return made(format, func(int, int, int) int {
		last = (last + 1 + random.Intn(255)) % 256
		return last
	})
}

// copied is f in memory of its own.
func copied(f api.Frame) api.Frame {
	for plane, l := range f.Planes {
		f.Planes[plane] = slices.Clone(l)
	}
	return f
}

// below is n by 2, rounded down, and whether n is odd.
func below(n int) (int, bool) {
	if n < 0 {
		half, odd := below(n + 1000)
		return half - 500, odd
	}
	return n / 2, n%2 == 1
}

// half is the sample at halves (x, y) of that plane, by the chapter's words.
func half(f api.Frame, plane, x, y int) int {
	g := table()[f.Format]
	at := func(a, b int) int {
		if a < 0 || b < 0 || a >= g.widths[plane] || b >= g.heights[plane] {
			panic("a sample outside the plane is asked")
		}
		return int(f.Planes[plane][b*g.widths[plane]+a])
	}
	a, right := below(x)
	b, down := below(y)
	switch {
	case right && down:
		return (at(a, b) + at(a+1, b) + at(a, b+1) + at(a+1, b+1) + 2) / 4
	case right:
		return (at(a, b) + at(a+1, b) + 1) / 2
	case down:
		return (at(a, b) + at(a, b+1) + 1) / 2
	}
	return at(a, b)
}

// amounts are what the amounts from 0 to 64 become in colours, as it stands on
// paper.
func amounts() []int {
	return []int{
		0, 1, 1, 1, 2, 3, 3, 3, 4, 5, 5, 5, 6, 7, 7, 7,
		8, 9, 9, 9, 10, 11, 11, 11, 12, 13, 13, 13, 14, 15, 15, 15,
		16, 17, 17, 17, 18, 19, 19, 19, 20, 21, 21, 21, 22, 23, 23, 23,
		24, 25, 25, 25, 26, 27, 27, 27, 28, 29, 29, 29, 30, 31, 31, 31,
		32,
	}
}

// colour is what a vector's number is in colours, on paper.
func colour(v int) int {
	if v < 0 {
		return -amounts()[-v]
	}
	return amounts()[v]
}

// place is the plane of sample i of that block of cell n, and its column and line
// there.
func place(format, n, block, i int) (plane, x, y int) {
	column, line := n%table()[format].across, n/table()[format].across
	switch block {
	case 0:
		return 0, 16*column + i%8, 16*line + i/8
	case 1:
		return 0, 16*column + 8 + i%8, 16*line + i/8
	case 2:
		return 0, 16*column + i%8, 16*line + 8 + i/8
	case 3:
		return 0, 16*column + 8 + i%8, 16*line + 8 + i/8
	}
	return block - 3, 8*column + i%8, 8*line + i/8
}

// paper is the patch of cell n of f by mv, by the chapter's words.
func paper(f api.Frame, n int, mv vector) api.Patch {
	var p api.Patch
	colours := vector{colour(mv[0]), colour(mv[1])}
	for block := range p {
		by := mv
		if block >= 4 {
			by = colours
		}
		for i := range p[block] {
			plane, x, y := place(f.Format, n, block, i)
			p[block][i] = half(f, plane, x+x+by[0], y+y+by[1])
		}
	}
	return p
}

// flat is a patch all samples of which are one.
func flat(sample int) api.Patch {
	var p api.Patch
	for block := range p {
		for i := range p[block] {
			p[block][i] = sample
		}
	}
	return p
}

// fits is whether v may be a vector's number, and all samples that a cell with that
// number, of so many in that direction, takes by it are inside.
func fits(cell, all, v int) bool {
	if v < -32 || v > 31 {
		return false
	}
	for i := range 16 {
		first, odd := below(32*cell + i + i + v)
		last := first
		if odd {
			last++
		}
		if first < 0 || last >= 16*all {
			return false
		}
	}
	return true
}

// fitting are the numbers by which a cell fits.
func fitting(cell, all int) []int {
	var l []int
	for v := -40; v <= 40; v++ {
		if fits(cell, all, v) {
			l = append(l, v)
		}
	}
	return l
}

// vectors are those by which cell n of that format may be predicted.
func vectors(format, n int) []vector {
	g := table()[format]
	var l []vector
	for _, y := range fitting(n/g.across, g.lines) {
		for _, x := range fitting(n%g.across, g.across) {
			l = append(l, vector{x, y})
		}
	}
	return l
}

func predict(t *testing.T, f api.Frame, n int, mv vector) api.Patch {
	t.Helper()
	p, err := motion.Predict(f, n, mv)
	if err != api.OK {
		t.Fatalf("format %d: Predict(%d, %v): %d", f.Format, n, mv, err)
	}
	return p
}

// holds asks for cell n of f by mv, and holds it against the chapter's words.
func holds(t *testing.T, f api.Frame, n int, mv vector) {
	t.Helper()
	got, want := predict(t, f, n, mv), paper(f, n, mv)
	if got == want {
		return
	}
	for block := range want {
		for i := range want[block] {
			if got[block][i] != want[block][i] {
				t.Fatalf("format %d: Predict(%d, %v): sample %d of block %d is %d, want %d",
					f.Format, n, mv, i, block, got[block][i], want[block][i])
			}
		}
	}
}

// refused asks for what may not be.
func refused(t *testing.T, f api.Frame, n int, mv vector, want api.Errno) {
	t.Helper()
	if p, err := motion.Predict(f, n, mv); err != want || p != (api.Patch{}) {
		t.Errorf("Predict of a frame of format %d with %d, %d and %d samples, cell %d and %v: error %d, want %d, patch %v",
			f.Format, len(f.Planes[0]), len(f.Planes[1]), len(f.Planes[2]), n, mv, err, want, p)
	}
}

func TestExample(t *testing.T) {
	for v, want := range map[int]int{1: 1, 2: 1, 3: 1, 4: 2, -5: -3} {
		if got := motion.Chroma(v); got != want {
			t.Errorf("Chroma(%d) = %d, want %d", v, got, want)
		}
	}
	if motion.May(6, 0, vector{-1, 0}) {
		t.Error("May(6, 0, {-1 0}) is true")
	}
	if !motion.May(6, 0, vector{31, 0}) {
		t.Error("May(6, 0, {31 0}) is false")
	}
	if motion.May(6, 1, vector{1, 0}) {
		t.Error("May(6, 1, {1 0}) is true")
	}
}

func TestChroma(t *testing.T) {
	for v := -64; v <= 64; v++ {
		if got, want := motion.Chroma(v), colour(v); got != want {
			t.Errorf("Chroma(%d) = %d, want %d", v, got, want)
		}
	}
}

func TestChromaIsClipped(t *testing.T) {
	far := []int{65, 66, 67, 68, 69, 127, 128, 129, 255, 256, 257, 1 << 16, 1<<31 - 1, 1 << 31, 1 << 32, 1<<32 + 5,
		1 << 62, math.MaxInt / 2, math.MaxInt - 64, math.MaxInt - 1, math.MaxInt}
	for v := 65; v <= 1000; v++ {
		far = append(far, v)
	}
	for _, v := range far {
		if got := motion.Chroma(v); got != 32 {
			t.Errorf("Chroma(%d) = %d, want 32", v, got)
		}
		if got := motion.Chroma(-v); got != -32 {
			t.Errorf("Chroma(%d) = %d, want -32", -v, got)
		}
	}
	if got := motion.Chroma(math.MinInt); got != -32 {
		t.Errorf("Chroma(%d) = %d, want -32", math.MinInt, got)
	}
}

// A greater number is never told as a lesser one, and both sides of 0 are alike.
func TestChromaGoesUp(t *testing.T) {
	for v := -70; v < 70; v++ {
		step := motion.Chroma(v+1) - motion.Chroma(v)
		if step < 0 || step > 1 {
			t.Errorf("from Chroma(%d) to that of %d it goes by %d", v, v+1, step)
		}
		if motion.Chroma(v) != -motion.Chroma(-v) {
			t.Errorf("Chroma(%d) = %d, Chroma(%d) = %d", v, motion.Chroma(v), -v, motion.Chroma(-v))
		}
	}
}

// May of each cell of each format, by every vector and those just beyond.
func TestMay(t *testing.T) {
	for format := 1; format <= 6; format++ {
		g := table()[format]
		var x, y [][70]bool
		for cell := range g.across {
			x = append(x, numbers(cell, g.across))
		}
		for cell := range g.lines {
			y = append(y, numbers(cell, g.lines))
		}
		for n := range cells(format) {
			for i, first := range x[n%g.across] {
				for j, second := range y[n/g.across] {
					mv := vector{i - 35, j - 35}
					if got := motion.May(format, n, mv); got != (first && second) {
						t.Fatalf("May(%d, %d, %v) = %v", format, n, mv, got)
					}
				}
			}
		}
	}
}

// numbers tells of each number from -35 on whether it fits.
func numbers(cell, all int) [70]bool {
	var l [70]bool
	for i := range l {
		l[i] = fits(cell, all, i-35)
	}
	return l
}

// edge is a number, and whether it may be.
type edge struct {
	v   int
	may bool
}

// edges are numbers that reach just to a plane's edge, or beyond it, as they stand
// on paper for the first, the second, the last but one and the last cell in a
// direction.
func edges(cells int) map[int][]edge {
	inner := []edge{{-32, true}, {-31, true}, {-1, true}, {0, true}, {1, true}, {30, true}, {31, true}, {-33, false}, {32, false}}
	first := []edge{{-32, false}, {-31, false}, {-2, false}, {-1, false}, {0, true}, {1, true}, {2, true}, {30, true}, {31, true}, {32, false}}
	last := []edge{{-33, false}, {-32, true}, {-31, true}, {-2, true}, {-1, true}, {0, true}, {1, false}, {2, false}, {30, false}, {31, false}}
	m := map[int][]edge{1: inner, cells - 2: inner}
	m[0], m[cells-1] = first, last
	return m
}

// Cell by cell along each edge: the number across it tells alone, as the other one
// is 0, by which a cell always fits.
func TestMayAlongEdges(t *testing.T) {
	for format := 1; format <= 6; format++ {
		g := table()[format]
		for column, l := range edges(g.across) {
			for line := range g.lines {
				for _, e := range l {
					if got := motion.May(format, line*g.across+column, vector{e.v, 0}); got != e.may {
						t.Errorf("format %d, column %d, line %d: May of {%d 0} is %v", format, column, line, e.v, got)
					}
				}
			}
		}
		for line, l := range edges(g.lines) {
			for column := range g.across {
				for _, e := range l {
					if got := motion.May(format, line*g.across+column, vector{0, e.v}); got != e.may {
						t.Errorf("format %d, column %d, line %d: May of {0 %d} is %v", format, column, line, e.v, got)
					}
				}
			}
		}
	}
}

// At the corners, and the cells beside them, both numbers tell.
func TestMayAtCorners(t *testing.T) {
	for format := 1; format <= 6; format++ {
		g := table()[format]
		for column, across := range edges(g.across) {
			for line, down := range edges(g.lines) {
				for _, x := range across {
					for _, y := range down {
						mv := vector{x.v, y.v}
						if got := motion.May(format, line*g.across+column, mv); got != (x.may && y.may) {
							t.Errorf("format %d, column %d, line %d: May of %v is %v", format, column, line, mv, got)
						}
					}
				}
			}
		}
	}
}

func TestMayOfNoVector(t *testing.T) {
	for format := 1; format <= 6; format++ {
		for _, n := range corners(format) {
			for _, v := range noNumbers() {
				for _, mv := range []vector{{v, 0}, {0, v}, {v, v}, {v, -v}, {v, 1}, {-1, v}} {
					if motion.May(format, n, mv) {
						t.Errorf("May(%d, %d, %v) is true", format, n, mv)
					}
				}
			}
		}
	}
}

func TestMayOfNoCell(t *testing.T) {
	for format := 1; format <= 6; format++ {
		for _, n := range noCells(format) {
			for _, mv := range []vector{{}, {1, 0}, {0, -1}, {-32, -32}, {31, 31}, {99, -99}, {math.MinInt, math.MaxInt}} {
				if motion.May(format, n, mv) {
					t.Errorf("May(%d, %d, %v) is true", format, n, mv)
				}
			}
		}
		for _, n := range []int{0, cells(format) - 1} {
			if !motion.May(format, n, vector{}) {
				t.Errorf("May(%d, %d, {0 0}) is false", format, n)
			}
		}
	}
}

func TestMayOfNoFormat(t *testing.T) {
	for _, format := range noFormats() {
		for _, n := range []int{0, 1, 3, 9, -1, 1 << 32, math.MinInt, math.MaxInt} {
			for _, mv := range []vector{{}, {1, 1}, {-1, -1}, {-32, 31}, {32, -33}, {math.MinInt, math.MaxInt}} {
				if motion.May(format, n, mv) {
					t.Errorf("May(%d, %d, %v) is true", format, n, mv)
				}
			}
		}
	}
}

// offFrames are frames that are not right, by one plane, by all, or by their
// Format.
func offFrames(format int) []api.Frame {
	f := mixed(format, 1)
	l := []api.Frame{{Format: format}, {Planes: f.Planes}, {Format: format, Planes: [3][]byte{{}, {}, {}}}}
	for plane, samples := range f.Planes {
		for _, off := range [][]byte{samples[1:], append(slices.Clone(samples), 7), nil, {}, samples[:len(samples)/2]} {
			g := f
			g.Planes[plane] = off
			l = append(l, g)
		}
	}
	for _, other := range append(noFormats(), 1, 2, 3, 4, 5, 6) {
		if other != format {
			l = append(l, api.Frame{Format: other, Planes: f.Planes}, api.Frame{Format: other})
		}
	}
	return append(l, api.Frame{Format: format, Planes: [3][]byte{f.Planes[1], f.Planes[0], f.Planes[2]}})
}

func TestPredictOfFramesThatAreNotRight(t *testing.T) {
	for format := 1; format <= 6; format++ {
		for _, f := range offFrames(format) {
			for _, n := range []int{0, 1, 3, -1, cells(format), math.MinInt, math.MaxInt} {
				for _, mv := range []vector{{}, {1, 1}, {-1, -1}, {99, 0}, {math.MinInt, math.MaxInt}} {
					refused(t, f, n, mv, api.ErrArg)
				}
			}
		}
	}
}

func TestPredictOfNoCell(t *testing.T) {
	for format := 1; format <= 6; format++ {
		f := mixed(format, 2)
		for _, n := range noCells(format) {
			for _, mv := range []vector{{}, {1, 1}, {-1, 0}, {0, 32}, {-33, 0}, {math.MaxInt, math.MinInt}} {
				refused(t, f, n, mv, api.ErrArg)
			}
		}
		holds(t, f, 0, vector{1, 1})
		holds(t, f, cells(format)-1, vector{-1, -1})
	}
}

func TestPredictOfNoVector(t *testing.T) {
	for format := 1; format <= 6; format++ {
		f := mixed(format, 3)
		for _, n := range corners(format) {
			for _, v := range noNumbers() {
				refused(t, f, n, vector{v, 0}, api.ErrVector)
				refused(t, f, n, vector{0, v}, api.ErrVector)
				refused(t, f, n, vector{v, -v}, api.ErrVector)
			}
		}
	}
}

// Whatever leads out of luma is refused, at every cell of the edges.
func TestPredictBeyondEdges(t *testing.T) {
	for _, format := range []int{1, 2, 6} {
		f := mixed(format, 4)
		g := table()[format]
		for n := range cells(format) {
			for v := -36; v <= 36; v++ {
				if !fits(n%g.across, g.across, v) {
					refused(t, f, n, vector{v, 0}, api.ErrVector)
				}
				if !fits(n/g.across, g.lines, v) {
					refused(t, f, n, vector{0, v}, api.ErrVector)
				}
			}
		}
	}
}

// few are vectors of all parities, on both sides of 0, near it and far.
func few() []vector {
	var l []vector
	for _, y := range []int{-32, -31, -30, -29, -16, -3, -2, -1, 0, 1, 2, 3, 4, 5, 16, 28, 29, 30, 31} {
		for _, x := range []int{-32, -31, -30, -29, -17, -5, -4, -3, -2, -1, 0, 1, 2, 3, 15, 28, 29, 30, 31} {
			l = append(l, vector{x, y})
		}
	}
	return l
}

// At the corners and in the middle of all formats, what may be is as the chapter
// says it, sample by sample; what may not be is refused.
func TestPredictAtCorners(t *testing.T) {
	for format := 1; format <= 6; format++ {
		f, g := mixed(format, 5), table()[format]
		for _, n := range corners(format) {
			for _, mv := range few() {
				if fits(n%g.across, g.across, mv[0]) && fits(n/g.across, g.lines, mv[1]) {
					holds(t, f, n, mv)
				} else {
					refused(t, f, n, mv, api.ErrVector)
				}
			}
		}
	}
}

func TestPredictOfEachCell(t *testing.T) {
	for format := 1; format <= 6; format++ {
		f, g := mixed(format, 6), table()[format]
		random := rand.New(rand.NewSource(7))
		for n := range cells(format) {
			x, y := fitting(n%g.across, g.across), fitting(n/g.across, g.lines)
			holds(t, f, n, vector{x[0], y[0]})
			holds(t, f, n, vector{x[len(x)-1], y[len(y)-1]})
			for range 4 {
				holds(t, f, n, vector{x[random.Intn(len(x))], y[random.Intn(len(y))]})
			}
		}
	}
}

// A cell in the middle is predicted by every vector there is.
func TestPredictByEachVector(t *testing.T) {
	for _, c := range []struct{ format, n int }{{1, 27}, {2, 49}} {
		f := mixed(c.format, 8)
		for y := -32; y <= 31; y++ {
			for x := -32; x <= 31; x++ {
				holds(t, f, c.n, vector{x, y})
			}
		}
	}
}

// The cells of the smallest format all stand in a corner.
func TestPredictByEachVectorThatMayBe(t *testing.T) {
	f := mixed(6, 9)
	for n := range cells(6) {
		l := vectors(6, n)
		if len(l) < 32*32 {
			t.Fatalf("cell %d has %d vectors", n, len(l))
		}
		for _, mv := range l {
			holds(t, f, n, mv)
		}
	}
}

// Samples of which the chapter makes one, as it stands on paper: luma counts by 3
// from column to column and by 5 from line to line, plane 1 by 2 and by 4, plane 2
// is 200 less as much.
func TestPredictByHand(t *testing.T) {
	f := made(6, func(plane, x, y int) int {
		switch plane {
		case 0:
			return 3*x + 5*y
		case 1:
			return 2*x + 4*y
		}
		return 200 - 2*x - 4*y
	})
	for _, c := range []struct {
		n     int
		mv    vector
		first [6]int
		last  int
	}{
		{0, vector{0, 0}, [6]int{0, 24, 40, 64, 0, 200}, 120},
		{0, vector{2, 0}, [6]int{3, 27, 43, 67, 1, 199}, 123},
		{0, vector{0, 2}, [6]int{5, 29, 45, 69, 2, 198}, 125},
		{0, vector{1, 0}, [6]int{2, 26, 42, 66, 1, 199}, 122},
		{0, vector{0, 1}, [6]int{3, 27, 43, 67, 2, 198}, 123},
		{0, vector{1, 1}, [6]int{4, 28, 44, 68, 3, 197}, 124},
		{0, vector{4, 8}, [6]int{26, 50, 66, 90, 10, 190}, 146},
		{0, vector{31, 31}, [6]int{124, 148, 164, 188, 45, 155}, 244},
		{3, vector{0, 0}, [6]int{128, 152, 168, 192, 48, 152}, 248},
		{3, vector{-1, 0}, [6]int{127, 151, 167, 191, 47, 153}, 247},
		{3, vector{0, -1}, [6]int{126, 150, 166, 190, 46, 154}, 246},
		{3, vector{-1, -1}, [6]int{124, 148, 164, 188, 45, 155}, 244},
		{3, vector{-2, -3}, [6]int{118, 142, 158, 182, 45, 155}, 238},
		{3, vector{-32, -32}, [6]int{0, 24, 40, 64, 0, 200}, 120},
		{1, vector{-5, 6}, [6]int{56, 80, 96, 120, 19, 181}, 176},
	} {
		p := predict(t, f, c.n, c.mv)
		for block, want := range c.first {
			if p[block][0] != want {
				t.Errorf("Predict(%d, %v): block %d begins with %d, want %d", c.n, c.mv, block, p[block][0], want)
			}
		}
		if p[3][63] != c.last {
			t.Errorf("Predict(%d, %v): luma ends with %d, want %d", c.n, c.mv, p[3][63], c.last)
		}
	}
}

// ends are samples that make sums of all remainders, the greatest too.
func ends() []int {
	return []int{0, 1, 2, 3, 127, 128, 252, 254, 255}
}

// Two samples together and 1, by 2, in each plane: a number 1 of a vector is 1 in
// colours too.
func TestPredictBetweenTwo(t *testing.T) {
	for _, a := range ends() {
		for _, b := range ends() {
			want := flat((a + b + 1) / 2)
			columns := made(6, func(_, x, _ int) int { return [2]int{a, b}[x%2] })
			lines := made(6, func(_, _, y int) int { return [2]int{a, b}[y%2] })
			for _, c := range []struct {
				f  api.Frame
				n  int
				mv vector
			}{
				{columns, 0, vector{1, 0}}, {columns, 1, vector{-1, 0}}, {columns, 2, vector{1, 0}}, {columns, 3, vector{-1, -32}},
				{lines, 0, vector{0, 1}}, {lines, 1, vector{0, 1}}, {lines, 2, vector{0, -1}}, {lines, 3, vector{-32, -1}},
			} {
				if got := predict(t, c.f, c.n, c.mv); got != want {
					t.Fatalf("between %d and %d: Predict(%d, %v) = %v", a, b, c.n, c.mv, got)
				}
			}
		}
	}
}

// Four samples together and 2, by 4, in each plane.
func TestPredictBetweenFour(t *testing.T) {
	ones := []vector{{1, 1}, {-1, 1}, {1, -1}, {-1, -1}}
	for _, a := range ends() {
		for _, b := range ends() {
			for _, c := range ends() {
				for _, d := range []int{0, 1, 2, 3, 255} {
					f := made(6, func(_, x, y int) int { return [2][2]int{{a, b}, {c, d}}[y%2][x%2] })
					n := (a + b + c + d) % 4
					if got := predict(t, f, n, ones[n]); got != flat((a+b+c+d+2)/4) {
						t.Fatalf("between %d, %d, %d and %d: Predict(%d, %v) = %v", a, b, c, d, n, ones[n], got)
					}
				}
			}
		}
	}
}

// Columns and lines are not taken for one another.
func TestPredictKnowsColumnsFromLines(t *testing.T) {
	columns := made(1, func(_, x, _ int) int { return 2 * x })
	lines := made(1, func(_, _, y int) int { return 2 * y })
	for v := -32; v <= 31; v++ {
		if predict(t, columns, 27, vector{0, v}) != predict(t, columns, 27, vector{}) {
			t.Errorf("columns differ by {0 %d}", v)
		}
		if predict(t, lines, 27, vector{v, 0}) != predict(t, lines, 27, vector{}) {
			t.Errorf("lines differ by {%d 0}", v)
		}
		if got := predict(t, columns, 27, vector{v, 0})[0][0]; got != 96+v {
			t.Errorf("by {%d 0} cell 27 begins with %d", v, got)
		}
		if got := predict(t, lines, 27, vector{0, v})[0][0]; got != 96+v {
			t.Errorf("by {0 %d} cell 27 begins with %d", v, got)
		}
	}
}

// By a vector's last numbers planes 1 and 2 are asked for their first column and
// line, and for the last ones that a vector reaches.
func TestPredictAtEdgesOfColours(t *testing.T) {
	for format := 1; format <= 6; format++ {
		f, g := mixed(format, 10), table()[format]
		last := g.across - 1
		for _, c := range []struct {
			column, line int
			mv           vector
		}{
			{1, 1, vector{-32, -32}}, {1, 0, vector{-32, 0}}, {0, 1, vector{0, -32}}, {1, 1, vector{-31, -31}},
			{last - 1, g.lines - 2, vector{31, 31}}, {last - 1, g.lines - 1, vector{31, 0}}, {last, g.lines - 2, vector{0, 31}},
			{last, g.lines - 1, vector{0, 0}}, {0, 0, vector{0, 0}}, {last, 0, vector{0, 0}}, {0, g.lines - 1, vector{0, 0}},
			{last - 1, g.lines - 2, vector{29, 30}}, {1, g.lines - 2, vector{-29, 31}}, {last - 1, 1, vector{31, -30}},
		} {
			holds(t, f, c.line*g.across+c.column, c.mv)
		}
		p := predict(t, f, g.across+1, vector{-32, -32})
		if got, want := [2]int{p[4][0], p[5][0]}, [2]int{int(f.Planes[1][0]), int(f.Planes[2][0])}; got != want {
			t.Errorf("format %d: the first samples of colours are %v, want %v", format, got, want)
		}
	}
}

func cut(t *testing.T, f api.Frame, n int) api.Patch {
	t.Helper()
	p, err := planes.Cut(f, n)
	if err != api.OK {
		t.Fatalf("Cut(format %d, %d): %d", f.Format, n, err)
	}
	return p
}

// P18.4: by no vector each cell is as it is cut; by one of -32 as the one beside it.
func TestPredictByNoVector(t *testing.T) {
	for format := 1; format <= 6; format++ {
		f, g := mixed(format, 11), table()[format]
		for n := range cells(format) {
			if got := predict(t, f, n, vector{}); got != cut(t, f, n) {
				t.Fatalf("format %d: cell %d is predicted as %v", format, n, got)
			}
			if n%g.across > 0 && predict(t, f, n, vector{-32, 0}) != cut(t, f, n-1) {
				t.Fatalf("format %d: to the left of cell %d is not the one beside it", format, n)
			}
			if n/g.across > 0 && predict(t, f, n, vector{0, -32}) != cut(t, f, n-g.across) {
				t.Fatalf("format %d: above cell %d is not the one above it", format, n)
			}
		}
	}
}

// P18.4: out of a flat frame each cell is flat.
func TestPredictOfFlatFrames(t *testing.T) {
	for format := 1; format <= 6; format++ {
		for _, sample := range []int{0, 1, 2, 3, 100, 127, 128, 254, 255} {
			f, err := planes.New(format, sample)
			if err != api.OK {
				t.Fatalf("New(%d, %d): %d", format, sample, err)
			}
			for _, n := range corners(format) {
				for _, mv := range vectors(format, n)[:40] {
					if got := predict(t, f, n, mv); got != flat(sample) {
						t.Fatalf("format %d: out of %d Predict(%d, %v) = %v", format, sample, n, mv, got)
					}
				}
			}
		}
	}
}

func TestPredictOfAllFlatSamples(t *testing.T) {
	for sample := range 256 {
		f := made(6, func(plane, _, _ int) int { return sample + plane })
		want := flat(sample)
		for i := range 64 {
			want[4][i], want[5][i] = (sample+1)%256, (sample+2)%256
		}
		for n, mv := range []vector{{1, 1}, {-31, 3}, {2, -17}, {-1, -30}} {
			if got := predict(t, f, n, mv); got != want {
				t.Fatalf("out of %d Predict(%d, %v) = %v", sample, n, mv, got)
			}
		}
	}
}

// Samples lie between the least and the greatest of their plane.
func TestPredictLiesBetween(t *testing.T) {
	bounds := [3][2]int{{90, 93}, {0, 1}, {253, 255}}
	random := rand.New(rand.NewSource(12))
	f := made(1, func(plane, _, _ int) int {
		return bounds[plane][0] + random.Intn(bounds[plane][1]-bounds[plane][0]+1)
	})
	for n := range cells(1) {
		for _, mv := range few() {
			if !motion.May(1, n, mv) {
				continue
			}
			for block, l := range predict(t, f, n, mv) {
				b := bounds[max(0, block-3)]
				if slices.Min(l[:]) < b[0] || slices.Max(l[:]) > b[1] {
					t.Fatalf("Predict(%d, %v): block %d is not from %d to %d: %v", n, mv, block, b[0], b[1], l)
				}
			}
		}
	}
}

// What comes in stays as it was, with what lies behind its lists' ends.
func TestArgumentsStay(t *testing.T) {
	for _, format := range []int{1, 6} {
		full := mixed(format, 13)
		f := copied(full)
		for plane := range f.Planes {
			room := append(f.Planes[plane], bytes.Repeat([]byte{170}, 100)...)
			f.Planes[plane] = room[:len(f.Planes[plane])]
		}
		other := f
		other.Format = 0
		for _, n := range []int{0, 2, 3, -1, math.MaxInt} {
			for _, mv := range []vector{{}, {1, 1}, {-1, -1}, {-32, 0}, {32, 0}} {
				p, _ := motion.Predict(f, n, mv)
				p[0][0]++
				motion.Predict(other, n, mv)
			}
		}
		for plane, l := range f.Planes {
			if !bytes.Equal(l, full.Planes[plane]) {
				t.Errorf("format %d: plane %d has changed", format, plane)
			}
			if room := l[len(l) : len(l)+100]; bytes.Count(room, []byte{170}) != 100 {
				t.Errorf("format %d: behind plane %d stands %v", format, plane, room)
			}
		}
		if f.Format != format {
			t.Errorf("format %d has become %d", format, f.Format)
		}
	}
}

// What is told hangs on the arguments alone, whatever was asked ahead.
func TestNothingIsKept(t *testing.T) {
	for first := 1; first <= 6; first++ {
		f := mixed(first, 14)
		before := predict(t, f, 1, vector{-3, 5})
		for second := 1; second <= 6; second++ {
			g := mixed(second, 15)
			holds(t, g, 0, vector{7, 9})
			refused(t, g, 0, vector{-7, 9}, api.ErrVector)
			refused(t, api.Frame{}, 0, vector{}, api.ErrArg)
			motion.May(second, 1, vector{-1, 0})
			motion.Chroma(second)
			if got := predict(t, f, 1, vector{-3, 5}); got != before {
				t.Errorf("behind format %d cell 1 of format %d is %v, and was %v", second, first, got, before)
			}
		}
		// A patch that was told stays as it is when the frame changes.
		clear(f.Planes[0])
		if before == predict(t, f, 1, vector{-3, 5}) {
			t.Errorf("format %d: cell 1 is predicted as of the frame that was", first)
		}
	}
}
