package formats_test

import (
	"math"
	"testing"

	"overspill/formats"
)

type pair = [2]int

// greatness is all that is told of a format.
type greatness struct {
	size         pair
	ok           bool
	luma, colour pair
	cells, rows  pair
}

// table is the chapter's, and what else follows of each line of it, as it stands
// on paper. Number 0 is no format.
func table() [7]greatness {
	return [7]greatness{
		1: {pair{128, 96}, true, pair{128, 96}, pair{64, 48}, pair{8, 6}, pair{6, 1}},
		2: {pair{176, 144}, true, pair{176, 144}, pair{88, 72}, pair{11, 9}, pair{9, 1}},
		3: {pair{352, 288}, true, pair{352, 288}, pair{176, 144}, pair{22, 18}, pair{18, 1}},
		4: {pair{704, 576}, true, pair{704, 576}, pair{352, 288}, pair{44, 36}, pair{18, 2}},
		5: {pair{1408, 1152}, true, pair{1408, 1152}, pair{704, 576}, pair{88, 72}, pair{18, 4}},
		6: {pair{32, 32}, true, pair{32, 32}, pair{16, 16}, pair{2, 2}, pair{2, 1}},
	}
}

// offs are numbers by which one is another one in fewer bits, and near the ends
// of an int.
func offs() []int {
	return []int{
		8, 16, 32, 64, 128, 256, 512, 1 << 15, 1 << 16, 1 << 24, 1 << 31, 1 << 32, 1 << 33, 1 << 40, 1 << 62,
		-8, -16, -32, -64, -128, -256, -512, -(1 << 15), -(1 << 16), -(1 << 24), -(1 << 31), -(1 << 32),
		-(1 << 33), -(1 << 40), -(1 << 62), math.MaxInt - 7, math.MinInt,
	}
}

// noFormats are numbers that are none.
func noFormats() []int {
	l := []int{0, 255, 256, 257, 1<<32 + 1, math.MinInt, math.MaxInt, math.MinInt + 1, math.MaxInt - 1}
	for n := 1; n <= 2000; n++ {
		l = append(l, -n, 6+n)
	}
	for _, off := range offs() {
		for n := range 8 {
			l = append(l, off+n)
		}
	}
	return l
}

// noPlanes are numbers that are none.
func noPlanes() []int {
	l := []int{255, 256, 257, 258, 1 << 32, 1<<32 + 1, 1<<32 + 2, math.MinInt, math.MaxInt, math.MinInt + 1, math.MaxInt - 1}
	for n := 1; n <= 40; n++ {
		l = append(l, -n, 2+n)
	}
	for _, off := range offs() {
		for n := range 4 {
			l = append(l, off+n)
		}
	}
	return l
}

// asked is all that the calls answer of a format.
func asked(format int) greatness {
	g := greatness{}
	g.size[0], g.size[1], g.ok = formats.Size(format)
	g.luma = plane(format, 0)
	g.colour = plane(format, 1)
	g.cells[0], g.cells[1] = formats.Cells(format)
	g.rows[0], g.rows[1] = formats.Rows(format)
	return g
}

func plane(format, n int) pair {
	width, height := formats.Plane(format, n)
	return pair{width, height}
}

func TestExample(t *testing.T) {
	if width, height, ok := formats.Size(2); width != 176 || height != 144 || !ok {
		t.Errorf("Size(2) = %d, %d, %v", width, height, ok)
	}
	if across, lines := formats.Cells(2); across != 11 || lines != 9 {
		t.Errorf("Cells(2) = %d, %d", across, lines)
	}
	if rows, lines := formats.Rows(5); rows != 18 || lines != 4 {
		t.Errorf("Rows(5) = %d, %d", rows, lines)
	}
	if width, height := formats.Plane(6, 1); width != 16 || height != 16 {
		t.Errorf("Plane(6, 1) = %d, %d", width, height)
	}
}

func TestAllFormats(t *testing.T) {
	for format, want := range table() {
		if got := asked(format); got != want {
			t.Errorf("of format %d is told %v, want %v", format, got, want)
		}
	}
}

func TestSize(t *testing.T) {
	for format, want := range table() {
		width, height, ok := formats.Size(format)
		if width != want.size[0] || height != want.size[1] || ok != want.ok {
			t.Errorf("Size(%d) = %d, %d, %v, want %v, %v", format, width, height, ok, want.size, want.ok)
		}
	}
}

func TestPlanes(t *testing.T) {
	for format, want := range table() {
		for n, size := range [3]pair{want.luma, want.colour, want.colour} {
			if got := plane(format, n); got != size {
				t.Errorf("Plane(%d, %d) = %v, want %v", format, n, got, size)
			}
		}
	}
}

// Luma is as great as the format; colours are half as wide, and half as high.
func TestColoursAreHalf(t *testing.T) {
	for format := 1; format <= 6; format++ {
		width, height, _ := formats.Size(format)
		if got := plane(format, 0); got != (pair{width, height}) {
			t.Errorf("Plane(%d, 0) = %v, of a format of %d by %d", format, got, width, height)
		}
		for n := 1; n <= 2; n++ {
			got := plane(format, n)
			if got[0]+got[0] != width || got[1]+got[1] != height {
				t.Errorf("Plane(%d, %d) = %v, of a format of %d by %d", format, n, got, width, height)
			}
		}
	}
}

func TestCells(t *testing.T) {
	for format, want := range table() {
		if across, lines := formats.Cells(format); across != want.cells[0] || lines != want.cells[1] {
			t.Errorf("Cells(%d) = %d, %d, want %v", format, across, lines, want.cells)
		}
	}
}

// steps is how often that many samples stand one behind the other in all, and
// whether nothing is left.
func steps(all, samples int) (int, bool) {
	n := 0
	for all >= samples {
		all -= samples
		n++
	}
	return n, all == 0
}

// Cells fill luma by 16 samples in each direction, and each colour by 8.
func TestCellsFillPlanes(t *testing.T) {
	for format := 1; format <= 6; format++ {
		across, lines := formats.Cells(format)
		for n, samples := range [3]int{16, 8, 8} {
			size := plane(format, n)
			if got, whole := steps(size[0], samples); got != across || !whole {
				t.Errorf("Cells(%d) tells %d across, %d fit into plane %d, all of it: %v", format, across, got, n, whole)
			}
			if got, whole := steps(size[1], samples); got != lines || !whole {
				t.Errorf("Cells(%d) tells %d lines, %d fit into plane %d, all of it: %v", format, lines, got, n, whole)
			}
		}
	}
}

func TestRows(t *testing.T) {
	for format, want := range table() {
		if rows, lines := formats.Rows(format); rows != want.rows[0] || lines != want.rows[1] {
			t.Errorf("Rows(%d) = %d, %d, want %v", format, rows, lines, want.rows)
		}
	}
}

// Rows and their lines are all lines of cells.
func TestRowsAreAllLines(t *testing.T) {
	for format := 1; format <= 6; format++ {
		rows, each := formats.Rows(format)
		_, lines := formats.Cells(format)
		_, height, _ := formats.Size(format)
		if rows < 1 || each < 1 || rows*each != lines || 16*rows*each != height {
			t.Errorf("Rows(%d) = %d, %d, of %d lines of cells, and %d of samples", format, rows, each, lines, height)
		}
	}
}

// Rows are numbered from 0 to 17 at most, as their heads tell them.
func TestRowsHaveNumbers(t *testing.T) {
	for format := 1; format <= 6; format++ {
		if rows, _ := formats.Rows(format); rows > 18 {
			t.Errorf("Rows(%d) tells %d rows", format, rows)
		}
	}
}

func TestNoFormat(t *testing.T) {
	for _, format := range noFormats() {
		if format >= 1 && format <= 6 {
			t.Fatalf("%d is a format", format)
		}
		if width, height, ok := formats.Size(format); width != 0 || height != 0 || ok {
			t.Errorf("Size(%d) = %d, %d, %v", format, width, height, ok)
		}
		if across, lines := formats.Cells(format); across != 0 || lines != 0 {
			t.Errorf("Cells(%d) = %d, %d", format, across, lines)
		}
		if rows, lines := formats.Rows(format); rows != 0 || lines != 0 {
			t.Errorf("Rows(%d) = %d, %d", format, rows, lines)
		}
		for n := range 3 {
			if got := plane(format, n); got != (pair{}) {
				t.Errorf("Plane(%d, %d) = %v", format, n, got)
			}
		}
	}
}

func TestNoPlane(t *testing.T) {
	for _, n := range noPlanes() {
		for format := -1; format <= 8; format++ {
			if got := plane(format, n); got != (pair{}) {
				t.Errorf("Plane(%d, %d) = %v", format, n, got)
			}
		}
	}
}

func TestNeitherFormatNorPlane(t *testing.T) {
	for _, format := range noFormats() {
		for _, n := range []int{-1, 3, 4, 255, 256, 257, 1 << 32, 1<<32 + 1, math.MinInt, math.MaxInt} {
			if got := plane(format, n); got != (pair{}) {
				t.Errorf("Plane(%d, %d) = %v", format, n, got)
			}
		}
	}
}

// Between the formats' numbers and those far off there is no other format.
func TestNoMoreFormats(t *testing.T) {
	found := 0
	for format := -70000; format <= 70000; format++ {
		if _, _, ok := formats.Size(format); ok {
			found++
		}
	}
	if found != 6 {
		t.Errorf("there are %d formats, want 6", found)
	}
}

// What is told hangs on the format alone, whatever was asked ahead.
func TestNothingIsKept(t *testing.T) {
	want := table()
	for first := range want {
		for second := range want {
			before := asked(first)
			asked(math.MinInt)
			plane(second, -1)
			if got := asked(second); got != want[second] {
				t.Errorf("behind format %d format %d is told %v, want %v", first, second, got, want[second])
			}
			if got := asked(first); got != before {
				t.Errorf("behind format %d format %d is told %v, and was %v", second, first, got, before)
			}
		}
	}
}
