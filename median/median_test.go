package median_test

import (
	"math"
	"math/rand"
	"slices"
	"testing"

	"overspill/median"
)

type vector = [2]int

// standing is the line of the cell behind so many, and its column: counted cell by
// cell, so that no quotient is trusted.
func standing(cells, across int) (line, column int) {
	for range cells {
		column++
		if column == across {
			line, column = line+1, 0
		}
	}
	return line, column
}

// middle is the one in the middle of three that are put in order.
func middle(a, b, c int) int {
	l := []int{a, b, c}
	slices.Sort(l)
	return l[1]
}

// paper is what the chapter's words tell.
func paper(l []vector, across, first int) vector {
	if across < 1 {
		return vector{}
	}
	line, column := standing(len(l), across)
	var one, two, three vector
	if column != 0 {
		one = l[len(l)-1]
	}
	switch {
	case line == 0 || !(line > first):
		two, three = one, one
	case column == across-1:
		two = l[(line-1)*across+column]
	default:
		two, three = l[(line-1)*across+column], l[(line-1)*across+column+1]
	}
	return vector{middle(one[0], two[0], three[0]), middle(one[1], two[1], three[1])}
}

// ends are numbers around nought, and at and near the ends of an int.
func ends() []int {
	return []int{
		0, 1, -1, 31, -32, 32, -33, 127, -128, 255, -256, math.MaxInt32, math.MinInt32, 1 << 32, 1<<32 + 1, -(1 << 32),
		1 << 62, -(1 << 62), math.MaxInt - 1, math.MaxInt, math.MinInt + 1, math.MinInt,
	}
}

// none are numbers of cells side by side that are below 1: some are above 0 in
// fewer bits.
func none() []int {
	return []int{
		0, -1, -2, -3, -4, -10, -11, -12, -64, -255, 1 - 256, 3 - 256, -(1 << 16), 3 - 1<<16, -(1 << 32), 1 - 1<<32,
		11 - 1<<32, -(1 << 62), -math.MaxInt, math.MinInt + 1, math.MinInt + 3, math.MinInt,
	}
}

// firsts are numbers of first lines: before line 0, among so many, beyond them, and
// at the ends of an int.
func firsts(lines int) []int {
	l := []int{
		math.MinInt, math.MinInt + 1, -(1 << 32), 1 - 1<<32, -1000, -2, -1, lines + 7, 255, 256, 1 << 32, 1<<32 + 1,
		math.MaxInt - 1, math.MaxInt,
	}
	for first := range lines + 3 {
		l = append(l, first)
	}
	return l
}

// vectors are so many, whose numbers are of those.
func vectors(random *rand.Rand, cells int, numbers []int) []vector {
	l := make([]vector, cells)
	for i := range l {
		l[i] = vector{numbers[random.Intn(len(numbers))], numbers[random.Intn(len(numbers))]}
	}
	return l
}

// apart are so many vectors whose numbers are all different, and not 0.
func apart(cells int) []vector {
	l := make([]vector, cells)
	for i := range l {
		l[i] = vector{7 + 3*i, -5 - 2*i}
	}
	return l
}

// holds asks for the cell behind l.
func holds(t *testing.T, l []vector, across, first int, want vector) {
	t.Helper()
	if got := median.Of(l, across, first); got != want {
		if len(l) > 30 {
			t.Errorf("Of(%d vectors, %d, %d) = %v, want %v", len(l), across, first, got, want)
			return
		}
		t.Errorf("Of(%v, %d, %d) = %v, want %v", l, across, first, got, want)
	}
}

func TestExample(t *testing.T) {
	l := []vector{{1, 2}, {3, 4}, {5, 0}}
	holds(t, l, 3, 0, vector{1, 2})
	holds(t, l, 3, 1, vector{0, 0})
}

// What is foretold in three lines of three cells each, and of two, one and eleven,
// as it stands on paper.
func TestByHand(t *testing.T) {
	three := []vector{{1, 9}, {4, -2}, {-3, 5}, {6, 6}, {0, 7}, {-8, -1}, {2, 2}, {5, -4}, {9, 9}}
	for n, want := range []vector{{0, 0}, {1, 9}, {4, -2}, {1, 0}, {4, 5}, {0, 5}, {0, 6}, {0, 2}, {0, -1}} {
		holds(t, three[:n], 3, 0, want)
		holds(t, three[:n], 3, -1, want)
	}
	for n, want := range []vector{{0, 0}, {1, 9}, {4, -2}, {0, 0}, {6, 6}, {0, 7}, {0, 6}, {0, 2}, {0, -1}} {
		holds(t, three[:n], 3, 1, want)
	}
	for n, want := range []vector{{0, 0}, {1, 9}, {4, -2}, {0, 0}, {6, 6}, {0, 7}, {0, 0}, {2, 2}, {5, -4}} {
		holds(t, three[:n], 3, 2, want)
	}
	for n, want := range []vector{{0, 0}, {1, 9}, {1, 0}, {0, 0}, {0, 5}, {0, 6}, {0, 0}, {0, 0}, {2, 0}, {5, 0}} {
		holds(t, three[:n], 2, 0, want)
	}
	for n := range 10 {
		holds(t, three[:n], 1, 0, vector{})
	}
	wide := apart(13)
	wide[0], wide[1], wide[2], wide[11], wide[12] = vector{3, 30}, vector{2, 10}, vector{9, 20}, vector{5, 15}, vector{1, 40}
	holds(t, wide[:11], 11, 0, vector{2, 10})
	holds(t, wide[:12], 11, 0, vector{5, 15})
	holds(t, wide[:12], 11, 1, vector{5, 15})
	holds(t, wide[:13], 11, 0, vector{9, 20})
}

// All numbers of cells side by side that are few, lists up to some lines, and all
// first lines, against the chapter's words.
func TestOf(t *testing.T) {
	random := rand.New(rand.NewSource(1))
	for _, across := range []int{1, 2, 3, 4, 5, 8, 11} {
		for cells := range 5*across + 2 {
			for _, first := range firsts(5) {
				for _, numbers := range [][]int{{-2, -1, 0, 1, 2}, {-32, -9, 4, 17, 31}, ends()} {
					l := vectors(random, cells, numbers)
					holds(t, l, across, first, paper(l, across, first))
				}
			}
		}
	}
}

// Sheets as great as they come, cell by cell.
func TestOfMany(t *testing.T) {
	random := rand.New(rand.NewSource(2))
	for _, c := range []struct{ across, lines int }{{2, 2}, {8, 6}, {11, 9}, {22, 18}, {44, 36}, {88, 72}} {
		l := vectors(random, c.across*c.lines, []int{-32, -31, -7, -1, 0, 1, 5, 30, 31})
		for n := range len(l) + 1 {
			for _, first := range []int{0, 4, c.lines - 2} {
				holds(t, l[:n], c.across, first, paper(l[:n], c.across, first))
			}
		}
	}
}

func TestNothingSideBySide(t *testing.T) {
	full := apart(40)
	for i := range full {
		full[i] = vector{9, -9}
	}
	for _, across := range none() {
		for _, cells := range []int{0, 1, 2, 3, 4, 11, 12, 40} {
			for _, first := range firsts(3) {
				holds(t, full[:cells], across, first, vector{})
			}
		}
		holds(t, nil, across, 0, vector{})
	}
}

// Where more stand side by side than there are vectors, all are in line 0.
func TestMoreSideBySideThanThereAre(t *testing.T) {
	full := apart(40)
	for cells := range len(full) + 1 {
		far := []int{
			cells + 1, cells + 2, 64, 255, 256, 1 << 16, 1 << 31, 1 << 32, 1<<32 + 1, 1<<32 + 3, 1 << 62,
			math.MaxInt - 1, math.MaxInt,
		}
		want := vector{}
		if cells > 0 {
			want = full[cells-1]
		}
		for _, across := range far {
			for _, first := range firsts(1) {
				holds(t, full[:cells], across, first, want)
			}
		}
	}
}

func TestNoVectors(t *testing.T) {
	for _, across := range append(none(), 1, 2, 3, 11, 88, 1<<32, math.MaxInt) {
		for _, first := range firsts(1) {
			holds(t, nil, across, first, vector{})
			holds(t, []vector{}, across, first, vector{})
			holds(t, make([]vector, 0, 5), across, first, vector{})
		}
	}
}

func TestOneVector(t *testing.T) {
	for _, v := range ends() {
		for _, first := range firsts(2) {
			// Behind it stands a cell beside it, or one that is alone in its line.
			one := []vector{{v, -7}}
			holds(t, one, 1, first, vector{})
			holds(t, one, 2, first, vector{v, -7})
			holds(t, one, 11, first, vector{v, -7})
			holds(t, one, math.MaxInt, first, vector{v, -7})
		}
	}
}

// orders are the orders in which three numbers stand.
func orders() [][3]int {
	return [][3]int{{0, 1, 2}, {0, 2, 1}, {1, 0, 2}, {1, 2, 0}, {2, 0, 1}, {2, 1, 0}}
}

// around is a list of lines that ends to the left of the cell in the middle of the
// last one, whose vector to the left, above, and to the right of the one above are
// these; all others are other ones.
func around(across, line, column int, near [3]vector) []vector {
	l := make([]vector, line*across+column)
	for i := range l {
		l[i] = vector{100000 + i, -100000 - i}
	}
	l[len(l)-1], l[len(l)-across], l[len(l)-across+1] = near[0], near[1], near[2]
	return l
}

// Each of the three is the middle one, in the first numbers and in the second ones,
// each on its own.
func TestEachIsTheMiddleOne(t *testing.T) {
	for _, numbers := range [][3]int{
		{-32, 0, 31}, {-1, 0, 1}, {1, 2, 3}, {-9, -8, -7}, {0, 1, 2}, {-2, -1, 0}, {math.MinInt, 0, math.MaxInt},
		{math.MinInt, math.MinInt + 1, math.MaxInt}, {math.MinInt, math.MaxInt - 1, math.MaxInt}, {-1 << 32, 1, 1 << 32},
	} {
		for _, x := range orders() {
			for _, y := range orders() {
				var near [3]vector
				for i := range near {
					near[i] = vector{numbers[x[i]], numbers[y[i]]}
				}
				want := vector{numbers[1], numbers[1]}
				for _, c := range []struct{ across, line, column int }{{3, 1, 1}, {3, 2, 1}, {4, 1, 2}, {11, 1, 1}, {11, 5, 9}, {88, 3, 40}} {
					l := around(c.across, c.line, c.column, near)
					holds(t, l, c.across, 0, want)
					holds(t, l, c.across, c.line-1, want)
				}
			}
		}
	}
}

// The answer is of two vectors, where the middle ones are.
func TestAnswerOfTwoVectors(t *testing.T) {
	for _, c := range []struct {
		near [3]vector
		want vector
	}{
		{[3]vector{{2, 20}, {1, 30}, {3, 10}}, vector{2, 20}},
		{[3]vector{{2, 30}, {1, 20}, {3, 10}}, vector{2, 20}},
		{[3]vector{{2, 10}, {1, 30}, {3, 20}}, vector{2, 20}},
		{[3]vector{{1, 20}, {2, 10}, {3, 30}}, vector{2, 20}},
		{[3]vector{{3, 10}, {2, 20}, {1, 30}}, vector{2, 20}},
		{[3]vector{{3, 10}, {2, 30}, {1, 20}}, vector{2, 20}},
		{[3]vector{{1, 20}, {3, 10}, {2, 30}}, vector{2, 20}},
		{[3]vector{{3, 10}, {1, 20}, {2, 30}}, vector{2, 20}},
		{[3]vector{{1, 30}, {3, 10}, {2, 20}}, vector{2, 20}},
		{[3]vector{{-5, 6}, {4, -3}, {0, -1}}, vector{0, -1}},
		{[3]vector{{-5, -1}, {-7, -3}, {-6, 8}}, vector{-6, -1}},
	} {
		holds(t, around(3, 1, 1, c.near), 3, 0, c.want)
		holds(t, around(11, 4, 5, c.near), 11, 2, c.want)
	}
}

// Where two are equal, it is these, wherever the third one stands.
func TestEqualNumbers(t *testing.T) {
	for _, twice := range ends() {
		for _, once := range ends() {
			for i := range 3 {
				near := [3]vector{{twice, once}, {twice, once}, {twice, once}}
				near[i] = vector{once, twice}
				holds(t, around(3, 1, 1, near), 3, 0, vector{twice, once})
				holds(t, around(5, 3, 3, near), 5, 1, vector{twice, once})
			}
		}
	}
}

// All triples of the ends of an int, in the first numbers; in the second ones they
// stand the other way round.
func TestEnds(t *testing.T) {
	for _, a := range ends() {
		for _, b := range ends() {
			for _, c := range ends() {
				want := middle(a, b, c)
				holds(t, around(3, 1, 1, [3]vector{{a, c}, {b, b}, {c, a}}), 3, 0, vector{want, want})
			}
		}
	}
}

// A cell that stands first in its line has 0, 0 to the left, not the last vector of
// the line above.
func TestFirstInItsLine(t *testing.T) {
	for _, across := range []int{2, 3, 4, 11, 22} {
		for line := 1; line < 5; line++ {
			l := apart(across * line)
			for _, c := range []struct{ above, right, want vector }{
				{vector{3, 4}, vector{5, 6}, vector{3, 4}},
				{vector{5, 4}, vector{3, 6}, vector{3, 4}},
				{vector{-3, 6}, vector{-5, 4}, vector{-3, 4}},
				{vector{3, -4}, vector{-5, 6}, vector{0, 0}},
				{vector{-1, -9}, vector{-2, -8}, vector{-1, -8}},
				{vector{0, 9}, vector{8, 0}, vector{0, 0}},
			} {
				// Where two stand side by side the one to the right is the last of the line above.
				l[len(l)-1] = vector{1000, 2000}
				l[len(l)-across], l[len(l)-across+1] = c.above, c.right
				holds(t, l, across, 0, c.want)
				holds(t, l, across, line-1, c.want)
				holds(t, l, across, line, vector{})
				holds(t, l, across, line+1, vector{})
			}
		}
	}
}

// A cell that stands last in its line has 0, 0 to the right of the one above, not the
// first vector of its own line.
func TestLastInItsLine(t *testing.T) {
	for _, across := range []int{2, 3, 4, 11, 22} {
		for line := 1; line < 5; line++ {
			l := apart(across*line + across - 1)
			for _, c := range []struct{ left, above, want vector }{
				{vector{3, 4}, vector{5, 6}, vector{3, 4}},
				{vector{5, 4}, vector{3, 6}, vector{3, 4}},
				{vector{-3, 6}, vector{-5, 4}, vector{-3, 4}},
				{vector{3, -4}, vector{-5, 6}, vector{0, 0}},
				{vector{-1, -9}, vector{-2, -8}, vector{-1, -8}},
				{vector{0, 9}, vector{8, 0}, vector{0, 0}},
			} {
				// Where two stand side by side the one to the left is the first of its line.
				l[across*line] = vector{1000, 2000}
				l[len(l)-1], l[len(l)-across] = c.left, c.above
				holds(t, l, across, 0, c.want)
				holds(t, l, across, line-1, c.want)
				holds(t, l, across, line, c.left)
				holds(t, l, across, line+1, c.left)
			}
		}
	}
}

// Where each line has one cell alone, two of the three are 0, 0, and in a first line
// all are.
func TestAloneInItsLine(t *testing.T) {
	for cells := range 12 {
		for _, first := range firsts(12) {
			holds(t, apart(cells), 1, first, vector{})
		}
	}
	for _, v := range ends() {
		holds(t, []vector{{v, v}, {v, -1}, {1, v}}, 1, 0, vector{})
	}
}

// The cell's line is outside below, at, and inside above the first one.
func TestFirstLine(t *testing.T) {
	near := [3]vector{{50, -60}, {20, -10}, {30, -40}}
	for _, across := range []int{3, 4, 11} {
		for line := 1; line < 7; line++ {
			l := around(across, line, 1, near)
			for _, first := range firsts(7) {
				want := vector{30, -40}
				if first >= line {
					want = near[0]
				}
				holds(t, l, across, first, want)
			}
		}
	}
}

// P19.2: in line 0, whatever the first one is, it is the vector to the left.
func TestLineZero(t *testing.T) {
	for _, across := range []int{1, 2, 3, 11, 88} {
		l := apart(across)
		for _, first := range firsts(3) {
			holds(t, nil, across, first, vector{})
			for cells := 1; cells < across; cells++ {
				holds(t, l[:cells], across, first, l[cells-1])
			}
		}
	}
}

// P19.2: and in the first line, and in those above it.
func TestInFirstLines(t *testing.T) {
	for _, across := range []int{1, 2, 3, 11} {
		full := apart(across * 6)
		for cells := range full {
			line, column := standing(cells, across)
			want := vector{}
			if column > 0 {
				want = full[cells-1]
			}
			for _, first := range []int{line, line + 1, line + 2, 100, 1 << 32, math.MaxInt} {
				holds(t, full[:cells], across, first, want)
			}
		}
	}
}

// P19.2: in a first line it is the vector to the left where that is 0, 0 too, though
// all others are not.
func TestNoneToTheLeftInFirstLines(t *testing.T) {
	for _, across := range []int{2, 3, 11} {
		for line := range 5 {
			for column := 1; column < across; column++ {
				l := apart(line*across + column)
				l[len(l)-1] = vector{}
				holds(t, l, across, line, vector{})
				holds(t, l, across, math.MaxInt, vector{})
				l[len(l)-1] = vector{0, 9}
				holds(t, l, across, line, vector{0, 9})
				l[len(l)-1] = vector{-9, 0}
				holds(t, l, across, line+1, vector{-9, 0})
			}
		}
	}
}

// P19.2: where all three are one, it is that one.
func TestAllAreOne(t *testing.T) {
	for _, x := range ends() {
		for _, y := range ends() {
			one := vector{x, y}
			for _, c := range []struct{ across, line, column int }{{3, 1, 1}, {3, 4, 1}, {11, 1, 1}, {11, 2, 9}} {
				l := around(c.across, c.line, c.column, [3]vector{one, one, one})
				for _, first := range []int{math.MinInt, -1, 0, c.line - 1, c.line, math.MaxInt} {
					holds(t, l, c.across, first, one)
				}
			}
		}
	}
	// At both ends of a line what is outside is 0, 0, and so are these.
	l := apart(11)
	l[4], l[5], l[7], l[10] = vector{}, vector{}, vector{}, vector{}
	for _, cells := range []int{8, 11} {
		holds(t, l[:cells], 4, 0, vector{})
		holds(t, l[:cells], 4, 1, paper(l[:cells], 4, 1))
	}
}

// It hangs on the three vectors alone: whatever the others are, it stays.
func TestOthersDoNotCount(t *testing.T) {
	random := rand.New(rand.NewSource(3))
	for _, across := range []int{1, 2, 3, 4, 11} {
		for cells := range 4 * across {
			line, column := standing(cells, across)
			before := vectors(random, cells, []int{-3, -2, -1, 0, 1, 2, 3})
			for i := range before {
				beside := column > 0 && i == cells-1
				above := line > 0 && (i == cells-across || column < across-1 && i == cells-across+1)
				if beside || above {
					continue
				}
				after := slices.Clone(before)
				after[i] = vector{math.MaxInt, math.MinInt}
				holds(t, after, across, 0, median.Of(before, across, 0))
				after[i] = vector{math.MinInt, math.MaxInt}
				holds(t, after, across, 0, median.Of(before, across, 0))
			}
		}
	}
}

// What comes in stays as it was, with what lies behind its list's end, and that is
// not looked at.
func TestVectorsStay(t *testing.T) {
	for _, across := range []int{-1, 0, 1, 2, 3, 11, math.MaxInt} {
		for cells := range 35 {
			for _, first := range []int{math.MinInt, 0, 1, math.MaxInt} {
				full := apart(cells + 30)
				want := slices.Clone(full)
				holds(t, full[:cells], across, first, median.Of(slices.Clip(slices.Clone(full[:cells])), across, first))
				if !slices.Equal(full, want) {
					t.Fatalf("Of(%d vectors, %d, %d) changed them to %v", cells, across, first, full)
				}
			}
		}
	}
}

// What is told stays as it is when the vectors change, and nothing is kept from call
// to call.
func TestNothingIsKept(t *testing.T) {
	l := []vector{{1, 2}, {3, 4}, {5, 0}}
	got := median.Of(l, 3, 0)
	clear(l)
	if got != (vector{1, 2}) {
		t.Errorf("what was told is %v", got)
	}
	holds(t, l, 3, 0, vector{})
	l[1] = vector{7, 7}
	for range 3 {
		holds(t, l, 2, 0, vector{})
		holds(t, l[:2], 3, 0, vector{7, 7})
		holds(t, l, 0, 0, vector{})
	}
}
