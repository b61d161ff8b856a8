package scan_test

import (
	"math"
	"testing"

	"overspill/scan"
)

type block = [64]int

// told is the order in the chapter's words: diagonal by diagonal, those of an odd
// number by rising rows, those of an even one by falling rows.
func told() []int {
	places := []int{}
	for d := range 15 {
		places = append(places, diagonal(d)...)
	}
	return places
}

// diagonal has the places whose row and column are d together, as they are told.
func diagonal(d int) []int {
	rising := []int{}
	for row := range 8 {
		for column := range 8 {
			if row+column == d {
				rising = append(rising, 8*row+column)
			}
		}
	}
	if d%2 == 1 {
		return rising
	}
	falling := []int{}
	for i := range rising {
		falling = append(falling, rising[len(rising)-1-i])
	}
	return falling
}

// outside are numbers that neither a place is nor a number of a block.
func outside() []int {
	l := []int{
		255, 256, 257, 319, 320, 65535, 65536, 65537, 65599, -255, -256, -257, -65535, -65536, -65537,
		math.MaxInt32, math.MaxInt32 + 1, math.MinInt32, math.MinInt32 - 1, math.MaxUint32,
		1 << 32, 1<<32 + 1, 1<<32 + 63, -(1 << 32), 1 - 1<<32, 63 - 1<<32, 1 << 40, -(1 << 40), 1 << 62,
		math.MaxInt - 64, math.MaxInt - 63, math.MaxInt - 1, math.MaxInt,
		math.MinInt, math.MinInt + 1, math.MinInt + 8, math.MinInt + 63, math.MinInt + 64,
	}
	for n := 1; n <= 200; n++ {
		l = append(l, -n, 63+n)
	}
	return l
}

// ends are numbers around nought, and at and near the ends of an int.
func ends() []int {
	return []int{
		0, 1, -1, 127, -127, 128, -128, 255, 256, -256, 65536, -65536, math.MaxInt32, math.MinInt32,
		1 << 32, -(1 << 32), math.MaxInt - 1, math.MaxInt, math.MinInt + 1, math.MinInt,
	}
}

// at asks At and Of: that place is told as number k.
func at(t *testing.T, k, place int) {
	t.Helper()
	if got, ok := scan.At(k); got != place || !ok {
		t.Errorf("At(%d) = %d, %v, want %d, true", k, got, ok, place)
	}
	if got, ok := scan.Of(place); got != k || !ok {
		t.Errorf("Of(%d) = %d, %v, want %d, true", place, got, ok, k)
	}
}

// whole asks Raster and Told of that block: number by number, and back.
func whole(t *testing.T, l block) {
	t.Helper()
	before := l
	laid, numbers := scan.Raster(l), scan.Told(l)
	for k, place := range told() {
		if laid[place] != l[k] {
			t.Fatalf("Raster(%v) has %d at place %d, want %d", l, laid[place], place, l[k])
		}
		if numbers[k] != l[place] {
			t.Fatalf("Told(%v) has %d as number %d, want %d", l, numbers[k], k, l[place])
		}
	}
	if got := scan.Told(laid); got != l {
		t.Fatalf("Told(Raster(%v)) = %v", l, got)
	}
	if got := scan.Raster(numbers); got != l {
		t.Fatalf("Raster(Told(%v)) = %v", l, got)
	}
	if l != before {
		t.Fatalf("%v became %v", before, l)
	}
}

func TestExample(t *testing.T) {
	for k, place := range []int{0, 1, 8, 16, 9, 2, 3, 10, 17, 24} {
		at(t, k, place)
	}
	at(t, 63, 63)
	at(t, 2, 8)
	at(t, 0, 0)
}

func TestAllNumbers(t *testing.T) {
	for k, place := range told() {
		at(t, k, place)
	}
}

// Places on both sides of the long diagonal, and the last ones, as they stand on
// paper.
func TestSomePlaces(t *testing.T) {
	for k, place := range map[int]int{
		28: 7, 29: 14, 35: 56, 36: 57, 42: 15, 43: 23, 48: 58, 49: 59, 53: 31, 54: 39, 57: 60, 58: 61, 60: 47, 61: 55, 62: 62,
	} {
		at(t, k, place)
	}
}

func TestEachPlaceOnce(t *testing.T) {
	asNumber := map[int]int{}
	ofPlace := map[int]int{}
	for n := range 64 {
		place, ok := scan.At(n)
		if place < 0 || place > 63 || !ok {
			t.Errorf("At(%d) = %d, %v", n, place, ok)
		}
		number, ok := scan.Of(n)
		if number < 0 || number > 63 || !ok {
			t.Errorf("Of(%d) = %d, %v", n, number, ok)
		}
		asNumber[place]++
		ofPlace[number]++
	}
	if len(asNumber) != 64 || len(ofPlace) != 64 {
		t.Errorf("%d places and %d numbers are told, want 64 of each", len(asNumber), len(ofPlace))
	}
}

func TestThereAndBack(t *testing.T) {
	for n := range 64 {
		place, _ := scan.At(n)
		if number, ok := scan.Of(place); number != n || !ok {
			t.Errorf("Of(At(%d)) = %d, %v", n, number, ok)
		}
		number, _ := scan.Of(n)
		if place, ok := scan.At(number); place != n || !ok {
			t.Errorf("At(Of(%d)) = %d, %v", n, place, ok)
		}
	}
}

// The first and the last place of each diagonal, and the numbers that they are
// told as.
func TestEndsOfDiagonals(t *testing.T) {
	begins := [15]int{0, 1, 3, 6, 10, 15, 21, 28, 36, 43, 49, 54, 58, 61, 63}
	firsts := [15]int{0, 1, 16, 3, 32, 5, 48, 7, 57, 23, 59, 39, 61, 55, 63}
	lasts := [15]int{0, 8, 2, 24, 4, 40, 6, 56, 15, 58, 31, 60, 47, 62, 63}
	for d := range 15 {
		end := 64
		if d < 14 {
			end = begins[d+1]
		}
		at(t, begins[d], firsts[d])
		at(t, end-1, lasts[d])
	}
}

// An odd diagonal is told by rising rows, an even one by falling rows; the longest
// has 8 places, the first and the last have one.
func TestWaysOfDiagonals(t *testing.T) {
	k := 0
	for d := range 15 {
		row := 0
		column := d
		step := 1
		if d > 7 {
			row, column = d-7, 7
		}
		if d%2 == 0 {
			row, column, step = column, row, -1
		}
		for row >= 0 && row < 8 && column >= 0 && column < 8 {
			at(t, k, 8*row+column)
			row, column, k = row+step, column-step, k+1
		}
	}
	if k != 64 {
		t.Errorf("%d places are told, want 64", k)
	}
}

func TestDiagonalsInTheirOrder(t *testing.T) {
	sizes := [15]int{}
	ahead := 0
	for k := range 64 {
		place, _ := scan.At(k)
		d := place/8 + place%8
		if d != ahead && d != ahead+1 {
			t.Errorf("number %d is of diagonal %d, behind one of %d", k, d, ahead)
		}
		sizes[d]++
		ahead = d
	}
	if want := [15]int{1, 2, 3, 4, 5, 6, 7, 8, 7, 6, 5, 4, 3, 2, 1}; sizes != want {
		t.Errorf("the diagonals have %v places, want %v", sizes, want)
	}
}

// What stands behind in a row, or in a column, is told later.
func TestBehindIsLater(t *testing.T) {
	for line := range 8 {
		for ahead := range 8 {
			for behind := ahead + 1; behind < 8; behind++ {
				later(t, 8*line+ahead, 8*line+behind)
				later(t, 8*ahead+line, 8*behind+line)
			}
		}
	}
}

func later(t *testing.T, ahead, behind int) {
	t.Helper()
	a, _ := scan.Of(ahead)
	b, _ := scan.Of(behind)
	if a >= b {
		t.Errorf("place %d is told as number %d, place %d as %d", ahead, a, behind, b)
	}
}

func TestOutside(t *testing.T) {
	for _, n := range outside() {
		if place, ok := scan.At(n); place != 0 || ok {
			t.Errorf("At(%d) = %d, %v", n, place, ok)
		}
		if number, ok := scan.Of(n); number != 0 || ok {
			t.Errorf("Of(%d) = %d, %v", n, number, ok)
		}
	}
}

func TestNoughtsAlone(t *testing.T) {
	whole(t, block{})
	if scan.Raster(block{}) != (block{}) || scan.Told(block{}) != (block{}) {
		t.Error("noughts do not stay noughts")
	}
}

func TestOneNumber(t *testing.T) {
	for n, place := range told() {
		for _, number := range ends() {
			l, laid, back := block{}, block{}, block{}
			l[n], laid[place] = number, number
			if got := scan.Raster(l); got != laid {
				t.Errorf("Raster(%v) = %v, want %v", l, got, laid)
			}
			if got := scan.Told(laid); got != l {
				t.Errorf("Told(%v) = %v, want %v", laid, got, l)
			}
			back[place] = number
			whole(t, l)
			whole(t, back)
		}
	}
}

func TestUnlikeNumbers(t *testing.T) {
	for _, first := range []int{0, 1, -64, -32, 1000, math.MinInt, math.MaxInt - 63} {
		l := block{}
		for n := range l {
			l[n] = first + n
		}
		whole(t, l)
	}
	l := block{}
	for n := range l {
		l[n] = n
	}
	laid, numbers := scan.Raster(l), scan.Told(l)
	for n := range l {
		if number, _ := scan.Of(n); laid[n] != number {
			t.Errorf("place %d has number %d, want %d", n, laid[n], number)
		}
		if place, _ := scan.At(n); numbers[n] != place {
			t.Errorf("number %d is of place %d, want %d", n, numbers[n], place)
		}
	}
}

func TestSameNumbers(t *testing.T) {
	for _, number := range ends() {
		l := block{}
		for n := range l {
			l[n] = number
		}
		whole(t, l)
		if scan.Raster(l) != l || scan.Told(l) != l {
			t.Errorf("a block of %d alone does not stay", number)
		}
	}
}

func TestNumbersAtTheirEnds(t *testing.T) {
	for shift := range len(ends()) {
		l := block{}
		for n := range l {
			l[n] = ends()[(n+shift)%len(ends())]
		}
		whole(t, l)
	}
}

// Many blocks, from a short rule that mixes.
func TestManyBlocks(t *testing.T) {
	state := uint64(1)
	for range 2000 {
		l := block{}
		for n := range l {
			state = state*6364136223846793005 + 1442695040888963407
			l[n] = int(state ^ state>>29)
		}
		whole(t, l)
	}
}

// An answer is the asker's own, and what was handed in stays as it was: nothing
// is kept from one call to the next.
func TestNothingIsKept(t *testing.T) {
	l := block{}
	for n := range l {
		l[n] = n*n - 700
	}
	before := l
	laid, numbers := scan.Raster(l), scan.Told(l)
	wantLaid, wantNumbers := laid, numbers
	for n := range laid {
		laid[n], numbers[n] = -1, -1
	}
	scan.Raster(laid)
	scan.Told(numbers)
	if l != before {
		t.Errorf("%v became %v", before, l)
	}
	if scan.Raster(l) != wantLaid || scan.Told(l) != wantNumbers {
		t.Error("a later call answers otherwise")
	}
	scan.At(-1)
	scan.Of(64)
	for k, place := range told() {
		at(t, k, place)
	}
}
