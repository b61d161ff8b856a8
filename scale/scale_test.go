package scale_test

import (
	"math"
	"testing"

	"overspill/scale"
)

type block = [64]int

// above are numbers from n + 1 on, far above it, and at the ends of an int.
func above(n int) []int {
	l := []int{
		1000, 2047, 2048, 4095, 32767, 32768, 65535, 65536, 65537, math.MaxInt32, math.MaxInt32 + 1, math.MaxUint32,
		1 << 32, 1<<32 + 1, 1<<32 + 31, 1<<32 + 127, 1 << 40, 1<<57 + 1, 1 << 61, 1<<62 - 1, 1 << 62, 1<<62 + 5,
		math.MaxInt / 31, math.MaxInt/31 + 1, math.MaxInt / 8, math.MaxInt/8 + 1, math.MaxInt / 2, math.MaxInt/2 + 1,
		math.MaxInt - 256, math.MaxInt - 255, math.MaxInt - 2, math.MaxInt - 1, math.MaxInt,
	}
	for more := range 260 {
		l = append(l, n+1+more)
	}
	return l
}

// below are numbers from n - 1 on, far below it, and at the ends of an int.
func below(n int) []int {
	l := []int{math.MinInt, math.MinInt + 1, math.MinInt + 2, math.MinInt + 127, math.MinInt + 128}
	for _, m := range above(-n) {
		l = append(l, -m)
	}
	return l
}

// value is what the chapter's words ask for of a level and a quantiser that are
// not clipped, reckoned by sums alone.
func value(level, quant int) int {
	if level < 0 {
		return max(-2048, -amount(-level, quant))
	}
	return min(2047, amount(level, quant))
}

func amount(level, quant int) int {
	if level == 0 {
		return 0
	}
	n := quant
	for range level {
		n += quant + quant
	}
	if quant%2 == 0 {
		n--
	}
	return n
}

// counted brings n to the bounds, as what is clipped counts.
func counted(n, low, high int) int {
	switch {
	case n < low:
		return low
	case n > high:
		return high
	}
	return n
}

// laid is what the chapter's words ask for of a block.
func laid(l block, quant int, intra bool, dc int) block {
	values := block{}
	for n := range 64 {
		values[n] = value(counted(l[n], -127, 127), counted(quant, 1, 31))
	}
	if intra {
		values[0] = 8 * counted(dc, 1, 254)
	}
	return values
}

// is asks Value.
func is(t *testing.T, level, quant, want int) {
	t.Helper()
	if got := scale.Value(level, quant); got != want {
		t.Errorf("Value(%d, %d) = %d, want %d", level, quant, got, want)
	}
}

// dcIs asks Dc.
func dcIs(t *testing.T, dc, want int) {
	t.Helper()
	if got := scale.Dc(dc); got != want {
		t.Errorf("Dc(%d) = %d, want %d", dc, got, want)
	}
}

// whole asks Block, number by number, and that l stays as it was.
func whole(t *testing.T, l block, quant int, intra bool, dc int) {
	t.Helper()
	before := l
	got, want := scale.Block(l, quant, intra, dc), laid(l, quant, intra, dc)
	for n := range 64 {
		if got[n] != want[n] {
			t.Fatalf("Block(%v, %d, %v, %d) has %d as number %d, want %d", l, quant, intra, dc, got[n], n, want[n])
		}
	}
	if l != before {
		t.Fatalf("%v became %v", before, l)
	}
}

// both asks Block of a block that is intra, and of one that is not.
func both(t *testing.T, l block, quant, dc int) {
	t.Helper()
	whole(t, l, quant, false, dc)
	whole(t, l, quant, true, dc)
}

// unlike has 64 numbers, no two of them alike, from first on.
func unlike(first, step int) block {
	l := block{}
	for n := range l {
		l[n] = first + n*step
	}
	return l
}

func TestExample(t *testing.T) {
	is(t, 1, 5, 15)
	is(t, -1, 4, -11)
	is(t, 127, 31, 2047)
	is(t, -127, 31, -2048)
	dcIs(t, 10, 80)
}

func TestAllValues(t *testing.T) {
	for quant := 1; quant <= 31; quant++ {
		for level := -127; level <= 127; level++ {
			is(t, level, quant, value(level, quant))
		}
	}
}

// Some values as they stand on paper: of the least and the greatest quantisers,
// odd and even ones.
func TestSomeValues(t *testing.T) {
	for _, line := range [][3]int{
		{1, 1, 3}, {2, 1, 5}, {3, 1, 7}, {126, 1, 253}, {127, 1, 255}, {-1, 1, -3}, {-2, 1, -5}, {-127, 1, -255},
		{1, 2, 5}, {2, 2, 9}, {3, 2, 13}, {127, 2, 509}, {-1, 2, -5}, {-2, 2, -9}, {-127, 2, -509},
		{1, 3, 9}, {2, 3, 15}, {-1, 3, -9}, {-3, 3, -21}, {1, 4, 11}, {2, 4, 19}, {-2, 4, -19},
		{1, 7, 21}, {-1, 7, -21}, {1, 8, 23}, {-1, 8, -23}, {10, 16, 335}, {-10, 16, -335}, {10, 17, 357}, {-10, 17, -357},
		{1, 30, 89}, {-1, 30, -89}, {2, 30, 149}, {1, 31, 93}, {-1, 31, -93}, {2, 31, 155}, {-2, 31, -155},
	} {
		is(t, line[0], line[1], line[2])
	}
}

func TestLevelNought(t *testing.T) {
	for quant := -40; quant <= 80; quant++ {
		is(t, 0, quant, 0)
	}
	for _, quant := range append(above(31), below(1)...) {
		is(t, 0, quant, 0)
	}
}

// Of an odd quantiser an amount is odd, as what it is a product of is; of an even
// one it is, as 1 is taken away.
func TestAmountsAreOdd(t *testing.T) {
	for quant := 1; quant <= 31; quant++ {
		for level := 1; level <= 127; level++ {
			v := scale.Value(level, quant)
			if v%2 != 1 {
				t.Errorf("Value(%d, %d) = %d, which is even", level, quant, v)
			}
			if w := scale.Value(-level, quant); w != -v && (w != -2048 || v != 2047) {
				t.Errorf("Value(%d, %d) = %d, and of its opposite %d", level, quant, v, w)
			}
		}
	}
}

// Of each quantiser from 9 on the first level whose value is clipped, and the
// amount of the value next to it: it is not clipped yet.
func TestFirstClippedValues(t *testing.T) {
	for i, line := range [][2]int{
		{114, 2043}, {102, 2029}, {93, 2035}, {85, 2027}, {79, 2041}, {73, 2029}, {68, 2025}, {64, 2031},
		{60, 2023}, {57, 2033}, {54, 2033}, {51, 2019}, {49, 2037}, {47, 2045}, {45, 2047}, {43, 2039},
		{41, 2025}, {39, 2001}, {38, 2025}, {37, 2043}, {35, 2001}, {34, 2009}, {33, 2015},
	} {
		quant, first := 9+i, line[0]
		is(t, first-1, quant, line[1])
		is(t, 1-first, quant, -line[1])
		for level := first; level <= 127; level++ {
			is(t, level, quant, 2047)
			is(t, -level, quant, -2048)
		}
	}
}

// Of the quantisers up to 8 no value is clipped.
func TestNoClippedValues(t *testing.T) {
	for i, most := range []int{255, 509, 765, 1019, 1275, 1529, 1785, 2039} {
		is(t, 127, i+1, most)
		is(t, -127, i+1, -most)
	}
}

// 2047 is a value that is not clipped, and its opposite is none that is; 2049 and
// its opposite, one and two beyond the bounds, are clipped.
func TestValuesNextToTheBounds(t *testing.T) {
	is(t, 44, 23, 2047)
	is(t, -44, 23, -2047)
	is(t, 45, 23, 2047)
	is(t, -45, 23, -2048)
	is(t, 102, 10, 2047)
	is(t, -102, 10, -2048)
	is(t, 47, 22, 2047)
	is(t, -47, 22, -2048)
}

func TestClippedLevels(t *testing.T) {
	for quant := 1; quant <= 31; quant++ {
		for _, level := range above(127) {
			is(t, level, quant, value(127, quant))
		}
		for _, level := range below(-127) {
			is(t, level, quant, value(-127, quant))
		}
	}
	is(t, 128, 1, 255)
	is(t, -128, 1, -255)
	is(t, math.MaxInt, 2, 509)
	is(t, math.MinInt, 2, -509)
}

func TestClippedQuants(t *testing.T) {
	for level := -127; level <= 127; level++ {
		for _, quant := range below(1) {
			is(t, level, quant, value(level, 1))
		}
		for _, quant := range above(31) {
			is(t, level, quant, value(level, 31))
		}
	}
	is(t, 1, 0, 3)
	is(t, -1, -1, -3)
	is(t, 1, -2, 3)
	is(t, 1, 32, 93)
	is(t, -1, 33, -93)
	is(t, 1, math.MaxInt, 93)
	is(t, 1, math.MinInt, 3)
}

func TestBothClipped(t *testing.T) {
	for _, high := range above(127) {
		is(t, high, high, 2047)
		is(t, -high, high, -2048)
		is(t, high, -high, 255)
		is(t, -high, -high, -255)
	}
	for _, end := range []int{math.MinInt, math.MinInt + 1} {
		is(t, end, end, -255)
		is(t, end, math.MaxInt, -2048)
		is(t, math.MaxInt, end, 255)
	}
}

func TestDc(t *testing.T) {
	for dc := 1; dc <= 254; dc++ {
		want := 0
		for range 8 {
			want += dc
		}
		dcIs(t, dc, want)
	}
	for dc, want := range map[int]int{0: 8, 1: 8, 2: 16, 10: 80, 127: 1016, 128: 1024, 253: 2024, 254: 2032, 255: 2032, 256: 2032} {
		dcIs(t, dc, want)
	}
}

func TestClippedDc(t *testing.T) {
	for _, dc := range below(1) {
		dcIs(t, dc, 8)
	}
	for _, dc := range above(254) {
		dcIs(t, dc, 2032)
	}
}

func TestNoughtsAlone(t *testing.T) {
	for _, quant := range []int{math.MinInt, -1, 0, 1, 2, 15, 16, 30, 31, 32, math.MaxInt} {
		if got := scale.Block(block{}, quant, false, 10); got != (block{}) {
			t.Errorf("noughts by %d became %v", quant, got)
		}
		if got := scale.Block(block{}, quant, true, 10); got != (block{80}) {
			t.Errorf("noughts by %d, intra, became %v", quant, got)
		}
	}
}

func TestOneNumber(t *testing.T) {
	levels := []int{
		1, -1, 2, -2, 44, -45, 126, -126, 127, -127, 128, -128, 129, -129, 255, -256, 1 << 32, -(1 << 32),
		math.MaxInt - 1, math.MaxInt, math.MinInt + 1, math.MinInt,
	}
	for n := range 64 {
		for _, level := range levels {
			l := block{}
			l[n] = level
			for quant := 0; quant <= 32; quant++ {
				both(t, l, quant, 7)
			}
			both(t, l, math.MaxInt, math.MaxInt)
			both(t, l, math.MinInt, math.MinInt)
		}
	}
}

func TestUnlikeNumbers(t *testing.T) {
	for quant := -2; quant <= 34; quant++ {
		for _, l := range []block{
			unlike(-127, 4), unlike(127, -4), unlike(-32, 1), unlike(32, -1), unlike(1, 1), unlike(-1, -1),
			unlike(0, 1), unlike(64, 1), unlike(-64, -1), unlike(-200, 7), unlike(math.MinInt, 1), unlike(math.MaxInt, -1),
		} {
			both(t, l, quant, 100)
		}
	}
}

// What may stand at number 0 of an intra block is dc alone; dc is not asked of
// another one.
func TestNumberNought(t *testing.T) {
	for _, level := range []int{0, 1, -1, 100, 127, -127, 128, -128, math.MaxInt, math.MinInt} {
		for _, dc := range []int{1, 10, 254, 0, -1, 255, 256, math.MaxInt, math.MinInt} {
			l := unlike(1, 1)
			l[0] = level
			for _, quant := range []int{1, 2, 31, 0, 32, math.MaxInt, math.MinInt} {
				both(t, l, quant, dc)
				got := scale.Block(l, quant, true, dc)
				if got[0] != scale.Dc(dc) || got[1] != scale.Value(2, quant) {
					t.Errorf("an intra block by %d with dc %d begins with %d, %d", quant, dc, got[0], got[1])
				}
				got = scale.Block(l, quant, false, dc)
				if got[0] != scale.Value(level, quant) || got[1] != scale.Value(2, quant) {
					t.Errorf("a block with %d first by %d begins with %d, %d", level, quant, got[0], got[1])
				}
			}
		}
	}
}

func TestBlockOfClippedQuants(t *testing.T) {
	l := unlike(-126, 4)
	for _, quant := range below(1) {
		both(t, l, quant, 10)
		if scale.Block(l, quant, true, 10) != scale.Block(l, 1, true, 10) {
			t.Errorf("%d does not count as 1", quant)
		}
	}
	for _, quant := range above(31) {
		both(t, l, quant, 10)
		if scale.Block(l, quant, false, 10) != scale.Block(l, 31, false, 10) {
			t.Errorf("%d does not count as 31", quant)
		}
	}
}

func TestBlockOfClippedDc(t *testing.T) {
	l := unlike(-126, 4)
	for _, dc := range append(below(1), above(254)...) {
		both(t, l, 9, dc)
		if got := scale.Block(l, 9, true, dc)[0]; got != 8 && got != 2032 {
			t.Errorf("number 0 by dc %d is %d", dc, got)
		}
	}
}

func TestBlockOfClippedLevels(t *testing.T) {
	for _, level := range append(below(-127), above(127)...) {
		l := block{}
		for n := range l {
			l[n] = level
		}
		both(t, l, 3, 10)
		both(t, l, 31, 10)
	}
}

// Many blocks, from a short rule that mixes.
func TestManyBlocks(t *testing.T) {
	state := uint64(1)
	next := func() int {
		state = state*6364136223846793005 + 1442695040888963407
		return int(state ^ state>>29)
	}
	for range 2000 {
		l, wild := block{}, block{}
		for n := range l {
			l[n] = next() % 300
			wild[n] = next()
		}
		both(t, l, next()%40, next()%300)
		both(t, wild, next(), next())
	}
}

// P12.3: a value has its level's sign, whatever is clipped.
func TestSigns(t *testing.T) {
	quants := []int{math.MinInt, -1, 32, math.MaxInt}
	for quant := range 32 {
		quants = append(quants, quant)
	}
	for _, quant := range quants {
		for level := 1; level <= 300; level++ {
			if scale.Value(level, quant) <= 0 || scale.Value(-level, quant) >= 0 {
				t.Errorf("by %d the values of %d and its opposite are %d and %d", quant, level, scale.Value(level, quant), scale.Value(-level, quant))
			}
		}
		if scale.Value(math.MaxInt, quant) <= 0 || scale.Value(math.MinInt, quant) >= 0 || scale.Value(0, quant) != 0 {
			t.Errorf("by %d a value has not its level's sign", quant)
		}
	}
}

// P12.3: a greater level has no lesser value; and a greater one, where neither
// the levels nor the values are clipped.
func TestOrder(t *testing.T) {
	for quant := -1; quant <= 33; quant++ {
		ahead := scale.Value(math.MinInt, quant)
		for level := -300; level <= 300; level++ {
			v := scale.Value(level, quant)
			if v < ahead {
				t.Errorf("by %d the value of %d is %d, and that of the level ahead %d", quant, level, v, ahead)
			}
			if level > -127 && level <= 127 && v == ahead && v != 2047 && v != -2048 {
				t.Errorf("by %d the value of %d and that of the level ahead are both %d", quant, level, v)
			}
			ahead = v
		}
		if scale.Value(math.MaxInt, quant) < ahead {
			t.Errorf("by %d the greatest level has a lesser value", quant)
		}
	}
}

// An answer is the asker's own, and what was handed in stays as it was: nothing
// is kept from one call to the next.
func TestNothingIsKept(t *testing.T) {
	l := unlike(-126, 4)
	before := l
	got, intra := scale.Block(l, 13, false, 10), scale.Block(l, 13, true, 10)
	for n := range got {
		got[n], intra[n] = -1, -1
	}
	scale.Block(got, 31, true, 254)
	scale.Value(127, 31)
	scale.Dc(254)
	if l != before {
		t.Errorf("%v became %v", before, l)
	}
	both(t, l, 13, 10)
	is(t, 1, 5, 15)
	dcIs(t, 10, 80)
}
