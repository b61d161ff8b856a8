package coarse_test

import (
	"math"
	"testing"

	"overspill/coarse"
	"overspill/scale"
)

type block = [64]int

// above are numbers from n + 1 on, far above it, and at the ends of an int.
func above(n int) []int {
	l := []int{
		4095, 4096, 8192, 32767, 32768, 65535, 65536, 65537, math.MaxInt32, math.MaxInt32 + 1, math.MaxUint32,
		1 << 32, 1<<32 + 1, 1<<32 + 31, 1<<32 + 2047, 1 << 40, 1<<40 + 1, 1 << 41, 1<<57 + 1, 1 << 61, 1<<62 - 1, 1 << 62,
		1<<62 + 5, math.MaxInt / 31, math.MaxInt/31 + 1, math.MaxInt / 8, math.MaxInt/8 + 1, math.MaxInt / 2, math.MaxInt/2 + 1,
		math.MaxInt - 15, math.MaxInt - 5, math.MaxInt - 4, math.MaxInt - 3, math.MaxInt - 2, math.MaxInt - 1, math.MaxInt,
	}
	for more := range 260 {
		l = append(l, n+1+more)
	}
	return l
}

// below are numbers from n - 1 on, far below it, and at the ends of an int.
func below(n int) []int {
	l := []int{math.MinInt, math.MinInt + 1, math.MinInt + 2, math.MinInt + 4, math.MinInt + 15, math.MinInt + 2048}
	for _, m := range above(-n) {
		l = append(l, -m)
	}
	return l
}

// counted brings n to the bounds, as what is clipped counts.
func counted(n, low, high int) int {
	switch {
	case n < low:
		return low
	case n > high:
		return high
	}
	return n
}

// times is how often step can be taken away of amount, 127 times at most.
func times(amount, step int) int {
	n := 0
	for amount >= step && n < 127 {
		amount -= step
		n++
	}
	return n
}

// level is what the chapter's words ask for of any value and quantiser, reckoned
// by sums alone.
func level(value, quant int, intra bool) int {
	value, quant = counted(value, -2048, 2047), counted(quant, 1, 31)
	amount := value
	if value < 0 {
		amount = 0 - value
	}
	if !intra {
		half := 0
		for half+half+2 <= quant {
			half++
		}
		amount -= half
	}
	n := times(amount, quant+quant)
	if value < 0 {
		return 0 - n
	}
	return n
}

// dc is what the chapter's words ask for of a number 0 that is told apart.
func dc(value int) int {
	n := 0
	for rest := counted(value, -2048, 2047) + 4; rest >= 8; rest -= 8 {
		n++
	}
	return counted(n, 1, 254)
}

// told is what the chapter's words ask for of a block.
func told(l block, quant int, intra bool) block {
	levels := block{}
	for n := range 64 {
		if n > 0 || !intra {
			levels[n] = level(l[n], quant, intra)
		}
	}
	return levels
}

// interIs asks Inter.
func interIs(t *testing.T, value, quant, want int) {
	t.Helper()
	if got := coarse.Inter(value, quant); got != want {
		t.Errorf("Inter(%d, %d) = %d, want %d", value, quant, got, want)
	}
}

// intraIs asks Intra.
func intraIs(t *testing.T, value, quant, want int) {
	t.Helper()
	if got := coarse.Intra(value, quant); got != want {
		t.Errorf("Intra(%d, %d) = %d, want %d", value, quant, got, want)
	}
}

// signed asks Inter and Intra of a value, and of its opposite.
func signed(t *testing.T, value, quant, inter, intra int) {
	t.Helper()
	interIs(t, value, quant, inter)
	intraIs(t, value, quant, intra)
	interIs(t, -value, quant, -inter)
	intraIs(t, -value, quant, -intra)
}

// asked asks Inter and Intra by the chapter's words.
func asked(t *testing.T, value, quant int) {
	t.Helper()
	interIs(t, value, quant, level(value, quant, false))
	intraIs(t, value, quant, level(value, quant, true))
}

// dcIs asks Dc.
func dcIs(t *testing.T, value, want int) {
	t.Helper()
	if got := coarse.Dc(value); got != want {
		t.Errorf("Dc(%d) = %d, want %d", value, got, want)
	}
}

// whole asks Block, number by number, and that l stays as it was.
func whole(t *testing.T, l block, quant int, intra bool) {
	t.Helper()
	before := l
	got, want := coarse.Block(l, quant, intra), told(l, quant, intra)
	for n := range 64 {
		if got[n] != want[n] {
			t.Fatalf("Block(%v, %d, %v) has %d as number %d, want %d", l, quant, intra, got[n], n, want[n])
		}
	}
	if l != before {
		t.Fatalf("%v became %v", before, l)
	}
}

// both asks Block of a block that is intra, and of one that is not.
func both(t *testing.T, l block, quant int) {
	t.Helper()
	whole(t, l, quant, false)
	whole(t, l, quant, true)
}

// unlike has 64 numbers, no two of them alike, from first on.
func unlike(first, step int) block {
	l := block{}
	for n := range l {
		l[n] = first + n*step
	}
	return l
}

func TestExample(t *testing.T) {
	interIs(t, 15, 5, 1)
	interIs(t, 11, 5, 0)
	intraIs(t, 11, 5, 1)
	interIs(t, -15, 5, -1)
	dcIs(t, 83, 10)
	dcIs(t, 84, 11)
}

func TestAllLevels(t *testing.T) {
	for quant := 1; quant <= 31; quant++ {
		for value := -2048; value <= 2047; value++ {
			asked(t, value, quant)
		}
	}
}

// Some levels as they stand on paper: of the least and the greatest quantisers,
// odd and even ones.
func TestSomeLevels(t *testing.T) {
	for _, line := range [][4]int{
		{1, 1, 0, 0}, {2, 1, 1, 1}, {3, 1, 1, 1}, {4, 1, 2, 2}, {5, 1, 2, 2}, {100, 1, 50, 50},
		{3, 2, 0, 0}, {4, 2, 0, 1}, {5, 2, 1, 1}, {8, 2, 1, 2}, {9, 2, 2, 2}, {100, 2, 24, 25}, {101, 2, 25, 25},
		{6, 3, 0, 1}, {7, 3, 1, 1}, {12, 3, 1, 2}, {13, 3, 2, 2}, {8, 4, 0, 1}, {10, 4, 1, 1}, {17, 4, 1, 2}, {18, 4, 2, 2},
		{10, 5, 0, 1}, {12, 5, 1, 1}, {21, 5, 1, 2}, {22, 5, 2, 2}, {100, 8, 6, 6}, {1000, 8, 62, 62}, {1004, 8, 62, 62},
		{100, 10, 4, 5}, {105, 10, 5, 5}, {1000, 15, 33, 33}, {1000, 16, 31, 31}, {992, 16, 30, 31}, {1000, 17, 29, 29},
		{60, 30, 0, 1}, {75, 30, 1, 1}, {120, 30, 1, 2}, {135, 30, 2, 2}, {1000, 30, 16, 16},
		{62, 31, 0, 1}, {77, 31, 1, 1}, {124, 31, 1, 2}, {139, 31, 2, 2}, {2046, 31, 32, 33}, {2047, 31, 32, 33},
	} {
		signed(t, line[0], line[1], line[2], line[3])
	}
}

func TestValueNought(t *testing.T) {
	for quant := -40; quant <= 80; quant++ {
		signed(t, 0, quant, 0, 0)
	}
	for _, quant := range append(above(31), below(1)...) {
		signed(t, 0, quant, 0, 0)
	}
}

// An amount that is below half of the quantiser, or is just that, is no level:
// what is taken away of it leaves less than 0, or 0.
func TestAmountsBelowTheHalf(t *testing.T) {
	for quant := 1; quant <= 31; quant++ {
		for amount := 0; amount <= quant/2; amount++ {
			signed(t, amount, quant, 0, 0)
		}
	}
	signed(t, 14, 31, 0, 0)
	signed(t, 15, 31, 0, 0)
	signed(t, 14, 30, 0, 0)
	signed(t, 15, 30, 0, 0)
	signed(t, 1, 4, 0, 0)
}

// Of each quantiser the first amount of which Inter makes the level 1; that of
// which Intra makes it is twice the quantiser.
func TestFirstLevels(t *testing.T) {
	for i, first := range []int{
		2, 5, 7, 10, 12, 15, 17, 20, 22, 25, 27, 30, 32, 35, 37, 40,
		42, 45, 47, 50, 52, 55, 57, 60, 62, 65, 67, 70, 72, 75, 77,
	} {
		quant := i + 1
		for _, sign := range []int{1, -1} {
			interIs(t, sign*(first-1), quant, 0)
			interIs(t, sign*first, quant, sign)
			interIs(t, sign*(first+1), quant, sign)
			intraIs(t, sign*(quant+quant-1), quant, 0)
			intraIs(t, sign*(quant+quant), quant, sign)
			intraIs(t, sign*(quant+quant+1), quant, sign)
		}
	}
}

// Of the quantisers up to 8 the first amounts of which 127 is made, by Inter and
// by Intra; no amount beyond makes more.
func TestMostLevels(t *testing.T) {
	for i, line := range [][2]int{
		{254, 254}, {509, 508}, {763, 762}, {1018, 1016}, {1272, 1270}, {1527, 1524}, {1781, 1778}, {2036, 2032},
	} {
		quant, inter, intra := i+1, line[0], line[1]
		interIs(t, inter-1, quant, 126)
		interIs(t, 1-inter, quant, -126)
		intraIs(t, intra-1, quant, 126)
		intraIs(t, 1-intra, quant, -126)
		for amount := inter; amount <= 2047; amount++ {
			interIs(t, amount, quant, 127)
			interIs(t, -amount, quant, -127)
		}
		for amount := intra; amount <= 2047; amount++ {
			intraIs(t, amount, quant, 127)
			intraIs(t, -amount, quant, -127)
		}
		interIs(t, -2048, quant, -127)
		intraIs(t, -2048, quant, -127)
	}
}

// Of the quantisers from 9 on no value makes 127: the levels of the greatest one.
func TestLevelsOfTheGreatestValue(t *testing.T) {
	for i, line := range [][2]int{
		{113, 113}, {102, 102}, {92, 93}, {85, 85}, {78, 78}, {72, 73}, {68, 68}, {63, 63}, {59, 60}, {56, 56}, {53, 53}, {50, 51},
		{48, 48}, {46, 46}, {44, 44}, {42, 42}, {40, 40}, {39, 39}, {37, 37}, {36, 36}, {35, 35}, {33, 34}, {32, 33},
	} {
		quant := i + 9
		interIs(t, 2047, quant, line[0])
		intraIs(t, 2047, quant, line[1])
		interIs(t, -2047, quant, -line[0])
		intraIs(t, -2047, quant, -line[1])
	}
}

// The least value is not clipped to the opposite of the greatest one, and each is
// clipped ahead of what is made of it.
func TestValuesNextToTheBounds(t *testing.T) {
	interIs(t, 2047, 17, 59)
	interIs(t, -2047, 17, -59)
	interIs(t, -2048, 17, -60)
	interIs(t, 2048, 17, 59)
	interIs(t, -2049, 17, -60)
	intraIs(t, 2047, 16, 63)
	intraIs(t, -2047, 16, -63)
	intraIs(t, -2048, 16, -64)
	intraIs(t, 2048, 16, 63)
	intraIs(t, -2049, 16, -64)
	intraIs(t, 4000, 31, 33)
	intraIs(t, -4000, 31, -33)
	interIs(t, 4000, 31, 32)
	interIs(t, -4000, 31, -32)
}

func TestClippedValues(t *testing.T) {
	for quant := 1; quant <= 31; quant++ {
		for _, value := range above(2047) {
			interIs(t, value, quant, level(2047, quant, false))
			intraIs(t, value, quant, level(2047, quant, true))
		}
		for _, value := range below(-2048) {
			interIs(t, value, quant, level(-2048, quant, false))
			intraIs(t, value, quant, level(-2048, quant, true))
		}
	}
}

func TestClippedQuants(t *testing.T) {
	for _, value := range []int{0, 1, 2, 3, 5, 7, 15, 16, 61, 62, 76, 77, 253, 254, 1000, 2046, 2047, -1, -2, -62, -77, -254, -2048} {
		for _, quant := range below(1) {
			interIs(t, value, quant, level(value, 1, false))
			intraIs(t, value, quant, level(value, 1, true))
		}
		for _, quant := range above(31) {
			interIs(t, value, quant, level(value, 31, false))
			intraIs(t, value, quant, level(value, 31, true))
		}
	}
	for _, quant := range []int{0, -1, -2, math.MinInt, math.MinInt + 1} {
		signed(t, 1, quant, 0, 0)
		signed(t, 2, quant, 1, 1)
		signed(t, 4, quant, 2, 2)
	}
	for _, quant := range []int{32, 33, 62, math.MaxInt - 1, math.MaxInt} {
		signed(t, 61, quant, 0, 0)
		signed(t, 62, quant, 0, 1)
		signed(t, 77, quant, 1, 1)
	}
}

func TestBothClipped(t *testing.T) {
	for _, high := range above(2047) {
		signed(t, high, -high, 127, 127)
		signed(t, high, high, 32, 33)
	}
	for _, end := range []int{math.MinInt, math.MinInt + 1} {
		interIs(t, end, end, -127)
		intraIs(t, end, end, -127)
		interIs(t, end, math.MaxInt, -32)
		intraIs(t, end, math.MaxInt, -33)
		interIs(t, math.MaxInt, end, 127)
		intraIs(t, math.MaxInt, end, 127)
	}
}

func TestDc(t *testing.T) {
	for value := -2048; value <= 2047; value++ {
		dcIs(t, value, dc(value))
	}
	for value, want := range map[int]int{
		-2048: 1, -100: 1, -12: 1, -5: 1, -4: 1, -1: 1, 0: 1, 1: 1, 3: 1, 4: 1, 8: 1, 11: 1, 12: 2, 16: 2, 19: 2, 20: 3,
		80: 10, 83: 10, 84: 11, 1019: 127, 1020: 128, 1024: 128, 2027: 253, 2028: 254, 2032: 254, 2035: 254, 2036: 254, 2047: 254,
	} {
		dcIs(t, value, want)
	}
}

func TestClippedDc(t *testing.T) {
	for _, value := range below(-2048) {
		dcIs(t, value, 1)
	}
	for _, value := range above(2047) {
		dcIs(t, value, 254)
	}
}

// What scale's Dc makes of any number that may be told is told again.
func TestDcThereAndBack(t *testing.T) {
	for n := 1; n <= 254; n++ {
		for more := -4; more <= 3; more++ {
			dcIs(t, scale.Dc(n)+more, n)
		}
	}
}

func TestNoughtsAlone(t *testing.T) {
	for _, quant := range []int{math.MinInt, -1, 0, 1, 2, 15, 16, 30, 31, 32, math.MaxInt} {
		for _, intra := range []bool{false, true} {
			if got := coarse.Block(block{}, quant, intra); got != (block{}) {
				t.Errorf("noughts by %d, intra %v, became %v", quant, intra, got)
			}
		}
	}
}

func TestOneNumber(t *testing.T) {
	values := []int{
		1, -1, 2, -2, 11, -11, 15, -15, 62, -62, 77, -77, 254, -254, 509, -509, 2046, 2047, -2047, -2048, 2048, -2049,
		4096, -4096, 1 << 32, -(1 << 32), math.MaxInt - 1, math.MaxInt, math.MinInt + 1, math.MinInt,
	}
	for n := range 64 {
		for _, value := range values {
			l := block{}
			l[n] = value
			for quant := 0; quant <= 32; quant++ {
				both(t, l, quant)
			}
			both(t, l, math.MaxInt)
			both(t, l, math.MinInt)
		}
	}
}

func TestUnlikeNumbers(t *testing.T) {
	for quant := -2; quant <= 34; quant++ {
		for _, l := range []block{
			unlike(-2048, 65), unlike(2047, -65), unlike(-32, 1), unlike(32, -1), unlike(1, 1), unlike(-1, -1), unlike(0, 2*quant),
			unlike(0, 5), unlike(64, 1), unlike(-64, -1), unlike(-3000, 97), unlike(math.MinInt, 1), unlike(math.MaxInt, -1),
		} {
			both(t, l, quant)
		}
	}
}

// 64 levels that are all unlike, as they stand on paper: by 5 Intra makes just one
// more of each ten more, and Inter one less than that, as two are taken away first.
func TestUnlikeLevels(t *testing.T) {
	l := unlike(10, 10)
	intra, inter := coarse.Block(l, 5, true), coarse.Block(l, 5, false)
	for n := range 64 {
		want := n + 1
		if n == 0 {
			want = 0
		}
		if intra[n] != want || inter[n] != n {
			t.Errorf("number %d is %d, intra %d, want %d, %d", n, inter[n], intra[n], n, want)
		}
	}
}

// Number 0 of an intra block is 0, whatever stands there; of another one it is
// made as all others are. No other number hangs on it.
func TestNumberNought(t *testing.T) {
	for _, value := range []int{0, 1, -1, 2, 11, 12, 15, 77, 100, -100, 1016, 2047, -2048, 2048, -2049, math.MaxInt, math.MinInt} {
		l := unlike(100, 1)
		l[0] = value
		for _, quant := range []int{1, 2, 5, 31, 0, -1, 32, math.MaxInt, math.MinInt} {
			both(t, l, quant)
			got := coarse.Block(l, quant, true)
			if got[0] != 0 || got[1] != coarse.Intra(101, quant) || got[63] != coarse.Intra(163, quant) {
				t.Errorf("an intra block with %d first by %d is %v", value, quant, got)
			}
			got = coarse.Block(l, quant, false)
			if got[0] != coarse.Inter(value, quant) || got[1] != coarse.Inter(101, quant) || got[63] != coarse.Inter(163, quant) {
				t.Errorf("a block with %d first by %d is %v", value, quant, got)
			}
		}
	}
}

func TestBlockOfClippedQuants(t *testing.T) {
	l := unlike(-2048, 65)
	for _, intra := range []bool{false, true} {
		for _, quant := range below(1) {
			whole(t, l, quant, intra)
			if coarse.Block(l, quant, intra) != coarse.Block(l, 1, intra) {
				t.Errorf("%d does not count as 1", quant)
			}
		}
		for _, quant := range above(31) {
			whole(t, l, quant, intra)
			if coarse.Block(l, quant, intra) != coarse.Block(l, 31, intra) {
				t.Errorf("%d does not count as 31", quant)
			}
		}
	}
}

func TestBlockOfClippedValues(t *testing.T) {
	for _, value := range append(below(-2048), above(2047)...) {
		l := block{}
		for n := range l {
			l[n] = value
		}
		for _, quant := range []int{1, 3, 16, 17, 31, 0, 32, math.MinInt, math.MaxInt} {
			both(t, l, quant)
		}
	}
}

// Many blocks, from a short rule that mixes.
func TestManyBlocks(t *testing.T) {
	state := uint64(1)
	next := func() int {
		state = state*6364136223846793005 + 1442695040888963407
		return int(state ^ state>>29)
	}
	for range 2000 {
		l, wild := block{}, block{}
		for n := range l {
			l[n] = next() % 3000
			wild[n] = next()
		}
		both(t, l, next()%40)
		both(t, wild, next())
	}
}

// P13.3: of a level's value that was not clipped both tell the level. The amount
// that is not clipped yet tells which values were.
func TestThereAndBack(t *testing.T) {
	for quant := 1; quant <= 31; quant++ {
		most := 0
		for n := -127; n <= 127; n++ {
			amount := quant * (2*max(n, -n) + 1)
			if amount-(quant+1)%2 > 2047 {
				continue
			}
			value := scale.Value(n, quant)
			interIs(t, value, quant, n)
			intraIs(t, value, quant, n)
			most = max(most, n)
		}
		if most == 0 || quant <= 8 && most != 127 {
			t.Errorf("by %d the levels up to %d alone were asked", quant, most)
		}
	}
}

// P13.3, block by block: the numbers of an intra block but number 0, and all of
// another one.
func TestBlockThereAndBack(t *testing.T) {
	for quant := 1; quant <= 31; quant++ {
		l := unlike(-32, 1)
		if got := coarse.Block(scale.Block(l, quant, false, 0), quant, false); got != l {
			t.Errorf("by %d %v became %v", quant, l, got)
		}
		got := coarse.Block(scale.Block(l, quant, true, 10), quant, true)
		if l[0] = 0; got != l {
			t.Errorf("by %d, intra, %v became %v", quant, l, got)
		}
	}
}

// P13.3: by a greater quantiser no amount is greater, and a level that is not 0
// has its value's sign, whatever is clipped.
func TestOrder(t *testing.T) {
	quants := []int{math.MinInt, -1, 0}
	for quant := 1; quant <= 33; quant++ {
		quants = append(quants, quant)
	}
	quants = append(quants, 1<<32+1, math.MaxInt)
	values := []int{math.MinInt, math.MinInt + 1, math.MaxInt}
	for value := -2100; value <= 2100; value++ {
		values = append(values, value)
	}
	for _, makes := range []func(value, quant int) int{coarse.Inter, coarse.Intra} {
		for _, value := range values {
			ahead := 127
			for _, quant := range quants {
				amount := makes(value, quant)
				if value < 0 {
					amount = -amount
				}
				if amount < 0 || amount > ahead {
					t.Errorf("the level of %d by %d is %d, and by the one ahead its amount %d", value, quant, makes(value, quant), ahead)
				}
				ahead = amount
			}
		}
	}
}

// What is taken away first costs one at most: it is less than twice the quantiser.
func TestInterBesideIntra(t *testing.T) {
	for quant := 1; quant <= 31; quant++ {
		for value := 0; value <= 2047; value++ {
			inter, intra := coarse.Inter(value, quant), coarse.Intra(value, quant)
			if inter > intra || intra-inter > 1 {
				t.Errorf("the levels of %d by %d are %d and %d", value, quant, inter, intra)
			}
		}
	}
}

// An answer is the asker's own, and what was handed in stays as it was: nothing
// is kept from one call to the next.
func TestNothingIsKept(t *testing.T) {
	l := unlike(-2000, 63)
	before := l
	got, intra := coarse.Block(l, 13, false), coarse.Block(l, 13, true)
	for n := range got {
		got[n], intra[n] = -1, -1
	}
	coarse.Block(got, 31, true)
	coarse.Inter(2047, 31)
	coarse.Intra(2047, 31)
	coarse.Dc(2047)
	if l != before {
		t.Errorf("%v became %v", before, l)
	}
	both(t, l, 13)
	interIs(t, 15, 5, 1)
	intraIs(t, 11, 5, 1)
	dcIs(t, 83, 10)
}
