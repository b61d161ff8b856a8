package dct_test

import (
	"math"
	"testing"

	"overspill/dct"
)

type block = [64]int

// paper has the weights as they stand in the chapter.
var paper = [8][8]int{
	{64, 64, 64, 64, 64, 64, 64, 64},
	{89, 75, 50, 18, -18, -50, -75, -89},
	{83, 36, -36, -83, -83, -36, 36, 83},
	{75, -18, -89, -50, 50, 89, 18, -75},
	{64, -64, -64, 64, 64, -64, -64, 64},
	{50, -89, 18, 75, -75, -18, 89, -50},
	{36, -83, 83, -36, -36, 83, -83, 36},
	{18, -50, 75, -89, 89, -75, 50, -18},
}

// waved has w(u, x) by a rule of its own: eight amounts, gone through as a wave
// is that turns after 16 steps, by 2 x + 1 steps of u.
func waved(u, x int) int {
	amounts := []int{64, 89, 83, 75, 64, 50, 36, 18, 0}
	step := (2*x + 1) * u % 32
	if step > 16 {
		step = 32 - step
	}
	if step > 8 {
		return -amounts[16-step]
	}
	return amounts[step]
}

// ends are numbers beyond -2048 and 2047, up to those at the ends of an int.
func ends() []int {
	l := []int{math.MinInt, math.MinInt + 1, math.MinInt + 2047, math.MinInt + 2048, math.MinInt + 2049}
	for _, n := range []int{
		2049, 2050, 2100, 2560, 4095, 4096, 4097, 8192, 32767, 32768, 65535, 65536, 65537, 1 << 20, math.MaxInt32, math.MaxInt32 + 1,
		math.MaxUint32, 1 << 32, 1<<32 + 1, 1<<32 + 2047, 1 << 40, 1<<40 + 1, 1 << 47, 1 << 48, 1 << 52, 1 << 60, 1 << 62, 1<<62 + 5,
		math.MaxInt / 4096, math.MaxInt/4096 + 1, math.MaxInt / 64, math.MaxInt/64 + 1, math.MaxInt - 2048, math.MaxInt - 1, math.MaxInt,
	} {
		l = append(l, n, -n)
	}
	return append(l, 2048)
}

// counted brings n to the bounds, as what is clipped counts.
func counted(n, low, high int) int {
	switch {
	case n < low:
		return low
	case n > high:
		return high
	}
	return n
}

// shortened is the sum by 2^15, rounded to the nearest, halves up.
func shortened(sum int) int {
	sum += 16384
	n := sum / 32768
	if sum%32768 < 0 {
		n--
	}
	return n
}

// summed is the sum of all numbers of l, as they count, by these weights.
func summed(l, weights block) int {
	sum := 0
	for place := range 64 {
		sum += weights[place] * counted(l[place], -2048, 2047)
	}
	return sum
}

// forwardWeights are those by which the place of u and v has all numbers.
func forwardWeights(u, v int) block {
	weights := block{}
	for y := range 8 {
		for x := range 8 {
			weights[8*y+x] = paper[u][x] * paper[v][y]
		}
	}
	return weights
}

// inverseWeights are those by which the place of x and y has all numbers.
func inverseWeights(x, y int) block {
	weights := block{}
	for v := range 8 {
		for u := range 8 {
			weights[8*v+u] = paper[u][x] * paper[v][y]
		}
	}
	return weights
}

// way is one of the two, with what the chapter's words ask for of it.
type way struct {
	name      string
	call      func(l [64]int) [64]int
	weights   func(across, down int) block
	low, high int
}

func forward() way { return way{"Forward", dct.Forward, forwardWeights, -2048, 2047} }
func inverse() way { return way{"Inverse", dct.Inverse, inverseWeights, -256, 255} }
func ways() []way  { return []way{forward(), inverse()} }

// told is what the chapter's words ask for at one place.
func (w way) told(l block, place int) int {
	return counted(shortened(summed(l, w.weights(place%8, place/8))), w.low, w.high)
}

// asked asks the way of l, place by place, and that l stays as it was.
func (w way) asked(t *testing.T, l block) {
	t.Helper()
	before := l
	got := w.call(l)
	for place := range 64 {
		if want := w.told(l, place); got[place] != want {
			t.Fatalf("%s(%v) has %d at place %d, want %d", w.name, l, got[place], place, want)
		}
	}
	if l != before {
		t.Fatalf("%v became %v", before, l)
	}
}

// both asks both ways of l.
func both(t *testing.T, l block) {
	t.Helper()
	forward().asked(t, l)
	inverse().asked(t, l)
}

// is asks the way of l for an answer that stands on paper.
func (w way) is(t *testing.T, l, want block) {
	t.Helper()
	if got := w.call(l); got != want {
		t.Errorf("%s(%v) = %v, want %v", w.name, l, got, want)
	}
}

// flat has one number 64 times.
func flat(n int) block {
	l := block{}
	for place := range l {
		l[place] = n
	}
	return l
}

// alone has one number, and noughts.
func alone(n, place int) block {
	l := block{}
	l[place] = n
	return l
}

// unlike has 64 numbers, no two of them alike, from first on.
func unlike(first, step int) block {
	l := block{}
	for n := range l {
		l[n] = first + n*step
	}
	return l
}

// across has the rows of l for its columns.
func across(l block) block {
	turned := block{}
	for y := range 8 {
		for x := range 8 {
			turned[8*x+y] = l[8*y+x]
		}
	}
	return turned
}

// mixer gives numbers by a short rule that mixes.
func mixer(state uint64) func() int {
	return func() int {
		state = state*6364136223846793005 + 1442695040888963407
		return int(state ^ state>>29)
	}
}

func TestExample(t *testing.T) {
	forward().is(t, flat(10), alone(80, 0))
	inverse().is(t, alone(80, 0), flat(10))
}

// Each weight comes back as it stands: 512 times 64 is what is rounded away.
func TestWeights(t *testing.T) {
	for u := range 8 {
		for x := range 8 {
			want := paper[u][x]
			if waved(u, x) != want {
				t.Errorf("w(%d, %d) is %d, and %d by the rule", u, x, want, waved(u, x))
			}
			for name, got := range map[string]int{
				"Forward, u and x":  dct.Forward(alone(512, x))[u],
				"Forward, v and y":  dct.Forward(alone(512, 8*x))[8*u],
				"Forward, below 0":  -dct.Forward(alone(-512, x))[u],
				"Inverse, u and x":  dct.Inverse(alone(512, u))[x],
				"Inverse, lowest y": dct.Inverse(alone(512, u))[56+x],
				"Inverse, v and y":  dct.Inverse(alone(512, 8*u))[8*x],
				"Inverse, last x":   dct.Inverse(alone(512, 8*u))[8*x+7],
				"Inverse, below 0":  -dct.Inverse(alone(-512, u))[x],
			} {
				if got != want {
					t.Errorf("%s: w(%d, %d) came back as %d, want %d", name, u, x, got, want)
				}
			}
		}
	}
}

// Some blocks with one number, as they stand on paper.
func TestOneNumberOnPaper(t *testing.T) {
	got := dct.Forward(alone(100, 1))
	for place, want := range map[int]int{0: 13, 1: 15, 2: 7, 3: -4, 4: -12, 5: -17, 6: -16, 7: -10, 8: 17, 9: 20, 15: -14, 56: 4, 57: 4, 63: -3} {
		if got[place] != want {
			t.Errorf("Forward of 100 at place 1 has %d at place %d, want %d", got[place], place, want)
		}
	}
	row := [8]int{17, 15, 10, 4, -4, -10, -15, -17}
	across, down := dct.Inverse(alone(100, 1)), dct.Inverse(alone(100, 8))
	for y := range 8 {
		for x := range 8 {
			if across[8*y+x] != row[x] || down[8*y+x] != row[y] {
				t.Errorf("Inverse of 100 has %d, or %d, at place %d, want %d, %d", across[8*y+x], down[8*y+x], 8*y+x, row[x], row[y])
			}
		}
	}
	got = dct.Inverse(alone(100, 10))
	for place, want := range map[int]int{0: 23, 1: 10, 2: -10, 3: -23, 8: 19, 24: 5, 25: 2, 26: -2, 32: -5, 33: -2, 56: -23, 57: -10, 63: -23} {
		if got[place] != want {
			t.Errorf("Inverse of 100 at place 10 has %d at place %d, want %d", got[place], place, want)
		}
	}
}

func TestOneNumber(t *testing.T) {
	for place := range 64 {
		for _, n := range []int{1, -1, 2, -2, 3, -3, 4, -4, 5, -5, 9, -9, 64, -64, 100, -100, 255, 256, -256, -257, 512, 1000, -1000, 2046, 2047, -2047, -2048} {
			both(t, alone(n, place))
		}
	}
}

// common is the greatest number that goes into both.
func common(a, b int) int {
	a, b = max(a, -a), max(b, -b)
	for b != 0 {
		a, b = b, a%b
	}
	return a
}

// pair finds numbers for two places that bring the sum to what is left.
func pair(left, first, second int) (int, int, bool) {
	if left%common(first, second) != 0 {
		return 0, 0, false
	}
	for a := -2048; a <= 2047; a++ {
		if rest := left - a*first; rest%second == 0 && rest/second >= -2048 && rest/second <= 2047 {
			return a, rest / second, true
		}
	}
	return 0, 0, false
}

// aimed is a block whose sum by these weights is just so much: the first place has
// whatever helps, all others but two bring the sum near, and these two meet it.
func aimed(weights block, sum int) (block, bool) {
	for help := range 64 {
		for first := 1; first < 64; first++ {
			for second := first + 1; second < 64; second++ {
				l, left := alone(help, 0), sum-help*weights[0]
				for place := 1; place < 64; place++ {
					if place != first && place != second {
						l[place] = counted(left/weights[place], -2048, 2047)
						left -= l[place] * weights[place]
					}
				}
				var ok bool
				if l[first], l[second], ok = pair(left, weights[first], weights[second]); ok {
					return l, true
				}
			}
		}
	}
	return block{}, false
}

// shared is the greatest number that goes into all weights: sums lie so far
// from each other.
func shared(weights block) int {
	most := 0
	for _, n := range weights {
		most = common(most, n)
	}
	return most
}

// halves asks at one place for sums just below n and a half, just there, and just
// above: the first is n, the others n + 1, unless they are beyond the bounds.
func (w way) halves(t *testing.T, place, n int) {
	t.Helper()
	weights := w.weights(place%8, place/8)
	step := shared(weights)
	for less, want := range map[int]int{2 * step: n, step: n, 0: n + 1, -step: n + 1, -2 * step: n + 1} {
		sum := 32768*n + 16384 - less
		l, ok := aimed(weights, sum)
		if !ok || summed(l, weights) != sum {
			t.Fatalf("%s: no block was found whose sum at place %d is %d", w.name, place, sum)
		}
		if got := w.call(l)[place]; got != counted(want, w.low, w.high) {
			t.Errorf("%s: a sum of %d at place %d is %d, want %d", w.name, sum, place, got, counted(want, w.low, w.high))
		}
	}
}

// Sums are rounded to the nearest, halves up, of sums below 0 too.
func TestRounded(t *testing.T) {
	for _, w := range ways() {
		for place := range 64 {
			for _, n := range []int{-101, -100, -3, -2, -1, 0, 1, 2, 99, 100} {
				w.halves(t, place, n)
			}
		}
	}
}

// Sums next to the bounds, and beyond them.
func TestBounds(t *testing.T) {
	for _, w := range ways() {
		for place := range 64 {
			for more := -3; more <= 2; more++ {
				w.halves(t, place, w.low+more)
				w.halves(t, place, w.high+more)
			}
			w.halves(t, place, 2*w.low)
			w.halves(t, place, 2*w.high)
		}
	}
}

// The bounds as they stand on paper: of flat blocks, and of first numbers alone.
func TestBoundsOnPaper(t *testing.T) {
	for n, want := range map[int]int{
		254: 2032, 255: 2040, 256: 2047, 257: 2047, 2047: 2047, 2048: 2047, math.MaxInt: 2047,
		-255: -2040, -256: -2048, -257: -2048, -258: -2048, -2048: -2048, -2049: -2048, math.MinInt: -2048,
	} {
		forward().is(t, flat(n), alone(want, 0))
	}
	for more, want := range map[int]int{0: 2040, 1: 2041, 6: 2046, 7: 2047, 8: 2047, 9: 2047} {
		l := flat(255)
		l[9] += 8 * more
		if got := dct.Forward(l)[0]; got != want {
			t.Errorf("Forward of 255 times 64 and %d has %d first, want %d", 8*more, got, want)
		}
	}
	for more, want := range map[int]int{0: -2040, 1: -2041, 7: -2047, 8: -2048, 9: -2048, 10: -2048} {
		l := flat(-255)
		l[9] -= 8 * more
		if got := dct.Forward(l)[0]; got != want {
			t.Errorf("Forward of -255 times 64 and %d has %d first, want %d", -8*more, got, want)
		}
	}
	for n, want := range map[int]int{
		3: 0, 4: 1, 5: 1, 11: 1, 12: 2, -3: 0, -4: 0, -5: -1, -12: -1, -13: -2,
		2027: 253, 2028: 254, 2035: 254, 2036: 255, 2040: 255, 2043: 255, 2044: 255, 2047: 255, 2048: 255, math.MaxInt: 255,
		-2036: -254, -2037: -255, -2044: -255, -2045: -256, -2047: -256, -2048: -256, -2049: -256, math.MinInt: -256,
	} {
		inverse().is(t, alone(n, 0), flat(want))
	}
}

// What is beyond the bounds counts as the bound, alone at each place.
func TestClippedAlone(t *testing.T) {
	for _, w := range ways() {
		for _, n := range ends() {
			for place := range 64 {
				w.is(t, alone(n, place), w.call(alone(counted(n, -2048, 2047), place)))
			}
			w.asked(t, alone(n, 9))
			w.asked(t, alone(n, 62))
		}
	}
}

func TestClippedAll(t *testing.T) {
	for _, n := range append(ends(), 2046, 2047, -2047, -2048) {
		both(t, flat(n))
		forward().is(t, flat(n), alone(counted(8*counted(n, -2048, 2047), -2048, 2047), 0))
		for _, m := range ends() {
			l := unlike(0, 1)
			for place := range l {
				l[place] = n
				if place%3 == 1 || place%7 == 2 {
					l[place] = m
				}
			}
			both(t, l)
		}
	}
}

// What is clipped is clipped ahead of the sums, as the answers tell on paper: of as
// many numbers above as below, that hold each other but for what is clipped.
func TestClippedFirst(t *testing.T) {
	for _, line := range [][3]int{
		{2047, -2047, 0}, {2048, -2048, -4}, {2047, -2048, -4}, {2047, -2049, -4}, {2048, -2047, 0}, {2048, -2049, -4}, {2049, -2047, 0},
		{math.MaxInt, -2047, 0}, {math.MaxInt, math.MinInt, -4}, {2047, math.MinInt, -4}, {math.MaxInt, -2046, 4}, {1 << 32, -(1 << 32), -4},
	} {
		l := block{}
		for place := range l {
			l[place] = line[place*5%64/32]
		}
		if got := dct.Forward(l)[0]; got != line[2] {
			t.Errorf("Forward of %d and %d, 32 of each, has %d first, want %d", line[0], line[1], got, line[2])
		}
	}
	for _, line := range [][3]int{
		{2047, -2047, 0}, {2048, -2048, -3}, {2047, -2048, -3}, {2047, -2049, -3}, {2048, -2047, 0}, {2048, -2049, -3}, {2049, -2047, 0},
		{math.MaxInt, -2047, 0}, {math.MaxInt, math.MinInt, -3}, {2047, math.MinInt, -3}, {math.MaxInt, -2046, 3}, {1 << 32, -(1 << 32), -3},
	} {
		l := block{}
		for v := range 8 {
			for u := range v {
				l[8*u+v], l[8*v+u] = line[0], line[1]
			}
		}
		if got := dct.Inverse(l)[0]; got != line[2] {
			t.Errorf("Inverse of %d above and %d below has %d first, want %d", line[0], line[1], got, line[2])
		}
	}
}

func TestNoughts(t *testing.T) {
	forward().is(t, block{}, block{})
	inverse().is(t, block{}, block{})
}

// P14.3: Forward of a block that is flat has nothing but its first number, which
// is eight times as great.
func TestFlat(t *testing.T) {
	for n := -2048; n <= 2047; n++ {
		forward().is(t, flat(n), alone(counted(8*n, -2048, 2047), 0))
		inverse().asked(t, flat(n))
	}
}

// P14.3: of a first number alone Inverse is flat, an eighth of it, halves up.
func TestFirstNumber(t *testing.T) {
	for n := -2100; n <= 2100; n++ {
		want := 0
		for rest := counted(n, -2048, 2047) + 4 + 8*300; rest >= 8; rest -= 8 {
			want++
		}
		inverse().is(t, alone(n, 0), flat(counted(want-300, -256, 255)))
		forward().asked(t, alone(n, 0))
	}
	for _, n := range ends() {
		inverse().is(t, alone(n, 0), flat(counted(n, -256, 255)))
	}
}

// P14.3: a flat block comes back, as far as it fits.
func TestFlatThereAndBack(t *testing.T) {
	for n := -255; n <= 255; n++ {
		inverse().is(t, dct.Forward(flat(n)), flat(n))
	}
	inverse().is(t, dct.Forward(flat(-256)), flat(-256))
}

func TestUnlikeNumbers(t *testing.T) {
	for _, l := range []block{
		unlike(-2048, 65), unlike(2047, -65), unlike(-32, 1), unlike(32, -1), unlike(1, 1), unlike(-1, -1), unlike(0, 5),
		unlike(64, 1), unlike(-64, -1), unlike(-256, 8), unlike(255, -8), unlike(-3000, 97), unlike(math.MinInt, 1), unlike(math.MaxInt, -1),
	} {
		both(t, l)
		both(t, across(l))
	}
}

// The greatest and the least numbers in the pattern of each row of weights, across
// and down: no sum is greater, or less.
func TestPatterns(t *testing.T) {
	for _, bounds := range [][2]int{{-2048, 2047}, {2047, -2048}, {math.MinInt, math.MaxInt}, {math.MaxInt, math.MinInt}, {-256, 255}, {-1, 1}, {0, 2047}, {-2048, 0}} {
		for u := range 8 {
			for v := range 8 {
				for _, weights := range []block{forwardWeights(u, v), inverseWeights(u, v)} {
					l := block{}
					for place, weight := range weights {
						l[place] = bounds[0]
						if weight > 0 {
							l[place] = bounds[1]
						}
					}
					both(t, l)
				}
			}
		}
	}
}

// What the patterns come to on paper: each place has the bound that they aim at.
func TestPatternsOnPaper(t *testing.T) {
	for _, w := range ways() {
		for place := range 64 {
			l := block{}
			for at, weight := range w.weights(place%8, place/8) {
				l[at] = -2048
				if weight > 0 {
					l[at] = 2047
				}
			}
			if got := w.call(l)[place]; got != w.high {
				t.Errorf("%s has %d at place %d, want %d", w.name, got, place, w.high)
			}
			for at := range l {
				l[at] = -1 - l[at]
			}
			if got := w.call(l)[place]; got != w.low {
				t.Errorf("%s has %d at place %d, want %d", w.name, got, place, w.low)
			}
		}
	}
}

// Many blocks, from a short rule that mixes: of samples, of values with few that
// are not 0, and of any ints.
func TestManyBlocks(t *testing.T) {
	next := mixer(1)
	for range 1000 {
		samples, values, wild := block{}, block{}, block{}
		for n := range 64 {
			samples[n] = next() % 256
			wild[n] = next()
			if next()%7 == 0 {
				values[n] = next() % 2100
			}
		}
		both(t, samples)
		both(t, values)
		both(t, wild)
	}
}

// P14.3: rows for columns, both tell rows for columns.
func TestRowsForColumns(t *testing.T) {
	next := mixer(2)
	for _, w := range ways() {
		for place := range 64 {
			l := alone(777, place)
			w.is(t, across(l), across(w.call(l)))
		}
		for range 500 {
			l := block{}
			for n := range l {
				l[n] = next() % 2500
			}
			w.is(t, across(l), across(w.call(l)))
		}
	}
}

// An answer is the asker's own, and what was handed in stays as it was: nothing
// is kept from one call to the next.
func TestNothingIsKept(t *testing.T) {
	l := unlike(-2000, 63)
	before := l
	got, back := dct.Forward(l), dct.Inverse(l)
	for n := range got {
		got[n], back[n] = -1, -1
	}
	dct.Forward(flat(math.MaxInt))
	dct.Inverse(flat(math.MinInt))
	if l != before {
		t.Errorf("%v became %v", before, l)
	}
	both(t, l)
	TestExample(t)
}
