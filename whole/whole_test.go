package whole_test

import (
	"math"
	"math/big"
	"slices"
	"testing"

	"overspill/whole"
)

// ends are numbers at which a bound, a width or an int itself ends, with those
// around them.
func ends() []int {
	l := []int{math.MinInt, math.MinInt + 1, math.MaxInt - 1, math.MaxInt}
	for _, n := range []int{0, 5, 32, 64, 1 << 31, 1 << 32, 1 << 40, 1 << 62} {
		for d := -1; d <= 1; d++ {
			l = append(l, n+d, -n+d)
		}
	}
	slices.Sort(l)
	return slices.Compact(l)
}

// clipped says Clip over again, by its words, for the sums of the other calls.
func clipped(n, low, high int) int {
	switch {
	case high < low || n < low:
		return low
	case n > high:
		return high
	}
	return n
}

func TestClip(t *testing.T) {
	for _, c := range []struct{ n, low, high, want int }{
		{7, 0, 5, 5}, {-1, 0, 5, 0}, {3, 0, 5, 3}, {0, 0, 5, 0}, {5, 0, 5, 5}, {6, 0, 5, 5},
		{-9, -8, -2, -8}, {-5, -8, -2, -5}, {0, -8, -2, -2}, {4, 4, 4, 4}, {5, 4, 4, 4}, {3, 4, 4, 4},
	} {
		if got := whole.Clip(c.n, c.low, c.high); got != c.want {
			t.Errorf("Clip(%d, %d, %d) = %d, want %d", c.n, c.low, c.high, got, c.want)
		}
	}
}

func TestClipWithBoundsTheWrongWayRound(t *testing.T) {
	for _, n := range []int{math.MinInt, -1, 5, 6, 7, 8, 9, 10, math.MaxInt} {
		if got := whole.Clip(n, 9, 5); got != 9 {
			t.Errorf("Clip(%d, 9, 5) = %d, want 9", n, got)
		}
	}
	if got := whole.Clip(0, math.MaxInt, math.MinInt); got != math.MaxInt {
		t.Errorf("Clip(0, most, least) = %d, want most", got)
	}
}

func TestClipAtAllEnds(t *testing.T) {
	for _, n := range ends() {
		for _, low := range ends() {
			for _, high := range ends() {
				if got, want := whole.Clip(n, low, high), clipped(n, low, high); got != want {
					t.Fatalf("Clip(%d, %d, %d) = %d, want %d", n, low, high, got, want)
				}
			}
		}
	}
}

func TestWrap(t *testing.T) {
	for _, c := range [][2]int{
		{0, 0}, {31, 31}, {32, -32}, {33, -31}, {63, -1}, {64, 0}, {95, 31}, {96, -32}, {100, -28},
		{-1, -1}, {-32, -32}, {-33, 31}, {-64, 0}, {-65, -1}, {-96, -32}, {-97, 31},
		{math.MaxInt, -1}, {math.MinInt, 0}, {math.MinInt + 32, -32}, {math.MaxInt - 32, 31},
	} {
		if got := whole.Wrap(c[0]); got != c[1] {
			t.Errorf("Wrap(%d) = %d, want %d", c[0], got, c[1])
		}
	}
}

func TestWrapIsAwayByAMultipleOf64(t *testing.T) {
	check := func(n int) {
		got := whole.Wrap(n)
		away := new(big.Int).Sub(big.NewInt(int64(n)), big.NewInt(int64(got)))
		if got < -32 || got > 31 || away.Mod(away, big.NewInt(64)).Sign() != 0 {
			t.Fatalf("Wrap(%d) = %d", n, got)
		}
	}
	for n := -1000; n <= 1000; n++ {
		check(n)
	}
	for _, n := range ends() {
		check(n)
	}
}

// P1.5: a number that needs no wrapping is told as it is.
func TestWrapKeepsWhatIsWithin(t *testing.T) {
	for n := -32; n <= 31; n++ {
		if got := whole.Wrap(n); got != n {
			t.Errorf("Wrap(%d) = %d", n, got)
		}
	}
}

func TestMiddle(t *testing.T) {
	for _, c := range [][4]int{
		{3, 1, 2, 2}, {1, 1, 5, 1}, {9, 4, 6, 6}, {5, 5, 1, 5}, {1, 5, 5, 5}, {4, 4, 4, 4}, {-3, 0, -1, -1},
		{math.MinInt, math.MaxInt, 0, 0}, {math.MaxInt, math.MaxInt, math.MinInt, math.MaxInt},
	} {
		if got := whole.Middle(c[0], c[1], c[2]); got != c[3] {
			t.Errorf("Middle(%d, %d, %d) = %d, want %d", c[0], c[1], c[2], got, c[3])
		}
	}
}

func TestMiddleOfAllOrders(t *testing.T) {
	l := append([]int{-2, -1, 1, 2}, ends()...)
	for _, a := range l {
		for _, b := range l {
			for _, c := range l {
				order := []int{a, b, c}
				slices.Sort(order)
				if got := whole.Middle(a, b, c); got != order[1] {
					t.Fatalf("Middle(%d, %d, %d) = %d, want %d", a, b, c, got, order[1])
				}
			}
		}
	}
}

const mostShared = 1<<31 - 1

func TestShare(t *testing.T) {
	for _, c := range []struct{ n, part, all, want int }{
		{10, 1, 3, 3}, {10, 2, 3, 6}, {10, 3, 3, 10}, {7, 1, 2, 3}, {0, 1, 2, 0}, {1, 1, 2, 0}, {30, 500, 1000, 15},
		// parts below 0, and above all
		{10, 0, 3, 0}, {10, -1, 3, 0}, {10, math.MinInt, 3, 0}, {10, 4, 3, 10}, {10, 5, 3, 10}, {10, math.MaxInt, 3, 10},
		// an all of 0, or below it
		{10, 1, 0, 0}, {10, 0, 0, 0}, {10, -1, 0, 0}, {10, 1, -3, 0}, {10, -1, -3, 0}, {10, 1, math.MinInt, 0},
		// numbers below 0
		{-10, 1, 3, 0}, {-1, 1, 1, 0}, {math.MinInt, 1, 1, 0},
		// numbers above the bound
		{mostShared, 1, 1, mostShared}, {mostShared + 1, 1, 1, mostShared}, {math.MaxInt, 1, 1, mostShared},
		{mostShared, mostShared, mostShared, mostShared}, {math.MaxInt, math.MaxInt, math.MaxInt, mostShared},
		{mostShared, mostShared - 1, mostShared, mostShared - 1}, {mostShared, 1, mostShared + 1, 1},
		{mostShared, mostShared - 1, math.MaxInt, mostShared - 1}, {4, 1 << 30, 1 << 31, 2},
	} {
		if got := whole.Share(c.n, c.part, c.all); got != c.want {
			t.Errorf("Share(%d, %d, %d) = %d, want %d", c.n, c.part, c.all, got, c.want)
		}
	}
}

// share is Share by its words, in numbers that have no ends.
func share(n, part, all int) int {
	n, all = clipped(n, 0, mostShared), clipped(all, 0, mostShared)
	part = clipped(part, 0, all)
	if all == 0 {
		return 0
	}
	product := new(big.Int).Mul(big.NewInt(int64(n)), big.NewInt(int64(part)))
	return int(product.Div(product, big.NewInt(int64(all))).Int64())
}

func TestShareAtAllEnds(t *testing.T) {
	for _, n := range ends() {
		for _, part := range ends() {
			for _, all := range ends() {
				if got, want := whole.Share(n, part, all), share(n, part, all); got != want {
					t.Fatalf("Share(%d, %d, %d) = %d, want %d", n, part, all, got, want)
				}
			}
		}
	}
}

// P1.5: no share is above its n, and a greater part has no lesser one.
func TestShareGrowsUpToN(t *testing.T) {
	l := append([]int{1, 2, 3, 10, 1000, 99991}, ends()...)
	for _, n := range l {
		if n < 0 {
			continue
		}
		for _, all := range l {
			last := 0
			for _, part := range ends() {
				got := whole.Share(n, part, all)
				if got > n || got < last {
					t.Fatalf("Share(%d, %d, %d) = %d, behind %d", n, part, all, got, last)
				}
				last = got
			}
		}
	}
}

const mostRounded = 1 << 40

func TestRound(t *testing.T) {
	for _, c := range [][3]int{
		{3, 1, 2}, {-3, 1, -1}, {-4, 3, 0}, {-5, 3, -1}, {4, 3, 1}, {3, 3, 0}, {0, 1, 0}, {1, 1, 1}, {-1, 1, 0},
		{-2, 1, -1}, {12, 3, 2}, {-12, 3, -1}, {-13, 3, -2}, {10 * 8 * 32768, 15, 80},
		// no bits, and fewer
		{5, 0, 5}, {-5, 0, -5}, {5, -1, 5}, {-5, -1, -5}, {5, math.MinInt, 5},
		// all bits, and more
		{1 << 31, 32, 1}, {1<<31 - 1, 32, 0}, {-1 << 31, 32, 0}, {-1<<31 - 1, 32, -1},
		{mostRounded, 32, 256}, {mostRounded, 33, 256}, {-mostRounded, 33, -256}, {mostRounded, math.MaxInt, 256},
		{1 << 31, 40, 1}, {-1, 64, 0}, {-1, math.MaxInt, 0},
		// numbers at their ends
		{mostRounded, 0, mostRounded}, {mostRounded + 1, 0, mostRounded}, {math.MaxInt, 0, mostRounded},
		{-mostRounded, 0, -mostRounded}, {-mostRounded - 1, 0, -mostRounded}, {math.MinInt, 0, -mostRounded},
		{mostRounded - 1, 0, mostRounded - 1}, {math.MaxInt, 1, 1 << 39}, {math.MinInt, 1, -1 << 39},
		{math.MaxInt, -1, mostRounded}, {math.MinInt, 99, -256},
	} {
		if got := whole.Round(c[0], c[1]); got != c[2] {
			t.Errorf("Round(%d, %d) = %d, want %d", c[0], c[1], got, c[2])
		}
	}
}

// round is Round by its words: big's Div rounds down by a number above 0.
func round(n, bits int) int {
	n, bits = clipped(n, -mostRounded, mostRounded), clipped(bits, 0, 32)
	if bits == 0 {
		return n
	}
	sum := new(big.Int).Add(big.NewInt(int64(n)), new(big.Int).Lsh(big.NewInt(1), uint(bits-1)))
	return int(sum.Div(sum, new(big.Int).Lsh(big.NewInt(1), uint(bits))).Int64())
}

func TestRoundByAllBits(t *testing.T) {
	l := ends()
	for n := -300; n <= 300; n++ {
		l = append(l, n, n<<14, n<<30)
	}
	widths := ends()
	for bits := -2; bits <= 34; bits++ {
		widths = append(widths, bits)
	}
	for _, n := range l {
		for _, bits := range widths {
			if got, want := whole.Round(n, bits), round(n, bits); got != want {
				t.Fatalf("Round(%d, %d) = %d, want %d", n, bits, got, want)
			}
		}
	}
}
