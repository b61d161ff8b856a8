package steps_test

import (
	"math"
	"strings"
	"testing"

	"overspill/api"
	"overspill/inbits"
	"overspill/outbits"
	"overspill/steps"
)

// table has the chapter's rows, and the step that each tells.
func table() map[string]int {
	return map[string]int{"00": -1, "01": -2, "10": 1, "11": 2}
}

// far are numbers below and above all quantisers, and all steps.
func far() []int {
	return []int{
		-32, -33, -64, -256, math.MinInt32 - 1, math.MinInt32, -1 << 32, -1<<32 + 1, math.MinInt + 2, math.MinInt + 1, math.MinInt,
		32, 33, 34, 63, 64, 65, 255, 256, 257, math.MaxInt32, 1 << 31, 1 << 32, 1<<32 + 1, 1<<32 + 2, math.MaxInt - 2, math.MaxInt - 1, math.MaxInt,
	}
}

// around are all numbers from some below -32 to some above 64, and those far away.
func around() []int {
	l := far()
	for n := -40; n <= 70; n++ {
		l = append(l, n)
	}
	return l
}

// clipped says by the chapter's words what becomes of n.
func clipped(n, low, high int) int {
	switch {
	case n < low:
		return low
	case n > high:
		return high
	}
	return n
}

// next says P20.2's Next over again.
func next(quant, step int) int {
	return clipped(clipped(quant, 1, 31)+clipped(step, -2, 2), 1, 31)
}

// between says P20.2's Between over again: of all steps that lead there, the one of
// the least amount.
func between(from, to int) (int, bool) {
	if from < 1 || from > 31 || to < 1 || to > 31 {
		return 0, false
	}
	if from == to {
		return 0, true
	}
	least, found := 0, false
	for step := -2; step <= 2; step++ {
		if next(from, step) == to && (!found || apart(step, 0) < apart(least, 0)) {
			least, found = step, true
		}
	}
	return least, found
}

// apart is how far a and b are from each other.
func apart(a, b int) int {
	return max(a, b) - min(a, b)
}

// text is the bits of rows, one behind the other, and 0 bits up to a byte's end.
func text(t *testing.T, rows ...string) string {
	t.Helper()
	s, err := outbits.Pack(strings.Join(rows, ""))
	if err != api.OK {
		t.Fatalf("Pack(%v): %d", rows, err)
	}
	return s
}

// reader stands at that bit of s.
func reader(t *testing.T, s string, at int) *inbits.Reader {
	t.Helper()
	r := inbits.New(s)
	if err := r.Seek(at); err != api.OK {
		t.Fatalf("Seek(%d) of % x: %d", at, s, err)
	}
	return r
}

// holdsTake asks for one step, and how far the reader goes; it reads on in the same
// text then.
func holdsTake(t *testing.T, what string, r *inbits.Reader, want int, wrong api.Errno, far int) {
	t.Helper()
	s, at := r.Text(), r.At()
	step, err := steps.Take(r)
	if step != want || err != wrong {
		t.Fatalf("%s: Take = %d, %d, want %d, %d", what, step, err, want, wrong)
	}
	if r.Text() != s || r.At() != at+far || r.Left() != 8*len(s)-at-far {
		t.Fatalf("%s: Take went from %d to %d, with %d bits left, want %d", what, at, r.At(), r.Left(), at+far)
	}
}

func holdsNext(t *testing.T, quant, step, want int) {
	t.Helper()
	if got := steps.Next(quant, step); got != want {
		t.Errorf("Next(%d, %d) = %d, want %d", quant, step, got, want)
	}
}

func holdsBetween(t *testing.T, from, to, want int, is bool) {
	t.Helper()
	if step, got := steps.Between(from, to); step != want || got != is {
		t.Errorf("Between(%d, %d) = %d, %v, want %d, %v", from, to, step, got, want, is)
	}
}

func TestExample(t *testing.T) {
	holdsNext(t, 30, 2, 31)
	holdsNext(t, 2, -2, 1)
	holdsBetween(t, 30, 31, 1, true)
	holdsBetween(t, 5, 3, -2, true)
	holdsBetween(t, 5, 8, 0, false)
}

func TestRow(t *testing.T) {
	for want, step := range table() {
		for range 2 {
			if row, is := steps.Row(step); row != want || !is {
				t.Errorf("Row(%d) = %q, %v, want %q", step, row, is, want)
			}
		}
	}
}

func TestNoRow(t *testing.T) {
	for _, step := range around() {
		if step != 0 && -2 <= step && step <= 2 {
			continue
		}
		if row, is := steps.Row(step); row != "" || is {
			t.Errorf("Row(%d) = %q, %v, want none", step, row, is)
		}
	}
}

// Each row, from each bit of a text on, with other bits ahead and behind, or none
// behind.
func TestTake(t *testing.T) {
	for row, step := range table() {
		for ahead := range 34 {
			for _, bit := range []string{"0", "1"} {
				for _, behind := range []string{"", "0", "1", "00", "01", "10", "11", "000000000", "111111111"} {
					s := text(t, strings.Repeat(bit, ahead), row, behind)
					holdsTake(t, row, reader(t, s, ahead), step, api.OK, 2)
				}
			}
		}
	}
}

// Each row as the last one of its text, behind which nothing is left.
func TestTakeAtTheEnd(t *testing.T) {
	for row, step := range table() {
		for bytes := 1; bytes <= 5; bytes++ {
			for _, bit := range []string{"0", "1"} {
				r := reader(t, text(t, strings.Repeat(bit, 8*bytes-2), row), 8*bytes-2)
				holdsTake(t, row, r, step, api.OK, 2)
				holdsTake(t, row+" and nothing", r, 0, api.ErrShort, 0)
			}
		}
	}
}

// All texts of one byte and some of two, at each bit: two bits that are there tell a
// step, one and none are too few, and the reader stays.
func TestTakeAtEachBit(t *testing.T) {
	for v := range 256 {
		for _, s := range []string{string([]byte{byte(v)}), string([]byte{byte(v), byte(v * 7)}), string([]byte{byte(v * 3), byte(v)})} {
			bits := outbits.Show(s)
			for at := range len(bits) + 1 {
				r := reader(t, s, at)
				if at > len(bits)-2 {
					holdsTake(t, bits[at:], r, 0, api.ErrShort, 0)
					holdsTake(t, bits[at:]+" again", r, 0, api.ErrShort, 0)
					continue
				}
				holdsTake(t, bits[at:], r, table()[bits[at:at+2]], api.OK, 2)
			}
		}
	}
}

func TestTakeOfTooFewBits(t *testing.T) {
	holdsTake(t, "a zero reader", &inbits.Reader{}, 0, api.ErrShort, 0)
	holdsTake(t, "an empty text", inbits.New(""), 0, api.ErrShort, 0)
	for _, s := range []string{"\x00", "\xff", "\x01", "\x00\x00", "\xff\xff\xff", "\xaa\x55\xaa\x55\xaa"} {
		holdsTake(t, "no bit", reader(t, s, 8*len(s)), 0, api.ErrShort, 0)
		holdsTake(t, "one bit", reader(t, s, 8*len(s)-1), 0, api.ErrShort, 0)
	}
}

func TestTakeOfNoReader(t *testing.T) {
	for range 2 {
		if step, err := steps.Take(nil); step != 0 || err != api.ErrArg {
			t.Errorf("Take(nil) = %d, %d, want ErrArg", step, err)
		}
	}
}

// Behind an error the reader reads on where it stood.
func TestReaderBehindErrors(t *testing.T) {
	for _, s := range []string{"\x00", "\x01", "\xff", "\xfe"} {
		r := reader(t, s, 7)
		for range 3 {
			holdsTake(t, "one bit", r, 0, api.ErrShort, 0)
		}
		if bit, err := r.Take(1); bit != int(s[0]&1) || err != api.OK {
			t.Errorf("behind an error the bit is %d, %d", bit, err)
		}
		holdsTake(t, "no bit", r, 0, api.ErrShort, 0)
		if err := r.Seek(5); err != api.OK {
			t.Fatal(err)
		}
		holdsTake(t, "three bits", r, table()[outbits.Show(s)[5:7]], api.OK, 2)
	}
}

// What Row tells is taken again, row behind row, from each bit of a byte on.
func TestTakenAgain(t *testing.T) {
	order := []int{-2, -1, 1, 2, 2, 1, -1, -2, 1, -2, 2, -1}
	for ahead := range 9 {
		w := outbits.New()
		w.Put(0, ahead)
		for n := range 300 {
			row, is := steps.Row(order[n%len(order)])
			if !is || w.Add(row) != api.OK {
				t.Fatalf("row %d is %q", n, row)
			}
		}
		r := reader(t, w.Text(), ahead)
		for n := range 300 {
			holdsTake(t, "row behind row", r, order[n%len(order)], api.OK, 2)
		}
		if r.At() != w.Len() {
			t.Errorf("%d bits were taken of %d", r.At(), w.Len())
		}
	}
}

// Some quantisers by each step, as they stand on paper.
func TestNextByHand(t *testing.T) {
	for _, c := range []struct {
		quant int
		want  [5]int // by -2, -1, 0, 1, 2
	}{
		{1, [5]int{1, 1, 1, 2, 3}}, {2, [5]int{1, 1, 2, 3, 4}}, {3, [5]int{1, 2, 3, 4, 5}}, {4, [5]int{2, 3, 4, 5, 6}},
		{16, [5]int{14, 15, 16, 17, 18}}, {28, [5]int{26, 27, 28, 29, 30}}, {29, [5]int{27, 28, 29, 30, 31}},
		{30, [5]int{28, 29, 30, 31, 31}}, {31, [5]int{29, 30, 31, 31, 31}},
		{0, [5]int{1, 1, 1, 2, 3}}, {-1, [5]int{1, 1, 1, 2, 3}}, {-2, [5]int{1, 1, 1, 2, 3}}, {math.MinInt, [5]int{1, 1, 1, 2, 3}},
		{32, [5]int{29, 30, 31, 31, 31}}, {33, [5]int{29, 30, 31, 31, 31}}, {math.MaxInt, [5]int{29, 30, 31, 31, 31}},
	} {
		for i, want := range c.want {
			holdsNext(t, c.quant, i-2, want)
		}
		for _, less := range []int{-3, -4, -31, -32, -1 << 32, math.MinInt + 1, math.MinInt} {
			holdsNext(t, c.quant, less, c.want[0])
		}
		for _, more := range []int{3, 4, 31, 32, 1 << 32, math.MaxInt - 1, math.MaxInt} {
			holdsNext(t, c.quant, more, c.want[4])
		}
	}
}

// Every quantiser by every step, and those that are none, against the chapter's
// words.
func TestNext(t *testing.T) {
	for _, quant := range around() {
		for _, step := range around() {
			holdsNext(t, quant, step, next(quant, step))
		}
	}
}

func TestNextAtTheEnds(t *testing.T) {
	holdsNext(t, math.MinInt, math.MinInt, 1)
	holdsNext(t, math.MinInt, math.MaxInt, 3)
	holdsNext(t, math.MaxInt, math.MinInt, 29)
	holdsNext(t, math.MaxInt, math.MaxInt, 31)
	holdsNext(t, math.MinInt, -1, 1)
	holdsNext(t, math.MaxInt, 1, 31)
	holdsNext(t, -1, math.MinInt, 1)
	holdsNext(t, 1, math.MaxInt, 3)
}

// Every two quantisers: there is a step, if they are no more than 2 apart, and it is
// by how much the second one is more.
func TestBetween(t *testing.T) {
	for from := 1; from <= 31; from++ {
		for to := 1; to <= 31; to++ {
			if apart(from, to) <= 2 {
				holdsBetween(t, from, to, to-from, true)
			} else {
				holdsBetween(t, from, to, 0, false)
			}
			want, is := between(from, to)
			holdsBetween(t, from, to, want, is)
		}
	}
}

// Where more than one step leads to an end, the least amount counts; and 0 where
// both are the same.
func TestBetweenTakesTheLeastAmount(t *testing.T) {
	holdsBetween(t, 30, 31, 1, true)
	holdsBetween(t, 2, 1, -1, true)
	holdsBetween(t, 31, 31, 0, true)
	holdsBetween(t, 1, 1, 0, true)
	holdsBetween(t, 29, 31, 2, true)
	holdsBetween(t, 3, 1, -2, true)
	holdsBetween(t, 28, 31, 0, false)
	holdsBetween(t, 4, 1, 0, false)
	for quant := 1; quant <= 31; quant++ {
		holdsBetween(t, quant, quant, 0, true)
	}
}

// Where one of both, or each, is no quantiser, there is no step, not even where both
// are the same.
func TestBetweenNoQuantisers(t *testing.T) {
	var none []int
	for _, n := range around() {
		if n < 1 || n > 31 {
			none = append(none, n)
		}
	}
	for _, n := range none {
		for quant := 1; quant <= 31; quant++ {
			holdsBetween(t, n, quant, 0, false)
			holdsBetween(t, quant, n, 0, false)
		}
		for _, m := range none {
			holdsBetween(t, n, m, 0, false)
		}
	}
}

// P20.3: Next of what Between tells is to, and it is told of all that Next leads to.
func TestNextOfBetween(t *testing.T) {
	told := 0
	for _, from := range around() {
		for _, to := range around() {
			step, is := steps.Between(from, to)
			if !is {
				continue
			}
			told++
			if step < -2 || step > 2 {
				t.Errorf("Between(%d, %d) = %d", from, to, step)
			}
			holdsNext(t, from, step, to)
		}
	}
	// 31 lead to the same one, 30 each way by 1, 29 each way by 2.
	if told != 31+2*30+2*29 {
		t.Errorf("there are %d steps", told)
	}
	for quant := 1; quant <= 31; quant++ {
		for step := -2; step <= 2; step++ {
			to := steps.Next(quant, step)
			holdsBetween(t, quant, to, to-quant, true)
		}
	}
}

// P20.3: by one step two quantisers come no further apart, nor change their order.
func TestNoFurtherApart(t *testing.T) {
	for a := -5; a <= 37; a++ {
		for b := a; b <= 37; b++ {
			for _, step := range []int{math.MinInt, -3, -2, -1, 0, 1, 2, 3, math.MaxInt} {
				c, d := steps.Next(a, step), steps.Next(b, step)
				if c > d || d-c > b-a || c < 1 || d > 31 {
					t.Errorf("by %d %d and %d become %d and %d", step, a, b, c, d)
				}
			}
		}
	}
}

// P20.3: brought up to a floor, there is a step between a quantiser and its Next.
func TestAboveFloors(t *testing.T) {
	for floor := 1; floor <= 31; floor++ {
		for quant := 1; quant <= 31; quant++ {
			for step := -2; step <= 2; step++ {
				from, to := max(quant, floor), max(steps.Next(quant, step), floor)
				between, is := steps.Between(from, to)
				if !is || steps.Next(from, between) != to || apart(between, 0) > apart(step, 0) {
					t.Errorf("floor %d: from %d to %d the step is %d, %v", floor, from, to, between, is)
				}
			}
		}
	}
}
