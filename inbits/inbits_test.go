package inbits_test

import (
	"math"
	"strconv"
	"strings"
	"testing"

	"overspill/api"
	"overspill/inbits"
	"overspill/outbits"
)

// texts are of some bytes each: noughts, ones, and mixed.
func texts() []string {
	return []string{
		"", "\x00", "\xff", "\xa0", "\x01", "\x80", "\x00\x00", "\x00\x01", "\xff\xff\xff\xff\xff", "\x00\x00\x00\x00\x00\x00",
		"\xa0\x05\x5a\xc3\x96", "\x12\x34\x56\x78\x9a\xbc\xde\xf0\x01", "\x80\x00\x00\x00\x01", "é\xc3", "0101",
	}
}

// wrongWidths are numbers of bits that can't be taken of any text.
func wrongWidths() []int {
	return []int{-1, -2, -8, -32, -64, math.MinInt, math.MinInt + 1, math.MinInt32, 33, 34, 40, 63, 64, 65, 1 << 32, math.MaxInt32, math.MaxInt - 1, math.MaxInt}
}

// reader stands at that bit of s.
func reader(t *testing.T, s string, at int) *inbits.Reader {
	t.Helper()
	r := inbits.New(s)
	if err := r.Seek(at); err != api.OK {
		t.Fatalf("Seek(%d) of % x: %d", at, s, err)
	}
	return r
}

// stands asks whether r reads s and stands at that bit.
func stands(t *testing.T, what string, r *inbits.Reader, s string, at int) {
	t.Helper()
	if r.At() != at || r.Left() != 8*len(s)-at || r.Text() != s {
		t.Fatalf("%s: At %d, Left %d, Text % x, want %d, %d, % x", what, r.At(), r.Left(), r.Text(), at, 8*len(s)-at, s)
	}
}

// number is what a row tells.
func number(t *testing.T, row string) int {
	t.Helper()
	if row == "" {
		return 0
	}
	v, err := strconv.ParseInt(row, 2, 64)
	if err != nil {
		t.Fatal(err)
	}
	return int(v)
}

// one has the 1 at that bit alone, of as many bytes.
func one(bytes, bit int) string {
	s := make([]byte, bytes)
	s[bit/8] = 0x80 >> (bit % 8)
	return string(s)
}

func TestNew(t *testing.T) {
	for _, s := range texts() {
		stands(t, "New", inbits.New(s), s, 0)
	}
	a, b := inbits.New("\xff"), inbits.New("\xff")
	a.Take(3)
	stands(t, "another reader", b, "\xff", 0)
}

func TestExample(t *testing.T) {
	r := inbits.New("\xa0")
	if v, err := r.Take(3); v != 5 || err != api.OK || r.At() != 3 || r.Left() != 5 {
		t.Errorf("Take(3) = %d, %d, At %d, Left %d", v, err, r.At(), r.Left())
	}
	if n, err := r.Fill(); n != 5 || err != api.OK || r.At() != 8 || r.Left() != 0 {
		t.Errorf("Fill = %d, %d, At %d, Left %d", n, err, r.At(), r.Left())
	}
	if v, err := r.Take(1); v != 0 || err != api.ErrShort {
		t.Errorf("Take(1) = %d, %d, want ErrShort", v, err)
	}
	stands(t, "Take(1)", r, "\xa0", 8)
}

// All places of all texts, and all widths from 0 to 32.
func TestTakeAndPeek(t *testing.T) {
	for _, s := range texts() {
		bits := outbits.Show(s)
		for at := range len(bits) + 1 {
			for n := range 33 {
				want, wrong, behind := 0, api.ErrShort, at
				if n <= len(bits)-at {
					want, wrong, behind = number(t, bits[at:at+n]), api.OK, at+n
				}
				r := reader(t, s, at)
				if v, err := r.Peek(n); v != want || err != wrong {
					t.Fatalf("Peek(%d) at %d of % x = %d, %d, want %d, %d", n, at, s, v, err, want, wrong)
				}
				stands(t, "Peek", r, s, at)
				if v, err := r.Take(n); v != want || err != wrong {
					t.Fatalf("Take(%d) at %d of % x = %d, %d, want %d, %d", n, at, s, v, err, want, wrong)
				}
				stands(t, "Take", r, s, behind)
			}
		}
	}
}

func TestTakeOfAllThatIsLeft(t *testing.T) {
	for left := 1; left <= 32; left++ {
		s := "\xff\xff\xff\xff"
		r := reader(t, s, 32-left)
		if left < 32 {
			if v, err := r.Take(left + 1); v != 0 || err != api.ErrShort {
				t.Errorf("Take of one bit more than %d = %d, %d, want ErrShort", left, v, err)
			}
			stands(t, "Take of one bit more", r, s, 32-left)
		}
		if v, err := r.Take(left); v != 1<<left-1 || err != api.OK {
			t.Errorf("Take of all %d bits = %d, %d", left, v, err)
		}
		stands(t, "Take of all bits", r, s, 32)
		if v, err := r.Take(0); v != 0 || err != api.OK {
			t.Errorf("Take of no bits at the end = %d, %d", v, err)
		}
		if v, err := r.Peek(1); v != 0 || err != api.ErrShort {
			t.Errorf("Peek(1) at the end = %d, %d, want ErrShort", v, err)
		}
		stands(t, "the end", r, s, 32)
	}
}

// A wrong width is told ahead of there being too few bits.
func TestWrongWidths(t *testing.T) {
	for _, s := range texts() {
		for at := range 8*len(s) + 1 {
			r := reader(t, s, at)
			for _, n := range wrongWidths() {
				if v, err := r.Take(n); v != 0 || err != api.ErrArg {
					t.Fatalf("Take(%d) at %d of % x = %d, %d, want ErrArg", n, at, s, v, err)
				}
				if v, err := r.Peek(n); v != 0 || err != api.ErrArg {
					t.Fatalf("Peek(%d) at %d of % x = %d, %d, want ErrArg", n, at, s, v, err)
				}
				stands(t, "a wrong width", r, s, at)
			}
		}
	}
}

func TestFill(t *testing.T) {
	for _, s := range texts() {
		bits := outbits.Show(s)
		for at := range len(bits) + 1 {
			want, wrong := (8-at%8)%8, api.OK
			if strings.Contains(bits[at:at+want], "1") {
				want, wrong = 0, api.ErrForm
			}
			r := reader(t, s, at)
			if n, err := r.Fill(); n != want || err != wrong {
				t.Fatalf("Fill at %d of % x = %d, %d, want %d, %d", at, s, n, err, want, wrong)
			}
			stands(t, "Fill", r, s, at+want)
		}
	}
}

// A 1 ahead of the bits up to the byte's end, or behind them, is none of them.
func TestFillBesideOneBit(t *testing.T) {
	for bit := range 24 {
		s := one(3, bit)
		for at := 8; at <= 16; at++ {
			n, err := reader(t, s, at).Fill()
			wrong := at > 8 && bit >= at && bit < 16
			if wrong && (n != 0 || err != api.ErrForm) {
				t.Errorf("Fill at %d, where bit %d is 1 = %d, %d, want ErrForm", at, bit, n, err)
			}
			if !wrong && (n != (16-at)%8 || err != api.OK) {
				t.Errorf("Fill at %d, where bit %d is 1 = %d, %d, want %d", at, bit, n, err, (16-at)%8)
			}
		}
	}
}

func TestFillStaysAtOnes(t *testing.T) {
	r := reader(t, "\x00\x41", 9)
	if n, err := r.Fill(); n != 0 || err != api.ErrForm {
		t.Errorf("Fill = %d, %d, want ErrForm", n, err)
	}
	stands(t, "Fill", r, "\x00\x41", 9)
	if v, err := r.Take(7); v != 0x41 || err != api.OK {
		t.Errorf("Take(7) behind a wrong Fill = %d, %d", v, err)
	}
	if n, err := r.Fill(); n != 0 || err != api.OK {
		t.Errorf("Fill at the end = %d, %d", n, err)
	}
	stands(t, "Fill at the end", r, "\x00\x41", 16)
}

func TestSeek(t *testing.T) {
	for _, s := range texts() {
		bits := outbits.Show(s)
		for from := range len(bits) + 1 {
			r := reader(t, s, from)
			for at := len(bits); at >= 0; at-- {
				if err := r.Seek(at); err != api.OK {
					t.Fatalf("Seek(%d) of % x: %d", at, s, err)
				}
				stands(t, "Seek", r, s, at)
			}
		}
		r := reader(t, s, len(bits))
		if len(bits) == 0 {
			continue
		}
		if _, err := r.Take(1); err != api.ErrShort {
			t.Errorf("Take(1) behind the last bit of % x: %d, want ErrShort", s, err)
		}
		r.Seek(0)
		if v, err := r.Take(1); v != number(t, bits[:1]) || err != api.OK {
			t.Errorf("Take(1) at the first bit of % x = %d, %d", s, v, err)
		}
	}
}

func TestSeekOfWrongPlaces(t *testing.T) {
	for _, s := range texts() {
		end := 8 * len(s)
		for at := range end + 1 {
			r := reader(t, s, at)
			for _, wrong := range []int{-1, -8, math.MinInt, math.MinInt + 1, end + 1, end + 2, end + 8, 8*end + 9, math.MaxInt32, math.MaxInt - 1, math.MaxInt} {
				if err := r.Seek(wrong); err != api.ErrArg {
					t.Fatalf("Seek(%d) of % x: %d, want ErrArg", wrong, s, err)
				}
				stands(t, "Seek of a wrong place", r, s, at)
			}
		}
	}
}

func TestZeroReader(t *testing.T) {
	var r inbits.Reader
	stands(t, "a zero reader", &r, "", 0)
	if v, err := r.Take(0); v != 0 || err != api.OK {
		t.Errorf("Take(0) = %d, %d", v, err)
	}
	if v, err := r.Peek(0); v != 0 || err != api.OK {
		t.Errorf("Peek(0) = %d, %d", v, err)
	}
	for n := 1; n <= 32; n++ {
		if v, err := r.Take(n); v != 0 || err != api.ErrShort {
			t.Errorf("Take(%d) = %d, %d, want ErrShort", n, v, err)
		}
		if v, err := r.Peek(n); v != 0 || err != api.ErrShort {
			t.Errorf("Peek(%d) = %d, %d, want ErrShort", n, v, err)
		}
	}
	for _, n := range wrongWidths() {
		if v, err := r.Take(n); v != 0 || err != api.ErrArg {
			t.Errorf("Take(%d) = %d, %d, want ErrArg", n, v, err)
		}
	}
	if n, err := r.Fill(); n != 0 || err != api.OK {
		t.Errorf("Fill = %d, %d", n, err)
	}
	if a, b, c := r.Seek(0), r.Seek(1), r.Seek(-1); a != api.OK || b != api.ErrArg || c != api.ErrArg {
		t.Errorf("Seek of 0, 1, -1: %d, %d, %d", a, b, c)
	}
	stands(t, "a zero reader that was asked", &r, "", 0)
}

func TestNilReader(t *testing.T) {
	var r *inbits.Reader
	for _, n := range append(wrongWidths(), 0, 1, 8, 31, 32) {
		if v, err := r.Take(n); v != 0 || err != api.ErrArg {
			t.Errorf("Take(%d) of nil = %d, %d, want ErrArg", n, v, err)
		}
		if v, err := r.Peek(n); v != 0 || err != api.ErrArg {
			t.Errorf("Peek(%d) of nil = %d, %d, want ErrArg", n, v, err)
		}
		if err := r.Seek(n); err != api.ErrArg {
			t.Errorf("Seek(%d) of nil: %d, want ErrArg", n, err)
		}
	}
	if n, err := r.Fill(); n != 0 || err != api.ErrArg {
		t.Errorf("Fill of nil = %d, %d, want ErrArg", n, err)
	}
	if r.At() != 0 || r.Left() != 0 || r.Text() != "" {
		t.Errorf("At, Left and Text of nil: %d, %d, %q", r.At(), r.Left(), r.Text())
	}
}

// R4: what is done with a copy of a reader is not to be seen in the other one.
func TestCopiesGoTheirOwnWays(t *testing.T) {
	s := "\xa0\x05\xff"
	r := reader(t, s, 5)
	other := *r
	other.Take(9)
	stands(t, "the reader", r, s, 5)
	r.Seek(1)
	stands(t, "the copy", &other, s, 14)
}

// P3.3: numbers that a writer was given are taken again by the same widths,
// and so is where it was filled up.
func TestNumbersThatWereWritten(t *testing.T) {
	type item struct{ v, n int }
	w := outbits.New()
	var l []item
	v := 1
	for step := range 4000 {
		v = (v*1103515245 + 12345) & (1<<31 - 1)
		n := v >> 8 % 33
		it := item{(v<<20 ^ v>>3) & (1<<n - 1), n}
		if step%10 == 9 {
			it = item{-1, w.Fill()}
		} else if err := w.Put(it.v, it.n); err != api.OK {
			t.Fatalf("Put(%d, %d): %d", it.v, it.n, err)
		}
		l = append(l, it)
	}
	r := inbits.New(w.Text())
	at := 0
	for _, it := range l {
		if it.v < 0 {
			if n, err := r.Fill(); n != it.n || err != api.OK {
				t.Fatalf("Fill at %d = %d, %d, want %d", at, n, err, it.n)
			}
		} else if v, err := r.Take(it.n); v != it.v || err != api.OK {
			t.Fatalf("Take(%d) at %d = %d, %d, want %d", it.n, at, v, err, it.v)
		}
		at += it.n
		stands(t, "what was written", r, w.Text(), at)
	}
	if r.Left() > 7 {
		t.Errorf("%d bits are left", r.Left())
	}
}

func TestNumbersOfAllWidths(t *testing.T) {
	for ahead := range 8 {
		for n := range 33 {
			for _, v := range []int{0, 1, 1<<n - 1, 1 << max(n-1, 0), 0x2aaaaaaaa, 0x155555555} {
				v &= 1<<n - 1
				w := outbits.New()
				w.Put(1<<ahead-1, ahead)
				if err := w.Put(v, n); err != api.OK {
					t.Fatalf("Put(%d, %d): %d", v, n, err)
				}
				w.Add("11111111")
				r := inbits.New(w.Text())
				if a, err := r.Take(ahead); a != 1<<ahead-1 || err != api.OK {
					t.Errorf("Take(%d) = %d, %d", ahead, a, err)
				}
				if got, err := r.Take(n); got != v || err != api.OK {
					t.Errorf("Take(%d) behind %d bits = %d, %d, want %d", n, ahead, got, err, v)
				}
			}
		}
	}
}
