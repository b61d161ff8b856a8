package cellin_test

import (
	"math"
	"math/rand"
	"reflect"
	"slices"
	"strings"
	"testing"

	"overspill/api"
	"overspill/blocks"
	"overspill/cbpy"
	"overspill/cellin"
	"overspill/inbits"
	"overspill/mcbpc"
	"overspill/mvd"
	"overspill/outbits"
	"overspill/steps"
	"overspill/tcoef"
)

const (
	stuffRow  = "000000001"
	skipped   = "1"
	noKind    = "000000000"
	noPattern = "00000"
	noEvent   = "000000000"
	noDiff    = "00000000000"
)

type list = []api.Event

// sheets are the two kinds of them: inter, and not.
func sheets() []bool {
	return []bool{false, true}
}

// kinds are those that a cell may have in a sheet.
func kinds(inter bool) []int {
	if inter {
		return []int{api.Inter, api.InterQ, api.Intra, api.IntraQ}
	}
	return []int{api.Intra, api.IntraQ}
}

func isIntra(kind int) bool {
	return kind == api.Intra || kind == api.IntraQ
}

func hasStep(kind int) bool {
	return kind == api.InterQ || kind == api.IntraQ
}

// ahead are bits that stand ahead of a cell.
func ahead(n int) string {
	return "1101001011100"[:n]
}

// behinds are bits that stand behind a cell: of other cells, or of none.
func behinds() []string {
	return []string{"", "0", "1", "00000000", "11111111", "100", "0000000000000000", "0111111"}
}

// text is the bits of rows, one behind the other, and 0 bits up to a byte's end.
func text(t *testing.T, rows ...string) string {
	t.Helper()
	s, err := outbits.Pack(strings.Join(rows, ""))
	if err != api.OK {
		t.Fatalf("Pack(%v): %d", rows, err)
	}
	return s
}

// reader stands at that bit of s.
func reader(t *testing.T, s string, at int) *inbits.Reader {
	t.Helper()
	r := inbits.New(s)
	if err := r.Seek(at); err != api.OK {
		t.Fatalf("Seek(%d) of % x: %d", at, s, err)
	}
	return r
}

// ending stands ahead of these bits, which are the last ones of its text; 1 bits
// stand ahead of them.
func ending(t *testing.T, bits string) *inbits.Reader {
	t.Helper()
	ones := 8 + (8-len(bits)%8)%8
	return reader(t, text(t, strings.Repeat("1", ones), bits), ones)
}

// row is that of a part, if it has one.
func row(t *testing.T, bits string, is bool) string {
	t.Helper()
	if !is {
		t.Fatal("a part has no row")
	}
	return bits
}

func mcbpcRow(t *testing.T, inter bool, kind, chroma int) string {
	t.Helper()
	bits, is := mcbpc.Row(inter, kind, chroma)
	return row(t, bits, is)
}

func cbpyRow(t *testing.T, intra bool, pattern int) string {
	t.Helper()
	bits, is := cbpy.Row(intra, pattern)
	return row(t, bits, is)
}

func stepsRow(t *testing.T, step int) string {
	t.Helper()
	bits, is := steps.Row(step)
	return row(t, bits, is)
}

func mvdRow(t *testing.T, d int) string {
	t.Helper()
	bits, is := mvd.Row(d)
	return row(t, bits, is)
}

func eventRows(t *testing.T, l ...api.Event) string {
	t.Helper()
	told := ""
	for _, e := range l {
		bits, is := tcoef.Row(e)
		told += row(t, bits, is)
	}
	return told
}

// begins is what stands ahead of a kind, that many times Stuff and all.
func begins(inter bool, stuff int) string {
	if inter {
		return strings.Repeat("0"+stuffRow, stuff) + "0"
	}
	return strings.Repeat(stuffRow, stuff)
}

// coded is which of a cell's blocks have events: 32 for the first one, 1 for the
// last one.
func coded(c api.Cell) int {
	told := 0
	for _, l := range c.Events {
		told *= 2
		if len(l) > 0 {
			told++
		}
	}
	return told
}

// head is what a cell that is not skipped is told as, up to its vector, which has
// that difference.
func head(t *testing.T, inter bool, c api.Cell, diff [2]int) string {
	t.Helper()
	bits := begins(inter, c.Stuff) + mcbpcRow(t, inter, c.Kind, coded(c)%4) + cbpyRow(t, isIntra(c.Kind), coded(c)/4)
	if hasStep(c.Kind) {
		bits += stepsRow(t, c.Step)
	}
	if !isIntra(c.Kind) {
		bits += mvdRow(t, diff[0]) + mvdRow(t, diff[1])
	}
	return bits
}

// block is what one of its blocks is told as.
func block(t *testing.T, c api.Cell, i int) string {
	t.Helper()
	w := outbits.New()
	if err := blocks.Put(w, isIntra(c.Kind), c.Dc[i], c.Events[i]); err != api.OK {
		t.Fatalf("Put of block %d of %v: %d", i, c, err)
	}
	return outbits.Show(w.Text())[:w.Len()]
}

// told is what a cell is told as, whose vector has that difference.
func told(t *testing.T, inter bool, c api.Cell, diff [2]int) string {
	t.Helper()
	if c.Skip {
		return begins(inter, c.Stuff)[:len(begins(inter, c.Stuff))-1] + skipped
	}
	bits := head(t, inter, c, diff)
	for i := range c.Dc {
		bits += block(t, c, i)
	}
	return bits
}

// some are events, other ones for each n.
func some(n int) list {
	return []list{
		{{Last: true, Level: 1}},
		{{Level: -1}, {Last: true, Run: 2, Level: 1}},
		{{Last: true, Run: 40, Level: -3}},
		{{Run: 1, Level: 100}, {Level: 2}, {Last: true, Level: -1}},
		{{Last: true, Run: 62, Level: 127}},
		{{Level: 1}, {Level: -2}, {Level: 3}, {Last: true, Run: 5, Level: -127}},
		{{Last: true, Run: 7, Level: -1}},
	}[n%7]
}

// cell is one of that kind, with a step, if it has one; these of its blocks are
// coded.
func cell(kind, which int) api.Cell {
	c := api.Cell{Kind: kind}
	if hasStep(kind) {
		c.Step = []int{-2, -1, 1, 2}[which%4]
	}
	for i := range c.Dc {
		if isIntra(kind) {
			c.Dc[i] = 1 + (37*i+which+5*kind)%254
		}
		if which>>(5-i)&1 == 1 {
			c.Events[i] = some(i + which)
		}
	}
	return c
}

// equal asks field by field, and not by what is asked here; nil and empty lists are
// the same.
func equal(a, b api.Cell) bool {
	for i := range a.Events {
		if len(a.Events[i]) == 0 && len(b.Events[i]) == 0 {
			a.Events[i], b.Events[i] = nil, nil
		}
	}
	return reflect.DeepEqual(a, b)
}

// take asks for one cell, and how far the reader goes; it reads on in the same text
// then.
func take(t *testing.T, what string, r *inbits.Reader, inter bool, pred [2]int, want api.Cell, wrong api.Errno, far int) {
	t.Helper()
	s, at := r.Text(), r.At()
	c, err := cellin.Take(r, inter, pred)
	if !equal(c, want) || err != wrong {
		t.Fatalf("%s: Take(%v, %v) = %v, %d, want %v, %d", what, inter, pred, c, err, want, wrong)
	}
	if r.Text() != s || r.At() != at+far || r.Left() != 8*len(s)-at-far {
		t.Fatalf("%s: Take(%v, %v) went from %d to %d, with %d bits left, want %d", what, inter, pred, at, r.At(), r.Left(), at+far)
	}
}

// took asks for a cell of these bits, from each bit of a byte on, whatever stands
// behind, and at the text's end.
func took(t *testing.T, bits string, inter bool, pred [2]int, want api.Cell) {
	t.Helper()
	for n := range 9 {
		for _, behind := range behinds() {
			r := reader(t, text(t, ahead(n), bits, behind), n)
			take(t, bits, r, inter, pred, want, api.OK, len(bits))
		}
	}
	take(t, bits+" at the text's end", ending(t, bits), inter, pred, want, api.OK, len(bits))
}

// noTake asks for the same of bits that are wrong, whatever stands behind them.
func noTake(t *testing.T, bits string, inter bool, wrong api.Errno) {
	t.Helper()
	for n := range 9 {
		for _, behind := range behinds() {
			r := reader(t, text(t, ahead(n), bits, behind), n)
			take(t, bits+behind, r, inter, [2]int{3, -4}, api.Cell{}, wrong, 0)
		}
	}
	r := ending(t, bits)
	take(t, bits+" at the text's end", r, inter, [2]int{}, api.Cell{}, wrong, 0)
	take(t, bits+" again", r, inter, [2]int{}, api.Cell{}, wrong, 0)
}

// short asks for the same of all bits that these begin with, where the text ends
// behind them.
func short(t *testing.T, bits string, inter bool) {
	t.Helper()
	for n := range bits {
		take(t, bits[:n], ending(t, bits[:n]), inter, [2]int{-1, 1}, api.Cell{}, api.ErrShort, 0)
	}
}

func TestExample(t *testing.T) {
	took(t, "1", true, [2]int{5, -7}, api.Cell{Skip: true})
	took(t, "0"+"1"+"11"+"1"+"1", true, [2]int{5, -7}, api.Cell{Mv: [2]int{5, -7}})
	took(t, "0"+"1"+"11"+"1"+"1", true, [2]int{-32, 31}, api.Cell{Mv: [2]int{-32, 31}})
}

// Some cells, as they stand on paper.
func TestOnPaper(t *testing.T) {
	none := [2]int{}
	dc := [6]int{1, 2, 128, 254, 16, 129}
	dcs := "00000001" + "00000010" + "11111111" + "11111110" + "00010000" + "10000001"
	took(t, "1"+"0011"+dcs, false, none, api.Cell{Kind: api.Intra, Dc: dc})
	took(t, "0001"+"0011"+"01"+dcs, false, none, api.Cell{Kind: api.IntraQ, Step: -2, Dc: dc})
	took(t, "0"+"00011"+"0011"+dcs, true, [2]int{9, 9}, api.Cell{Kind: api.Intra, Dc: dc})
	took(t, "0"+"000100"+"0011"+"11"+dcs, true, [2]int{9, 9}, api.Cell{Kind: api.IntraQ, Step: 2, Dc: dc})
	took(t, "0"+"011"+"11"+"00"+"0010"+"1", true, [2]int{1, 1}, api.Cell{Kind: api.InterQ, Step: -1, Mv: [2]int{3, 1}})
	// Blocks 0 and 5 are coded.
	took(t, "0"+"0011"+"1011"+"1"+"011"+"01110"+"01111", true, [2]int{},
		api.Cell{Mv: [2]int{0, -1}, Events: [6][]api.Event{0: {{Last: true, Level: 1}}, 5: {{Last: true, Level: -1}}}})
	// Block 4 alone, in a sheet that is not inter.
	took(t, "010"+"0011"+strings.Repeat("00000111", 5)+"01110"+"00000111", false, none,
		api.Cell{Kind: api.Intra, Dc: [6]int{7, 7, 7, 7, 7, 7}, Events: [6][]api.Event{4: {{Last: true, Level: 1}}}})
	took(t, "0"+stuffRow+"0"+stuffRow+"1", true, none, api.Cell{Stuff: 2, Skip: true})
}

// A cell of each kind, in each sheet that may have it, with each choice of its
// blocks coded.
func TestKindsAndBlocks(t *testing.T) {
	for _, inter := range sheets() {
		for _, kind := range kinds(inter) {
			for which := range 64 {
				c := cell(kind, which)
				diff := [2]int{which%64 - 32, (7*which)%64 - 32}
				if !isIntra(kind) {
					c.Mv = diff
				}
				bits := told(t, inter, c, diff)
				for n := range 8 {
					for _, behind := range []string{"", "1", "00000000000", "1111111"} {
						r := reader(t, text(t, ahead(n), bits, behind), n)
						take(t, bits, r, inter, [2]int{}, c, api.OK, len(bits))
					}
				}
				take(t, bits, ending(t, bits), inter, [2]int{}, c, api.OK, len(bits))
			}
		}
	}
}

// Each block alone, and all but one: what is told of it stands at its number.
func TestBlocksInOrder(t *testing.T) {
	for _, inter := range sheets() {
		for _, kind := range kinds(inter) {
			for i := range 6 {
				for _, which := range []int{1 << (5 - i), 63 - 1<<(5-i), 63} {
					c := cell(kind, which)
					took(t, told(t, inter, c, [2]int{}), inter, [2]int{}, c)
				}
			}
		}
	}
}

// Dc is told of intra cells alone, each number from 1 to 254 at each block.
func TestDc(t *testing.T) {
	for _, inter := range sheets() {
		for _, kind := range kinds(inter) {
			c := cell(kind, 0)
			if !isIntra(kind) {
				took(t, head(t, inter, c, [2]int{}), inter, [2]int{}, c)
				continue
			}
			for dc := 1; dc <= 254; dc++ {
				c.Dc[dc%6], c.Dc[(dc+1)%6] = dc, 255-dc
				bits := told(t, inter, c, [2]int{})
				take(t, bits, ending(t, bits), inter, [2]int{}, c, api.OK, len(bits))
			}
		}
	}
}

// Events' levels are numbered from 0 on, and from 1 on in intra cells, so that those
// have one less.
func TestEvents(t *testing.T) {
	for _, inter := range sheets() {
		for _, kind := range kinds(inter) {
			for i := range 6 {
				c := cell(kind, 1<<(5-i))
				for run := range 64 {
					c.Events[i] = list{{Last: true, Run: run, Level: 2}}
					if !isIntra(kind) || run <= 62 {
						bits := told(t, inter, c, [2]int{})
						take(t, bits, ending(t, bits), inter, [2]int{}, c, api.OK, len(bits))
					}
				}
			}
		}
	}
}

// A skipped cell is one bit, whatever stands behind it, and whatever is foretold;
// the next one is read behind that bit.
func TestSkip(t *testing.T) {
	for _, pred := range [][2]int{{}, {1, 2}, {31, -32}, {math.MaxInt, math.MinInt}} {
		took(t, skipped, true, pred, api.Cell{Skip: true})
	}
	r := reader(t, text(t, "1111"+"0"), 0)
	for range 4 {
		take(t, "skipped", r, true, [2]int{}, api.Cell{Skip: true}, api.OK, 1)
	}
	take(t, "not skipped", r, true, [2]int{}, api.Cell{}, api.ErrShort, 0)
	// In a sheet that is not inter no bit says so: it begins with the kind.
	c := cell(api.Intra, 0)
	bits := told(t, false, c, [2]int{})
	if bits[0] != '1' {
		t.Fatalf("the cell begins with %q", bits[:1])
	}
	took(t, bits, false, [2]int{}, c)
}

// Stuff stands ahead of a skipped cell, or of another one, up to 64 times.
func TestStuff(t *testing.T) {
	for stuff := range 65 {
		for _, inter := range sheets() {
			for _, kind := range kinds(inter) {
				c := cell(kind, 5)
				c.Stuff = stuff
				bits := told(t, inter, c, [2]int{})
				take(t, bits, ending(t, bits), inter, [2]int{}, c, api.OK, len(bits))
			}
		}
		c := api.Cell{Stuff: stuff, Skip: true}
		bits := told(t, true, c, [2]int{})
		take(t, bits, ending(t, bits), true, [2]int{4, 4}, c, api.OK, len(bits))
	}
	for _, stuff := range []int{0, 1, 2, 63, 64} {
		took(t, begins(true, stuff)[:10*stuff]+skipped, true, [2]int{4, 4}, api.Cell{Stuff: stuff, Skip: true})
		for _, inter := range sheets() {
			c := cell(api.IntraQ, 9)
			c.Stuff = stuff
			took(t, told(t, inter, c, [2]int{}), inter, [2]int{4, 4}, c)
		}
	}
}

// The 65th time is one too many, whatever stands behind it, and ahead of all that is
// wrong there.
func TestTooMuchStuff(t *testing.T) {
	for _, stuff := range []int{65, 66, 128, 1000} {
		for _, inter := range sheets() {
			bits := begins(inter, stuff)
			if inter {
				bits = bits[:len(bits)-1]
			}
			for _, behind := range []string{"", skipped, noKind, "010", "1", "0", "01111"} {
				take(t, "too much", ending(t, bits+behind), inter, [2]int{}, api.Cell{}, api.ErrLong, 0)
			}
			for n := range 9 {
				r := reader(t, text(t, ahead(n), bits), n)
				take(t, "too much", r, inter, [2]int{}, api.Cell{}, api.ErrLong, 0)
				// From the second one on, 64 are left.
				if stuff == 65 {
					r = reader(t, text(t, ahead(n), bits+"1"), n+len(bits)/65)
					if inter {
						take(t, "64 times", r, inter, [2]int{}, api.Cell{Stuff: 64, Skip: true}, api.OK, 641)
					}
				}
			}
		}
	}
}

// Behind Stuff a sheet that is inter tells again whether the cell is skipped, and all
// that may be wrong.
func TestWrongBehindStuff(t *testing.T) {
	for _, stuff := range []int{1, 2, 63, 64} {
		for _, inter := range sheets() {
			bits := begins(inter, stuff)
			noTake(t, bits+noKind, inter, api.ErrCode)
			if inter {
				noTake(t, bits+"010", inter, api.ErrMode)
				take(t, "no bit", ending(t, bits[:len(bits)-1]), inter, [2]int{}, api.Cell{}, api.ErrShort, 0)
			}
			take(t, "no kind", ending(t, bits), inter, [2]int{}, api.Cell{}, api.ErrShort, 0)
			noTake(t, bits+mcbpcRow(t, inter, api.IntraQ, 1)+noPattern, inter, api.ErrCode)
		}
	}
}

// Each step, of both kinds that have one; all others have none, so that their vector
// or their blocks stand just behind the pattern.
func TestStep(t *testing.T) {
	for _, inter := range sheets() {
		for _, kind := range kinds(inter) {
			c := cell(kind, 42)
			if !hasStep(kind) {
				if c.Step != 0 {
					t.Fatalf("the cell has a step %d", c.Step)
				}
				took(t, told(t, inter, c, [2]int{}), inter, [2]int{}, c)
				continue
			}
			for _, step := range []int{-2, -1, 1, 2} {
				c.Step = step
				took(t, told(t, inter, c, [2]int{}), inter, [2]int{}, c)
			}
		}
	}
}

// wrapped says by whole's words which number from -32 to 31 is away from a + b by a
// multiple of 64.
func wrapped(a, b int) int {
	n := (a%64 + b%64) % 64
	for n < -32 {
		n += 64
	}
	for n > 31 {
		n -= 64
	}
	return n
}

// foretold are vectors' numbers of all kinds.
func foretold() []int {
	l := []int{
		math.MinInt, math.MinInt + 1, math.MinInt + 31, math.MinInt + 32, math.MinInt + 33, math.MinInt + 63, math.MinInt32 - 1, math.MinInt32,
		math.MaxInt, math.MaxInt - 1, math.MaxInt - 31, math.MaxInt - 32, math.MaxInt - 33, math.MaxInt - 63, math.MaxInt32, math.MaxInt32 + 1,
		-4096, -1000, 1000, 4096,
	}
	for n := -130; n <= 130; n++ {
		l = append(l, n)
	}
	return l
}

// Each difference, by vectors foretold of all kinds; both numbers go their own ways.
func TestVectors(t *testing.T) {
	for _, kind := range []int{api.Inter, api.InterQ} {
		for i, pred := range foretold() {
			other := foretold()[(i*7+3)%len(foretold())]
			for d := -32; d <= 31; d++ {
				c := cell(kind, 0)
				diff := [2]int{d, -1 - d}
				c.Mv = [2]int{wrapped(pred, d), wrapped(other, -1-d)}
				bits := told(t, true, c, diff)
				take(t, bits, ending(t, bits), true, [2]int{pred, other}, c, api.OK, len(bits))
			}
		}
	}
}

func TestVectorsByHand(t *testing.T) {
	for _, v := range []struct{ pred, diff, mv [2]int }{
		{[2]int{0, 0}, [2]int{0, 0}, [2]int{0, 0}},
		{[2]int{0, 0}, [2]int{31, -32}, [2]int{31, -32}},
		{[2]int{31, -32}, [2]int{1, -1}, [2]int{-32, 31}},
		{[2]int{31, -32}, [2]int{31, -32}, [2]int{-2, 0}},
		{[2]int{-32, 31}, [2]int{-32, 31}, [2]int{0, -2}},
		{[2]int{20, -20}, [2]int{20, -20}, [2]int{-24, 24}},
		{[2]int{20, -20}, [2]int{11, -12}, [2]int{31, -32}},
		{[2]int{20, -20}, [2]int{12, -13}, [2]int{-32, 31}},
		{[2]int{32, -33}, [2]int{0, 0}, [2]int{-32, 31}},
		{[2]int{32, -33}, [2]int{-1, 1}, [2]int{31, -32}},
		{[2]int{64, -64}, [2]int{5, 6}, [2]int{5, 6}},
		{[2]int{100, -100}, [2]int{-5, 5}, [2]int{31, -31}},
		{[2]int{math.MaxInt, math.MinInt}, [2]int{0, 0}, [2]int{-1, 0}},
		{[2]int{math.MaxInt, math.MinInt}, [2]int{31, -32}, [2]int{30, -32}},
		{[2]int{math.MinInt, math.MaxInt}, [2]int{-1, 1}, [2]int{-1, 0}},
		{[2]int{math.MinInt + 32, math.MaxInt - 32}, [2]int{-32, 31}, [2]int{0, -2}},
	} {
		for _, kind := range []int{api.Inter, api.InterQ} {
			c := cell(kind, 33)
			c.Mv = v.mv
			took(t, told(t, true, c, v.diff), true, v.pred, c)
		}
		// What is foretold says nothing of cells that have no vector.
		for _, inter := range sheets() {
			for _, kind := range []int{api.Intra, api.IntraQ} {
				c := cell(kind, 33)
				bits := told(t, inter, c, [2]int{})
				take(t, bits, ending(t, bits), inter, v.pred, c, api.OK, len(bits))
			}
		}
	}
}

// Bits of a kind that no row begins with, of Four, and of a pattern that is none.
func TestWrongKindsAndPatterns(t *testing.T) {
	noTake(t, "0"+noKind, true, api.ErrCode)
	noTake(t, noKind, false, api.ErrCode)
	noTake(t, "0000000"+"1", false, api.ErrCode)
	for chroma := range 4 {
		four := mcbpcRow(t, true, api.Four, chroma)
		noTake(t, "0"+four, true, api.ErrMode)
		noTake(t, "0"+four+noPattern, true, api.ErrMode)
		noTake(t, "0"+stuffRow+"0"+four, true, api.ErrMode)
	}
	for _, inter := range sheets() {
		for _, kind := range kinds(inter) {
			for chroma := range 4 {
				bits := begins(inter, 0) + mcbpcRow(t, inter, kind, chroma)
				noTake(t, bits+noPattern, inter, api.ErrCode)
				noTake(t, bits+"000001", inter, api.ErrCode)
			}
		}
	}
}

// Both differences: no row begins so, or there is none of the greatest amount above
// 0; a step, which cannot be wrong, stands ahead of them.
func TestWrongDifferences(t *testing.T) {
	for _, which := range []int{0, 1, 63} {
		for _, wrong := range []string{noDiff, "000000000010" + "0"} {
			for _, first := range []int{0, 1, -1, 31, -32} {
				inter := head(t, true, cell(api.Inter, which), [2]int{})
				inter = inter[:len(inter)-2]
				quant := head(t, true, cell(api.InterQ, which), [2]int{})
				quant = quant[:len(quant)-2]
				noTake(t, inter+wrong, true, api.ErrCode)
				noTake(t, inter+mvdRow(t, first)+wrong, true, api.ErrCode)
				noTake(t, quant+wrong, true, api.ErrCode)
				noTake(t, quant+mvdRow(t, first)+wrong, true, api.ErrCode)
			}
		}
	}
}

// wrongBlock is a block that may not be, and its error.
type wrongBlock struct {
	bits  string
	coded bool
	wrong api.Errno
}

// wrongBlocks are those of a cell that is intra, or is not.
func wrongBlocks(t *testing.T, intra bool) []wrongBlock {
	t.Helper()
	dc, l := "", []wrongBlock{}
	if intra {
		dc = "00000101"
		for _, coded := range []bool{false, true} {
			l = append(l, wrongBlock{"00000000", coded, api.ErrLevel}, wrongBlock{"10000000", coded, api.ErrLevel})
		}
		l = append(l, wrongBlock{dc + eventRows(t, api.Event{Last: true, Run: 63, Level: 1}), true, api.ErrLevel})
	}
	return append(l,
		wrongBlock{dc + noEvent, true, api.ErrCode},
		wrongBlock{dc + eventRows(t, api.Event{Run: 1, Level: 1}) + noEvent, true, api.ErrCode},
		wrongBlock{dc + "0000011" + "1" + "000000" + "00000000", true, api.ErrLevel},
		wrongBlock{dc + "0000011" + "1" + "000000" + "10000000", true, api.ErrLevel},
		wrongBlock{dc + "0000011" + "1" + "000000" + "00000001", true, api.ErrLevel},
		wrongBlock{dc + eventRows(t, api.Event{Run: 60, Level: 1}, api.Event{Last: true, Run: 3, Level: 1}), true, api.ErrLevel},
		wrongBlock{dc + eventRows(t, api.Event{Run: 63, Level: 1}, api.Event{Last: true, Level: 1}), true, api.ErrLevel})
}

// Each of the six blocks, with right ones ahead of it; behind it stand others that
// are wrong in another way, which is not looked at.
func TestWrongBlocks(t *testing.T) {
	for _, inter := range sheets() {
		for _, kind := range kinds(inter) {
			for i := range 6 {
				for _, b := range wrongBlocks(t, isIntra(kind)) {
					which := 0b101101 &^ (1 << (5 - i))
					if b.coded {
						which |= 1 << (5 - i)
					}
					c := cell(kind, which)
					bits := head(t, inter, c, [2]int{1, -1})
					for n := range i {
						bits += block(t, c, n)
					}
					for _, behind := range []string{"", noEvent, "10000000", "0000011100000000000001"} {
						take(t, "a wrong block", ending(t, bits+b.bits+behind), inter, [2]int{}, api.Cell{}, b.wrong, 0)
					}
					for n := range 9 {
						r := reader(t, text(t, ahead(n), bits, b.bits, "0110"), n)
						take(t, "a wrong block", r, inter, [2]int{}, api.Cell{}, b.wrong, 0)
					}
				}
			}
		}
	}
}

// Where more than one part is wrong, the first one is told; a later one may well be
// of an error that is named ahead of it.
func TestFirstWrong(t *testing.T) {
	four := mcbpcRow(t, true, api.Four, 0)
	quant := "0" + mcbpcRow(t, true, api.InterQ, 3)
	pattern := cbpyRow(t, false, 15)
	take(t, "the kind, then nothing", ending(t, "0"+four), true, [2]int{}, api.Cell{}, api.ErrMode, 0)
	take(t, "the kind, then the pattern", ending(t, "0"+four+noPattern), true, [2]int{}, api.Cell{}, api.ErrMode, 0)
	take(t, "the pattern, then nothing", ending(t, quant+noPattern), true, [2]int{}, api.Cell{}, api.ErrCode, 0)
	take(t, "the step, then nothing", ending(t, quant+pattern+"0"), true, [2]int{}, api.Cell{}, api.ErrShort, 0)
	take(t, "the first number, then nothing", ending(t, quant+pattern+"00"+noDiff), true, [2]int{}, api.Cell{}, api.ErrCode, 0)
	take(t, "the second number, then nothing", ending(t, quant+pattern+"00"+"1"+noDiff), true, [2]int{}, api.Cell{}, api.ErrCode, 0)
	take(t, "the first number is cut off", ending(t, quant+pattern+"00"+"0000000000"), true, [2]int{}, api.Cell{}, api.ErrShort, 0)
	beyond := eventRows(t, api.Event{Run: 60, Level: 1}, api.Event{Run: 9, Level: 1})
	take(t, "a level, then nothing", ending(t, quant+pattern+"00"+"1"+"1"+beyond), true, [2]int{}, api.Cell{}, api.ErrLevel, 0)
	take(t, "a dc, then nothing", ending(t, "1"+"11"+"00000000"), false, [2]int{}, api.Cell{}, api.ErrLevel, 0)
	take(t, "a dc, then an event", ending(t, "1"+"11"+"10000000"+noEvent), false, [2]int{}, api.Cell{}, api.ErrLevel, 0)
	take(t, "an event, then a dc", ending(t, "1"+"11"+"00000001"+noEvent+"00000000"), false, [2]int{}, api.Cell{}, api.ErrCode, 0)
}

// Texts that end within each part of a cell, at each bit.
func TestCutOff(t *testing.T) {
	for _, inter := range sheets() {
		for _, kind := range kinds(inter) {
			for _, which := range []int{0, 1, 0b100000, 0b010110, 63} {
				for _, stuff := range []int{0, 1, 3} {
					c := cell(kind, which)
					c.Stuff = stuff
					short(t, told(t, inter, c, [2]int{13, -27}), inter)
				}
			}
		}
	}
	short(t, told(t, true, api.Cell{Stuff: 64, Skip: true}, [2]int{}), true)
	c := cell(api.IntraQ, 63)
	c.Stuff = 64
	short(t, told(t, true, c, [2]int{}), true)
	short(t, told(t, false, c, [2]int{}), false)
}

func TestNothingToRead(t *testing.T) {
	for _, inter := range sheets() {
		for _, s := range []string{"", "\x00", "\xff", "\x80\x01", "\xff\xff\xff"} {
			r := reader(t, s, 8*len(s))
			for range 2 {
				take(t, "at the end", r, inter, [2]int{1, 2}, api.Cell{}, api.ErrShort, 0)
			}
		}
		take(t, "a zero reader", &inbits.Reader{}, inter, [2]int{1, 2}, api.Cell{}, api.ErrShort, 0)
		for _, pred := range [][2]int{{}, {1, 2}, {math.MinInt, math.MaxInt}} {
			if c, err := cellin.Take(nil, inter, pred); !equal(c, api.Cell{}) || err != api.ErrArg {
				t.Errorf("Take(nil, %v, %v) = %v, %d", inter, pred, c, err)
			}
		}
	}
}

// Behind an error the reader reads on where it stood.
func TestReaderBehindErrors(t *testing.T) {
	c := cell(api.InterQ, 63)
	bits := told(t, true, c, [2]int{})
	r := reader(t, text(t, "101", noKind, bits), 3)
	for range 3 {
		take(t, "no kind", r, false, [2]int{}, api.Cell{}, api.ErrCode, 0)
	}
	if v, err := r.Take(len(noKind)); v != 0 || err != api.OK {
		t.Fatalf("behind an error the bits are %d, %d", v, err)
	}
	take(t, "a cell", r, true, [2]int{}, c, api.OK, len(bits))
}

// many are cells of all kinds that may be, and the differences of their vectors.
func many(inter bool) ([]api.Cell, [][2]int) {
	var l []api.Cell
	var diffs [][2]int
	for which := range 64 {
		for _, kind := range kinds(inter) {
			c := cell(kind, which)
			c.Stuff = which % 3
			diff := [2]int{}
			if !isIntra(kind) {
				diff = [2]int{which - 32, 31 - which}
				c.Mv = diff
			}
			l, diffs = append(l, c), append(diffs, diff)
		}
		if inter {
			l, diffs = append(l, api.Cell{Stuff: which % 2, Skip: true}), append(diffs, [2]int{})
		}
	}
	return l, diffs
}

// Cells that stand one behind the other are read one behind the other, and what was
// told of one is not changed by what is read behind it.
func TestCellBehindCell(t *testing.T) {
	for _, inter := range sheets() {
		l, diffs := many(inter)
		for n := range 9 {
			bits := ahead(n)
			for i, c := range l {
				bits += told(t, inter, c, diffs[i])
			}
			r := reader(t, text(t, bits), n)
			var taken []api.Cell
			for i, c := range l {
				got, err := cellin.Take(r, inter, [2]int{})
				if !equal(got, c) || err != api.OK {
					t.Fatalf("cell %d is %v, %d, want %v", i, got, err, c)
				}
				taken = append(taken, got)
			}
			if r.At() != len(bits) {
				t.Errorf("%d bits were read of %d", r.At(), len(bits))
			}
			for i, c := range l {
				if !equal(taken[i], c) {
					t.Errorf("cell %d became %v, want %v", i, taken[i], c)
				}
			}
		}
	}
}

// No two lists of an answer share memory, nor do those of two answers: one may be
// written to, and to its room's end.
func TestListsOfTheirOwn(t *testing.T) {
	for _, inter := range sheets() {
		for _, kind := range kinds(inter) {
			c := cell(kind, 63)
			bits := told(t, inter, c, [2]int{})
			r := reader(t, text(t, bits, bits), 0)
			first, _ := cellin.Take(r, inter, [2]int{})
			second, err := cellin.Take(r, inter, [2]int{})
			if err != api.OK {
				t.Fatalf("Take: %d", err)
			}
			for i := range first.Events {
				room := first.Events[i][:cap(first.Events[i])]
				for n := range room {
					room[n] = api.Event{Run: -9, Level: 999}
				}
				for n := i + 1; n < 6; n++ {
					if !slices.Equal(first.Events[n], c.Events[n]) {
						t.Errorf("blocks %d and %d share a list", i, n)
					}
				}
			}
			if !equal(second, c) {
				t.Errorf("two cells share a list: %v", second)
			}
		}
	}
}

// What is told hangs on the bits alone: a second reader of the same text, and the
// same one set back, tell the same.
func TestTakenTwice(t *testing.T) {
	c := cell(api.IntraQ, 63)
	bits := told(t, true, c, [2]int{})
	r := reader(t, text(t, "01", bits), 2)
	for range 3 {
		take(t, "the same cell", r, true, [2]int{}, c, api.OK, len(bits))
		r.Seek(2)
	}
	take(t, "the same cell", reader(t, text(t, "01", bits), 2), true, [2]int{8, 8}, c, api.OK, len(bits))
}

// words reads a cell by the chapter's words, part by part; far is how many bits it
// has.
func words(r *inbits.Reader, inter bool, pred [2]int) (c api.Cell, far int, err api.Errno) {
	at := r.At()
	kind, chroma := mcbpc.Stuff, 0
	for stuff := 0; kind == mcbpc.Stuff; stuff++ {
		if stuff > 64 {
			return api.Cell{}, 0, api.ErrLong
		}
		c.Stuff = stuff
		if inter {
			skip, err := r.Take(1)
			if err != api.OK {
				return api.Cell{}, 0, err
			}
			if skip == 1 {
				c.Skip = true
				return c, r.At() - at, api.OK
			}
		}
		if kind, chroma, err = mcbpc.Take(r, inter); err != api.OK {
			return api.Cell{}, 0, err
		}
	}
	c.Kind = kind
	pattern, err := cbpy.Take(r, isIntra(kind))
	if err != api.OK {
		return api.Cell{}, 0, err
	}
	if hasStep(kind) {
		if c.Step, err = steps.Take(r); err != api.OK {
			return api.Cell{}, 0, err
		}
	}
	for i := 0; i < 2 && !isIntra(kind); i++ {
		d, err := mvd.Take(r)
		if err != api.OK {
			return api.Cell{}, 0, err
		}
		c.Mv[i] = wrapped(pred[i], d)
	}
	coded := []bool{pattern&8 > 0, pattern&4 > 0, pattern&2 > 0, pattern&1 > 0, chroma&2 > 0, chroma&1 > 0}
	for i := range 6 {
		if c.Dc[i], c.Events[i], err = blocks.Take(r, isIntra(kind), coded[i]); err != api.OK {
			return api.Cell{}, 0, err
		}
	}
	return c, r.At() - at, api.OK
}

// asWords holds a Take against the chapter's words, at that bit of s.
func asWords(t *testing.T, s string, at int, inter bool, pred [2]int) api.Errno {
	t.Helper()
	want, far, wrong := words(reader(t, s, at), inter, pred)
	take(t, outbits.Show(s)[at:], reader(t, s, at), inter, pred, want, wrong, far)
	return wrong
}

// All texts of two bytes, at each bit, against the chapter's words.
func TestShortTexts(t *testing.T) {
	for v := range 1 << 16 {
		s := string([]byte{byte(v >> 8), byte(v)})
		for _, inter := range sheets() {
			asWords(t, s, v%8, inter, [2]int{v%64 - 32, v / 1024})
			asWords(t, s, 0, inter, [2]int{})
		}
	}
}

// Cells, one of whose bits is turned, or whose end is cut off, against the chapter's
// words: each error is met, and cells that may be as well.
func TestTurnedBits(t *testing.T) {
	met := map[api.Errno]int{}
	chance := rand.New(rand.NewSource(21))
	for _, inter := range sheets() {
		l, diffs := many(inter)
		for i, c := range l {
			bits := []byte(ahead(i%9) + told(t, inter, c, diffs[i]))
			for range 40 {
				place := chance.Intn(len(bits))
				turned := slices.Clone(bits)
				turned[place] ^= '0' ^ '1'
				s := text(t, string(turned))
				pred := [2]int{chance.Intn(100) - 50, chance.Intn(100) - 50}
				met[asWords(t, s, i%9, inter, pred)]++
				met[asWords(t, s[:len(s)-1], min(i%9, 8*len(s)-8), !inter, pred)]++
			}
		}
	}
	for _, err := range []api.Errno{api.OK, api.ErrShort, api.ErrCode, api.ErrMode, api.ErrLevel} {
		if met[err] < 10 {
			t.Errorf("error %d was met %d times", err, met[err])
		}
	}
}

// Texts of any bits.
func TestAnyBits(t *testing.T) {
	chance := rand.New(rand.NewSource(7))
	for range 60000 {
		bytes := make([]byte, chance.Intn(60))
		chance.Read(bytes)
		s := string(bytes)
		asWords(t, s, chance.Intn(min(8*len(s), 9)+1), chance.Intn(2) == 0, [2]int{chance.Int() - chance.Int(), chance.Int()})
	}
}

// full is a cell all parts of which are told.
func full() api.Cell {
	c := cell(api.IntraQ, 63)
	c.Stuff, c.Skip, c.Mv = 3, true, [2]int{4, -5}
	return c
}

// clone has lists of its own.
func clone(c api.Cell) api.Cell {
	for i := range c.Events {
		c.Events[i] = slices.Clone(c.Events[i])
	}
	return c
}

// holdsSame asks both ways.
func holdsSame(t *testing.T, what string, a, b api.Cell, want bool) {
	t.Helper()
	if cellin.Same(a, b) != want || cellin.Same(b, a) != want {
		t.Errorf("%s: Same(%v, %v) = %v, and the other way round %v, want %v", what, a, b, cellin.Same(a, b), cellin.Same(b, a), want)
	}
}

func TestSame(t *testing.T) {
	holdsSame(t, "nothing", api.Cell{}, api.Cell{}, true)
	holdsSame(t, "all", full(), clone(full()), true)
	for _, inter := range sheets() {
		l, _ := many(inter)
		for i, a := range l {
			holdsSame(t, "itself", a, a, true)
			for n, b := range l {
				// All cells but the skipped ones are of their own.
				if want := i == n || a.Skip && b.Skip && a.Stuff == b.Stuff; cellin.Same(a, clone(b)) != want {
					t.Fatalf("cells %d and %d: Same = %v", i, n, !want)
				}
			}
		}
	}
}

// Cells that differ in one part alone.
func TestNotSame(t *testing.T) {
	for what, differ := range map[string]func(c *api.Cell, by int){
		"Stuff":        func(c *api.Cell, by int) { c.Stuff += by },
		"Skip":         func(c *api.Cell, by int) { c.Skip = !c.Skip },
		"Kind":         func(c *api.Cell, by int) { c.Kind += by },
		"Step":         func(c *api.Cell, by int) { c.Step += by },
		"first of Mv":  func(c *api.Cell, by int) { c.Mv[0] += by },
		"second of Mv": func(c *api.Cell, by int) { c.Mv[1] += by },
	} {
		for _, c := range []api.Cell{{}, full(), cell(api.Inter, 0), cell(api.Intra, 7)} {
			for _, by := range []int{1, -1, 64, 256, 65536, 1 << 32, math.MaxInt, math.MinInt} {
				d := clone(c)
				differ(&d, by)
				holdsSame(t, what, c, d, false)
			}
		}
	}
}

func TestNotSameInBlocks(t *testing.T) {
	for _, c := range []api.Cell{{}, full(), cell(api.Inter, 21), cell(api.Intra, 42)} {
		for i := range 6 {
			for _, by := range []int{1, -1, 128, 255, 256, 1 << 32, math.MaxInt, math.MinInt} {
				d := clone(c)
				d.Dc[i] += by
				holdsSame(t, "Dc", c, d, false)
			}
			d := clone(c)
			d.Events[i] = append(d.Events[i], api.Event{})
			holdsSame(t, "one event more", c, d, false)
			if n := len(c.Events[i]); n > 0 {
				d.Events[i] = c.Events[i][:n-1]
				holdsSame(t, "one event less", c, d, false)
				d.Events[i] = nil
				holdsSame(t, "no events", c, d, false)
			}
		}
	}
}

func TestNotSameInOneEvent(t *testing.T) {
	for i := range 6 {
		for n := range 4 {
			c := full()
			c.Events[i] = list{{Level: 1}, {Run: 2, Level: -3}, {Level: 4}, {Last: true, Level: 5}}
			for _, differ := range []func(e *api.Event){
				func(e *api.Event) { e.Last = !e.Last },
				func(e *api.Event) { e.Run++ },
				func(e *api.Event) { e.Run += 64 },
				func(e *api.Event) { e.Run += 1 << 32 },
				func(e *api.Event) { e.Level = -e.Level },
				func(e *api.Event) { e.Level += 256 },
				func(e *api.Event) { e.Level = math.MinInt },
			} {
				d := clone(c)
				differ(&d.Events[i][n])
				holdsSame(t, "one event", c, d, false)
				e := clone(d)
				holdsSame(t, "the same one", d, e, true)
			}
			// The same events in another order, or at another block.
			d := clone(c)
			d.Events[i][n], d.Events[i][(n+1)%4] = d.Events[i][(n+1)%4], d.Events[i][n]
			holdsSame(t, "another order", c, d, false)
			d = clone(c)
			d.Events[i], d.Events[(i+1)%6] = d.Events[(i+1)%6], d.Events[i]
			holdsSame(t, "another block", c, d, false)
		}
	}
	for i := range 6 {
		c, d := full(), full()
		c.Dc, d.Dc = [6]int{}, [6]int{}
		c.Dc[i], d.Dc[(i+1)%6] = 9, 9
		holdsSame(t, "another Dc", c, d, false)
	}
	holdsSame(t, "Mv the other way round", api.Cell{Mv: [2]int{1, 2}}, api.Cell{Mv: [2]int{2, 1}}, false)
}

// nil and empty lists are the same, with room behind their ends or none; what stands
// in that room says nothing.
func TestSameOfEmptyLists(t *testing.T) {
	for i := range 6 {
		a, b, c := api.Cell{}, api.Cell{}, api.Cell{}
		b.Events[i] = list{}
		c.Events[i] = some(3)[:0]
		holdsSame(t, "nil and empty", a, b, true)
		holdsSame(t, "nil and room", a, c, true)
		holdsSame(t, "empty and room", b, c, true)
		a, b = full(), full()
		a.Events[i], b.Events[i] = some(3)[:1], slices.Clone(some(3)[:1])
		holdsSame(t, "room behind the end", a, b, true)
	}
}

// Cells that may not be are held against each other as all others are.
func TestSameOfWrongCells(t *testing.T) {
	wrong := api.Cell{Stuff: -1, Skip: true, Kind: api.Four, Step: math.MinInt, Mv: [2]int{math.MaxInt, math.MinInt}, Dc: [6]int{-1, 255, 256}}
	for i := range wrong.Events {
		wrong.Events[i] = list{{Run: -1, Level: 0}, {Last: true, Run: 64, Level: 128}, {Last: true}}
	}
	holdsSame(t, "wrong", wrong, clone(wrong), true)
	holdsSame(t, "wrong and nothing", wrong, api.Cell{}, false)
	for _, n := range []int{1000, 100000} {
		long := clone(wrong)
		long.Events[5] = make(list, n)
		other := clone(long)
		holdsSame(t, "long", long, other, true)
		other.Events[5][n-1].Level = 1
		holdsSame(t, "long, and one level", long, other, false)
	}
}

// Neither cell is changed by being asked about.
func TestSameChangesNothing(t *testing.T) {
	a, b := full(), full()
	for i := range a.Events {
		a.Events[i] = append(make(list, 0, 9), a.Events[i]...)
		a.Events[i][:9][8] = api.Event{Level: 77}
	}
	kept := clone(a)
	for range 2 {
		holdsSame(t, "all", a, b, true)
	}
	if !equal(a, kept) || !equal(b, full()) {
		t.Errorf("the cells became %v, %v", a, b)
	}
	for i := range a.Events {
		if a.Events[i][:9][8] != (api.Event{Level: 77}) {
			t.Errorf("the room behind the end of list %d was written to", i)
		}
	}
}
