package cellout_test

import (
	"math"
	"math/rand"
	"reflect"
	"slices"
	"strings"
	"testing"

	"overspill/api"
	"overspill/blocks"
	"overspill/cbpy"
	"overspill/cellin"
	"overspill/cellout"
	"overspill/inbits"
	"overspill/mcbpc"
	"overspill/mvd"
	"overspill/outbits"
	"overspill/steps"
	"overspill/tcoef"
)

const stuffRow = "000000001"

type list = []api.Event

// sheets are the two kinds of them: inter, and not.
func sheets() []bool {
	return []bool{false, true}
}

// kinds are those that a cell may have in a sheet.
func kinds(inter bool) []int {
	if inter {
		return []int{api.Inter, api.InterQ, api.Intra, api.IntraQ}
	}
	return []int{api.Intra, api.IntraQ}
}

func isIntra(kind int) bool {
	return kind == api.Intra || kind == api.IntraQ
}

func hasStep(kind int) bool {
	return kind == api.InterQ || kind == api.IntraQ
}

// ends are numbers at both ends of an int, and of narrower ones.
func ends() []int {
	return []int{math.MinInt, math.MinInt + 1, math.MinInt32 - 1, math.MinInt32, -65536, -256, 256, 65536, math.MaxInt32, math.MaxInt32 + 1, 1 << 32, math.MaxInt - 1, math.MaxInt}
}

// ahead are bits that stand ahead of a cell.
func ahead(n int) string {
	return "1101001011100"[:n]
}

// behinds are bits that stand behind a cell: of other cells, or of none.
func behinds() []string {
	return []string{"", "0", "1", "00000000", "11111111", "100", "0000000000000000", "0111111"}
}

// some are events, other ones for each n.
func some(n int) list {
	return []list{
		{{Last: true, Level: 1}},
		{{Level: -1}, {Last: true, Run: 2, Level: 1}},
		{{Last: true, Run: 40, Level: -3}},
		{{Run: 1, Level: 100}, {Level: 2}, {Last: true, Level: -1}},
		{{Last: true, Run: 62, Level: 127}},
		{{Level: 1}, {Level: -2}, {Level: 3}, {Last: true, Run: 5, Level: -127}},
		{{Last: true, Run: 7, Level: -1}},
	}[n%7]
}

// cell is one of that kind, with a step, if it has one; these of its blocks have
// events: 32 is the first one, 1 the last one.
func cell(kind, which int) api.Cell {
	c := api.Cell{Kind: kind}
	if hasStep(kind) {
		c.Step = []int{-2, -1, 1, 2}[which%4]
	}
	for i := range c.Dc {
		if isIntra(kind) {
			c.Dc[i] = 1 + (37*i+which+5*kind)%254
		}
		if which>>(5-i)&1 == 1 {
			c.Events[i] = some(i + which)
		}
	}
	return c
}

// many are cells of all kinds that may be, with each choice of blocks.
func many(inter bool) []api.Cell {
	var l []api.Cell
	for which := range 64 {
		for _, kind := range kinds(inter) {
			c := cell(kind, which)
			c.Stuff = which % 3
			if !isIntra(kind) {
				c.Mv = [2]int{which - 32, 31 - which}
			}
			l = append(l, c)
		}
		if inter {
			l = append(l, api.Cell{Stuff: which, Skip: true})
		}
	}
	return l
}

// clone has lists of its own.
func clone(c api.Cell) api.Cell {
	for i := range c.Events {
		c.Events[i] = slices.Clone(c.Events[i])
	}
	return c
}

// equal asks field by field; nil and empty lists are the same.
func equal(a, b api.Cell) bool {
	for i := range a.Events {
		if len(a.Events[i]) == 0 && len(b.Events[i]) == 0 {
			a.Events[i], b.Events[i] = nil, nil
		}
	}
	return reflect.DeepEqual(a, b)
}

// row is that of a part, if it has one.
func row(t *testing.T, bits string, is bool) string {
	t.Helper()
	if !is {
		t.Fatal("a part has no row")
	}
	return bits
}

// wrapped says by whole's words which number from -32 to 31 is away from a - b by a
// multiple of 64.
func wrapped(a, b int) int {
	n := (a%64 - b%64) % 64
	for n < -32 {
		n += 64
	}
	for n > 31 {
		n -= 64
	}
	return n
}

// told is what chapter 21 says that a cell is told as.
func told(t *testing.T, inter bool, pred [2]int, c api.Cell) string {
	t.Helper()
	bits := ""
	for range c.Stuff {
		if inter {
			bits += "0"
		}
		bits += stuffRow
	}
	if c.Skip {
		return bits + "1"
	}
	if inter {
		bits += "0"
	}
	pattern, chroma := 0, 0
	for i, l := range c.Events {
		if len(l) > 0 {
			pattern |= []int{8, 4, 2, 1, 0, 0}[i]
			chroma |= []int{0, 0, 0, 0, 2, 1}[i]
		}
	}
	kind, is := mcbpc.Row(inter, c.Kind, chroma)
	bits += row(t, kind, is)
	luma, is := cbpy.Row(isIntra(c.Kind), pattern)
	bits += row(t, luma, is)
	if hasStep(c.Kind) {
		step, is := steps.Row(c.Step)
		bits += row(t, step, is)
	}
	for i := 0; i < 2 && !isIntra(c.Kind); i++ {
		d, is := mvd.Row(wrapped(c.Mv[i], pred[i]))
		bits += row(t, d, is)
	}
	for i := range c.Events {
		bits += block(t, isIntra(c.Kind), c.Dc[i], c.Events[i])
	}
	return bits
}

// block is what chapter 15 says that a block is told as.
func block(t *testing.T, intra bool, dc int, l list) string {
	t.Helper()
	bits := ""
	if intra {
		if dc == 128 {
			dc = 255
		}
		first, err := outbits.Row(dc, 8)
		bits = row(t, first, err == api.OK)
	}
	for _, e := range l {
		event, is := tcoef.Row(e)
		bits += row(t, event, is)
	}
	return bits
}

// may is whether a cell may be, by the chapter's words, and by those of the blocks'.
func may(inter bool, c api.Cell) bool {
	if c.Stuff < 0 || c.Stuff > 64 {
		return false
	}
	if c.Skip {
		return inter && equal(c, api.Cell{Stuff: c.Stuff, Skip: true})
	}
	if !slices.Contains(kinds(inter), c.Kind) {
		return false
	}
	if hasStep(c.Kind) != slices.Contains([]int{-2, -1, 1, 2}, c.Step) || !hasStep(c.Kind) && c.Step != 0 {
		return false
	}
	for _, n := range c.Mv {
		if n < -32 || n > 31 || isIntra(c.Kind) && n != 0 {
			return false
		}
	}
	for i := range c.Events {
		if !mayBlock(isIntra(c.Kind), c.Dc[i], c.Events[i]) {
			return false
		}
	}
	return true
}

// mayBlock is whether a block may be, by the chapters' words.
func mayBlock(intra bool, dc int, l list) bool {
	if intra && (dc < 1 || dc > 254) || !intra && dc != 0 {
		return false
	}
	number := -1
	if intra {
		number = 0
	}
	for i, e := range l {
		if e.Run < 0 || e.Run > 63 || e.Level == 0 || e.Level < -127 || e.Level > 127 || e.Last != (i == len(l)-1) {
			return false
		}
		number += 1 + e.Run
		if number > 63 {
			return false
		}
	}
	return true
}

// bits are those that a writer holds, up to the last one that was written.
func bits(w *outbits.Writer) string {
	return outbits.Show(w.Text())[:w.Len()]
}

// writer holds those bits.
func writer(t *testing.T, bits string) *outbits.Writer {
	t.Helper()
	w := outbits.New()
	if err := w.Add(bits); err != api.OK {
		t.Fatalf("Add(%q): %d", bits, err)
	}
	return w
}

// put asks for a cell's bits behind others, that the cell stays as it was, and that
// it is read again.
func put(t *testing.T, first string, inter bool, pred [2]int, c api.Cell, want string) {
	t.Helper()
	w, kept := writer(t, first), clone(c)
	if err := cellout.Put(w, inter, pred, c); err != api.OK || bits(w) != first+want {
		t.Fatalf("behind %q Put(%v, %v, %v) = %d wrote %q, want %q", first, inter, pred, c, err, bits(w), want)
	}
	if !equal(c, kept) {
		t.Fatalf("the cell became %v, was %v", c, kept)
	}
	again(t, w, len(first), inter, pred, c)
}

// again reads the last cell of a writer, from that bit on.
func again(t *testing.T, w *outbits.Writer, at int, inter bool, pred [2]int, want api.Cell) {
	t.Helper()
	r := inbits.New(w.Text())
	if err := r.Seek(at); err != api.OK {
		t.Fatalf("Seek(%d): %d", at, err)
	}
	c, err := cellin.Take(r, inter, pred)
	if err != api.OK || !cellin.Same(c, want) || !equal(c, want) || r.At() != w.Len() {
		t.Fatalf("read again: %v, %d at %d, want %v at %d", c, err, r.At(), want, w.Len())
	}
}

// right asks for cells that may be: whether they may, and their bits behind 0 to 9
// others.
func right(t *testing.T, inter bool, pred [2]int, c api.Cell) {
	t.Helper()
	if !cellout.Right(inter, c) {
		t.Fatalf("Right(%v, %v) = false", inter, c)
	}
	want := told(t, inter, pred, c)
	for n := range 10 {
		put(t, ahead(n), inter, pred, c, want)
	}
}

// wrong asks for one that may not be: ErrTree, and no bit more.
func wrong(t *testing.T, what string, inter bool, c api.Cell) {
	t.Helper()
	if cellout.Right(inter, c) {
		t.Fatalf("%s: Right(%v, %v) = true", what, inter, c)
	}
	kept := clone(c)
	for n := range 10 {
		w := writer(t, ahead(n))
		for range 2 {
			if err := cellout.Put(w, inter, [2]int{3, -4}, c); err != api.ErrTree {
				t.Fatalf("%s: Put(%v, %v) = %d", what, inter, c, err)
			}
			if bits(w) != ahead(n) {
				t.Fatalf("%s: Put(%v, %v) wrote %q behind %q", what, inter, c, bits(w), ahead(n))
			}
		}
		// What is written next stands just behind what was there.
		if err := w.Add("101"); err != api.OK || bits(w) != ahead(n)+"101" {
			t.Fatalf("%s: behind %q the bits are %q", what, ahead(n), bits(w))
		}
	}
	if err := cellout.Put(nil, inter, [2]int{3, -4}, c); err != api.ErrArg {
		t.Fatalf("%s: Put(nil, %v, %v) = %d", what, inter, c, err)
	}
	if !equal(c, kept) {
		t.Fatalf("%s: the cell became %v, was %v", what, c, kept)
	}
}

// either asks what the chapter's words say.
func either(t *testing.T, what string, inter bool, c api.Cell) {
	t.Helper()
	if may(inter, c) {
		right(t, inter, [2]int{}, c)
	} else {
		wrong(t, what, inter, c)
	}
}

func TestExample(t *testing.T) {
	put(t, "", true, [2]int{}, api.Cell{Skip: true}, "1")
	put(t, "", true, [2]int{}, api.Cell{Stuff: 1, Skip: true}, "0"+"000000001"+"1")
}

// Some cells, as they stand on paper.
func TestOnPaper(t *testing.T) {
	none, nine := [2]int{}, [2]int{9, 9}
	dc := [6]int{1, 2, 128, 254, 16, 129}
	dcs := "00000001" + "00000010" + "11111111" + "11111110" + "00010000" + "10000001"
	first, last := list{{Last: true, Level: 1}}, list{{Last: true, Level: -1}}
	for _, v := range []struct {
		inter bool
		pred  [2]int
		c     api.Cell
		want  string
	}{
		{true, [2]int{5, -7}, api.Cell{Mv: [2]int{5, -7}}, "0" + "1" + "11" + "1" + "1"},
		{true, none, api.Cell{}, "0" + "1" + "11" + "1" + "1"},
		{false, none, api.Cell{Kind: api.Intra, Dc: dc}, "1" + "0011" + dcs},
		{false, nine, api.Cell{Kind: api.IntraQ, Step: -2, Dc: dc}, "0001" + "0011" + "01" + dcs},
		{true, nine, api.Cell{Kind: api.Intra, Dc: dc}, "0" + "00011" + "0011" + dcs},
		{true, nine, api.Cell{Kind: api.IntraQ, Step: 2, Dc: dc}, "0" + "000100" + "0011" + "11" + dcs},
		{true, [2]int{1, 1}, api.Cell{Kind: api.InterQ, Step: -1, Mv: [2]int{3, 1}}, "0" + "011" + "11" + "00" + "0010" + "1"},
		{true, none, api.Cell{Mv: [2]int{0, -1}, Events: [6][]api.Event{0: first, 5: last}}, "0" + "0011" + "1011" + "1" + "011" + "01110" + "01111"},
		{false, none, api.Cell{Kind: api.Intra, Dc: [6]int{7, 7, 7, 7, 7, 7}, Events: [6][]api.Event{4: first}},
			"010" + "0011" + strings.Repeat("00000111", 5) + "01110" + "00000111"},
		{true, none, api.Cell{Stuff: 2, Kind: api.InterQ, Step: 1, Mv: [2]int{1, 0}, Events: [6][]api.Event{1: last}},
			"0" + stuffRow + "0" + stuffRow + "0" + "011" + "1010" + "10" + "010" + "1" + "01111"},
		{false, none, api.Cell{Stuff: 2, Kind: api.Intra, Dc: dc}, stuffRow + stuffRow + "1" + "0011" + dcs},
		{true, none, api.Cell{Stuff: 3, Skip: true}, strings.Repeat("0"+stuffRow, 3) + "1"},
	} {
		for n := range 10 {
			put(t, ahead(n), v.inter, v.pred, v.c, v.want)
		}
	}
}

// A cell of each kind, in each sheet that may have it, with each choice of blocks that
// have events, which are those that are coded.
func TestKindsAndBlocks(t *testing.T) {
	for _, inter := range sheets() {
		for _, c := range many(inter) {
			right(t, inter, [2]int{}, c)
			right(t, inter, [2]int{-5, 30}, c)
		}
	}
}

// Each block alone, and all but one: what is told of it stands at its number.
func TestBlocksInOrder(t *testing.T) {
	for _, inter := range sheets() {
		for _, kind := range kinds(inter) {
			for i := range 6 {
				for n := range 7 {
					for _, which := range []int{1 << (5 - i), 63 - 1<<(5-i), 63} {
						c := cell(kind, which)
						if which>>(5-i)&1 == 1 {
							c.Events[i] = some(n)
						}
						right(t, inter, [2]int{}, c)
					}
				}
			}
		}
	}
}

// Empty lists are none, whatever stands in the room behind their ends.
func TestEmptyLists(t *testing.T) {
	for _, inter := range sheets() {
		for _, kind := range kinds(inter) {
			c, d := cell(kind, 0), cell(kind, 0)
			for i := range c.Events {
				c.Events[i], d.Events[i] = list{}, some(i)[:0]
			}
			right(t, inter, [2]int{}, c)
			right(t, inter, [2]int{}, d)
		}
	}
	c := api.Cell{Skip: true}
	for i := range c.Events {
		c.Events[i] = some(i)[:0]
		right(t, true, [2]int{}, c)
		c.Events[i] = list{}
		right(t, true, [2]int{}, c)
	}
}

func TestStuff(t *testing.T) {
	for _, inter := range sheets() {
		for stuff := -3; stuff <= 70; stuff++ {
			for _, kind := range kinds(inter) {
				c := cell(kind, 45)
				c.Stuff = stuff
				either(t, "Stuff", inter, c)
			}
			either(t, "Stuff", inter, api.Cell{Stuff: stuff, Skip: true})
		}
		for _, stuff := range append(ends(), -64, -63, 127, 128, 1000) {
			for _, kind := range kinds(inter) {
				c := cell(kind, 45)
				c.Stuff = stuff
				wrong(t, "Stuff", inter, c)
			}
			wrong(t, "Stuff", inter, api.Cell{Stuff: stuff, Skip: true})
		}
	}
	for _, stuff := range []int{0, 1, 64} {
		put(t, "01", true, [2]int{}, api.Cell{Stuff: stuff, Skip: true}, strings.Repeat("0000000001", stuff)+"1")
		put(t, "01", true, [2]int{}, api.Cell{Stuff: stuff}, strings.Repeat("0000000001", stuff)+"0"+"1"+"11"+"1"+"1")
		c := api.Cell{Stuff: stuff, Kind: api.Intra, Dc: [6]int{1, 1, 1, 1, 1, 1}}
		put(t, "01", false, [2]int{}, c, strings.Repeat(stuffRow, stuff)+"1"+"0011"+strings.Repeat("00000001", 6))
	}
}

// A skipped cell is of a sheet that is inter, and has nothing else but Stuff.
func TestSkip(t *testing.T) {
	for stuff := range 65 {
		c := api.Cell{Stuff: stuff, Skip: true}
		for _, pred := range [][2]int{{}, {1, 2}, {31, -32}, {math.MaxInt, math.MinInt}} {
			right(t, true, pred, c)
		}
		wrong(t, "not inter", false, c)
	}
	for _, inter := range sheets() {
		for _, n := range append(ends(), -128, -32, -3, -2, -1, 1, 2, 3, 4, 5, 31, 64, 128) {
			wrong(t, "Kind", inter, api.Cell{Skip: true, Kind: n})
			wrong(t, "Step", inter, api.Cell{Skip: true, Step: n})
			wrong(t, "first of Mv", inter, api.Cell{Skip: true, Mv: [2]int{n, 0}})
			wrong(t, "second of Mv", inter, api.Cell{Skip: true, Mv: [2]int{0, n}})
			for i := range 6 {
				c := api.Cell{Skip: true}
				c.Dc[i] = n
				wrong(t, "Dc", inter, c)
			}
		}
		for i := range 6 {
			for _, l := range []list{some(0), some(1), some(2), {{}}, {{Last: true}}, make(list, 1000)} {
				c := api.Cell{Skip: true}
				c.Events[i] = l
				wrong(t, "Events", inter, c)
			}
		}
		for _, c := range many(inter) {
			if !c.Skip && c.Kind != api.Inter {
				c.Skip = true
				wrong(t, "all beside it", inter, c)
			}
		}
	}
}

// Kinds that are none, or not of that sheet, with and without what other kinds have.
func TestKinds(t *testing.T) {
	for _, inter := range sheets() {
		for _, c := range append(many(true), api.Cell{}, api.Cell{Step: 1}, api.Cell{Dc: [6]int{1, 1, 1, 1, 1, 1}}) {
			if c.Skip {
				continue
			}
			for kind := -3; kind <= 9; kind++ {
				c.Kind = kind
				if cellout.Right(inter, c) != may(inter, c) {
					t.Fatalf("Right(%v, %v) = %v", inter, c, !may(inter, c))
				}
				if !slices.Contains(kinds(inter), kind) {
					wrong(t, "Kind", inter, c)
				}
			}
		}
		for _, which := range []int{0, 21, 63} {
			for _, kind := range append(ends(), api.Four, mcbpc.Stuff, -1) {
				for _, like := range []int{api.Inter, api.InterQ, api.Intra, api.IntraQ} {
					c := cell(like, which)
					c.Kind = kind
					wrong(t, "Kind", inter, c)
				}
			}
		}
	}
	for which := range 64 {
		for _, kind := range []int{api.Inter, api.InterQ} {
			wrong(t, "predicted, in a sheet that is not", false, cell(kind, which))
		}
	}
}

// Steps are of InterQ and IntraQ alone.
func TestStep(t *testing.T) {
	for _, inter := range sheets() {
		for _, kind := range kinds(inter) {
			for _, which := range []int{0, 42, 63} {
				c := cell(kind, which)
				for step := -5; step <= 5; step++ {
					c.Step = step
					if want := hasStep(kind) && step != 0 && step >= -2 && step <= 2 || !hasStep(kind) && step == 0; cellout.Right(inter, c) != want {
						t.Fatalf("Right(%v, %v) = %v", inter, c, !want)
					}
					either(t, "Step", inter, c)
				}
				for _, step := range ends() {
					c.Step = step
					wrong(t, "Step", inter, c)
				}
			}
		}
	}
}

// Vectors' numbers are from -32 to 31, and 0 of intra cells.
func TestMv(t *testing.T) {
	for _, inter := range sheets() {
		for _, kind := range kinds(inter) {
			for _, n := range append(ends(), -128, -96, -65, -64, -63, -34, -33, -32, -31, -1, 0, 1, 30, 31, 32, 33, 63, 64, 65, 95, 128) {
				for _, mv := range [][2]int{{n, 0}, {0, n}, {n, n}, {n, -1}, {5, n}, {n, 32}, {-33, n}} {
					c := cell(kind, 12)
					c.Mv = mv
					either(t, "Mv", inter, c)
				}
			}
		}
	}
	for a := -34; a <= 33; a++ {
		for b := -34; b <= 33; b++ {
			inside := a >= -32 && a <= 31 && b >= -32 && b <= 31
			if cellout.Right(true, api.Cell{Mv: [2]int{a, b}}) != inside {
				t.Fatalf("the vector %d %d: %v", a, b, !inside)
			}
			c := cell(api.Intra, 0)
			c.Mv = [2]int{a, b}
			if cellout.Right(true, c) != (a == 0 && b == 0) || cellout.Right(false, c) != (a == 0 && b == 0) {
				t.Fatalf("the vector %d %d of an intra cell", a, b)
			}
		}
	}
}

// Dc is from 1 to 254 in each block of intra cells, and 0 in each of other ones.
func TestDc(t *testing.T) {
	for _, inter := range sheets() {
		for _, kind := range kinds(inter) {
			for i := range 6 {
				for dc := -3; dc <= 258; dc++ {
					c := cell(kind, dc&63)
					c.Dc[i] = dc
					if want := isIntra(kind) && dc >= 1 && dc <= 254 || !isIntra(kind) && dc == 0; cellout.Right(inter, c) != want {
						t.Fatalf("Right(%v, %v) = %v", inter, c, !want)
					}
					if isIntra(kind) == (dc%8 == 0) || dc < 2 || dc > 253 {
						either(t, "Dc", inter, c)
					}
				}
				for _, dc := range ends() {
					c := cell(kind, 63)
					c.Dc[i] = dc
					wrong(t, "Dc", inter, c)
				}
			}
		}
	}
}

// wrongEvents are such as no block has, be it intra or not.
func wrongEvents() []list {
	l := []list{
		{{}}, {{Last: true}}, {{Level: 1}}, {{Run: 63, Level: 1}},
		{{Last: true, Run: -1, Level: 1}}, {{Last: true, Run: 64, Level: 1}},
		{{Last: true, Level: 128}}, {{Last: true, Level: -128}},
		{{Last: true, Level: 1}, {Last: true, Level: 1}}, {{Last: true, Level: 1}, {Level: 1}},
		{{Level: 1}, {Level: 1}}, {{Level: 1}, {Last: true, Run: 63, Level: 1}},
		{{Run: 60, Level: 1}, {Last: true, Run: 3, Level: 1}}, {{Run: 63, Level: 1}, {Last: true, Level: 1}},
		{{Run: 40, Level: 1}, {Run: -20, Level: 1}, {Last: true, Level: 1}},
		{{Level: 0}, {Last: true, Level: 1}}, {{Level: 1}, {Last: true, Level: 0}},
		make(list, 65), make(list, 100000),
	}
	for _, n := range ends() {
		l = append(l, list{{Last: true, Run: n, Level: 1}}, list{{Last: true, Level: n}},
			list{{Run: n, Level: 1}, {Last: true, Run: n, Level: 1}}, list{{Level: n}, {Last: true, Level: 1}})
	}
	return l
}

// ones are that many levels of 1, one behind the other.
func ones(n int) list {
	l := make(list, n)
	for i := range l {
		l[i] = api.Event{Last: i == n-1, Level: 1}
	}
	return l
}

func TestWrongEvents(t *testing.T) {
	for _, inter := range sheets() {
		for _, kind := range kinds(inter) {
			for i := range 6 {
				for _, l := range wrongEvents() {
					c := cell(kind, 0b101101)
					c.Events[i] = l
					wrong(t, "Events", inter, c)
				}
			}
		}
	}
}

// In intra cells levels are numbered from 1 on, so that there is one less.
func TestLastLevel(t *testing.T) {
	for _, inter := range sheets() {
		for _, kind := range kinds(inter) {
			for i := range 6 {
				for _, l := range []list{{{Last: true, Run: 62, Level: -7}}, ones(63), {{Run: 30, Level: 1}, {Last: true, Run: 31, Level: 1}}} {
					c := cell(kind, 0)
					c.Events[i] = l
					right(t, inter, [2]int{}, c)
				}
				for _, l := range []list{{{Last: true, Run: 63, Level: -7}}, ones(64), {{Run: 30, Level: 1}, {Last: true, Run: 32, Level: 1}}} {
					c := cell(kind, 0)
					c.Events[i] = l
					if cellout.Right(inter, c) == isIntra(kind) {
						t.Fatalf("Right(%v, %v) = %v", inter, c, isIntra(kind))
					}
					either(t, "the level 63", inter, c)
				}
				c := cell(kind, 0)
				c.Events[i] = ones(65)
				wrong(t, "65 levels", inter, c)
			}
		}
	}
}

// The last of six blocks is wrong in one part, all else is right: no bit of what
// stands ahead of it is left.
func TestNothingOfWrongCells(t *testing.T) {
	for _, inter := range sheets() {
		for _, kind := range kinds(inter) {
			for i := range 6 {
				c := cell(kind, 63)
				c.Stuff = 64
				c.Events[i] = list{{Level: 1}, {Run: 1, Level: 2}, {Last: true, Level: 128}}
				wrong(t, "the last level", inter, c)
				c = cell(kind, 63)
				c.Dc[i] = 255
				wrong(t, "a dc", inter, c)
			}
		}
	}
}

// foretold are vectors' numbers of all kinds.
func foretold() []int {
	l := []int{
		math.MinInt, math.MinInt + 1, math.MinInt + 31, math.MinInt + 32, math.MinInt + 33, math.MinInt + 63, math.MinInt32 - 1, math.MinInt32,
		math.MaxInt, math.MaxInt - 1, math.MaxInt - 31, math.MaxInt - 32, math.MaxInt - 33, math.MaxInt - 63, math.MaxInt32, math.MaxInt32 + 1,
		-4096, -1000, 1000, 4096,
	}
	for n := -130; n <= 130; n++ {
		l = append(l, n)
	}
	return l
}

// Each number of a vector, by vectors foretold of all kinds; both numbers go their
// own ways.
func TestVectors(t *testing.T) {
	for _, kind := range []int{api.Inter, api.InterQ} {
		for i, pred := range foretold() {
			other := foretold()[(i*7+3)%len(foretold())]
			for n := -32; n <= 31; n++ {
				c := cell(kind, n&3)
				c.Mv = [2]int{n, -1 - n}
				put(t, ahead(n&7), true, [2]int{pred, other}, c, told(t, true, [2]int{pred, other}, c))
			}
		}
	}
}

func TestVectorsByHand(t *testing.T) {
	for _, v := range []struct{ pred, mv, diff [2]int }{
		{[2]int{0, 0}, [2]int{0, 0}, [2]int{0, 0}},
		{[2]int{0, 0}, [2]int{31, -32}, [2]int{31, -32}},
		{[2]int{31, -32}, [2]int{-32, 31}, [2]int{1, -1}},
		{[2]int{31, -32}, [2]int{-2, 0}, [2]int{31, -32}},
		{[2]int{20, -20}, [2]int{-24, 24}, [2]int{20, -20}},
		{[2]int{20, -20}, [2]int{-32, 31}, [2]int{12, -13}},
		{[2]int{-1, 0}, [2]int{31, -32}, [2]int{-32, -32}},
		{[2]int{32, -33}, [2]int{-32, 31}, [2]int{0, 0}},
		{[2]int{64, -64}, [2]int{5, 6}, [2]int{5, 6}},
		{[2]int{100, -100}, [2]int{31, -31}, [2]int{-5, 5}},
		{[2]int{math.MaxInt, math.MinInt}, [2]int{-1, 0}, [2]int{0, 0}},
		{[2]int{math.MaxInt, math.MinInt}, [2]int{30, -32}, [2]int{31, -32}},
		{[2]int{math.MinInt, math.MaxInt}, [2]int{-1, 0}, [2]int{-1, 1}},
	} {
		first, _ := mvd.Row(v.diff[0])
		second, _ := mvd.Row(v.diff[1])
		put(t, "", true, v.pred, api.Cell{Mv: v.mv}, "0"+"1"+"11"+first+second)
		put(t, "", true, v.pred, api.Cell{Kind: api.InterQ, Step: 2, Mv: v.mv}, "0"+"011"+"11"+"11"+first+second)
		// What is foretold says nothing of cells that have no vector.
		for _, inter := range sheets() {
			for _, kind := range []int{api.Intra, api.IntraQ} {
				c := cell(kind, 33)
				put(t, "", inter, v.pred, c, told(t, inter, [2]int{}, c))
			}
		}
		put(t, "", true, v.pred, api.Cell{Skip: true}, "1")
	}
}

// No writer at all is told ahead of a cell that may not be; a zero one is as good as
// any other.
func TestWriters(t *testing.T) {
	for _, inter := range sheets() {
		for _, c := range append(many(true), api.Cell{Stuff: -1}, api.Cell{Kind: api.Four}, api.Cell{Skip: true, Step: 1}) {
			if err := cellout.Put(nil, inter, [2]int{1, 2}, c); err != api.ErrArg {
				t.Fatalf("Put(nil, %v, %v) = %d", inter, c, err)
			}
			var w outbits.Writer
			err := cellout.Put(&w, inter, [2]int{1, 2}, c)
			switch {
			case may(inter, c) && (err != api.OK || bits(&w) != told(t, inter, [2]int{1, 2}, c)):
				t.Fatalf("Put(%v, %v) = %d wrote %q", inter, c, err, bits(&w))
			case !may(inter, c) && (err != api.ErrTree || w.Len() != 0 || w.Text() != ""):
				t.Fatalf("Put(%v, %v) = %d wrote %q", inter, c, err, bits(&w))
			}
		}
	}
}

// Cells that stand one behind the other, with wrong ones between, which leave nothing.
func TestCellBehindCell(t *testing.T) {
	for _, inter := range sheets() {
		for n := range 10 {
			w, want := writer(t, ahead(n)), ahead(n)
			for i, c := range many(inter) {
				pred := [2]int{i - 50, 3 * i}
				at := len(want)
				want += told(t, inter, pred, c)
				if err := cellout.Put(w, inter, pred, c); err != api.OK {
					t.Fatalf("cell %d: %d", i, err)
				}
				again(t, w, at, inter, pred, c)
				c.Mv[i%2] = 32
				if err := cellout.Put(w, inter, pred, c); err != api.ErrTree {
					t.Fatalf("wrong cell %d: %d", i, err)
				}
			}
			if bits(w) != want {
				t.Fatalf("behind %q the bits are not those of the cells", ahead(n))
			}
		}
	}
}

// What is written hangs on the arguments alone: not on the writer, nor on what was
// written or asked ahead of it.
func TestPutTwice(t *testing.T) {
	for _, inter := range sheets() {
		for i, c := range many(inter) {
			pred := [2]int{i, -i}
			want := told(t, inter, pred, c)
			w := outbits.New()
			for n := range 3 {
				if cellout.Right(!inter, c) != may(!inter, c) || !cellout.Right(inter, c) {
					t.Fatalf("Right of %v", c)
				}
				if err := cellout.Put(w, inter, pred, c); err != api.OK || bits(w) != strings.Repeat(want, n+1) {
					t.Fatalf("Put(%v, %v, %v) = %d for the time %d", inter, pred, c, err, n)
				}
			}
		}
	}
}

// Neither the lists nor the room behind their ends is written to, or kept.
func TestListsStay(t *testing.T) {
	beyond := api.Event{Run: 9, Level: 77}
	for _, inter := range sheets() {
		for _, kind := range kinds(inter) {
			c := cell(kind, 63)
			kept := clone(c)
			for i := range c.Events {
				c.Events[i] = append(slices.Grow(list{}, 9), c.Events[i]...)
				for n := len(c.Events[i]); n < 9; n++ {
					c.Events[i][:9][n] = beyond
				}
			}
			w := outbits.New()
			if !cellout.Right(inter, c) || cellout.Put(w, inter, [2]int{}, c) != api.OK {
				t.Fatalf("Put(%v, %v)", inter, c)
			}
			if !equal(c, kept) {
				t.Fatalf("the cell became %v, was %v", c, kept)
			}
			was := bits(w)
			for i := range c.Events {
				for n := range c.Events[i][:9] {
					if n >= len(c.Events[i]) && c.Events[i][:9][n] != beyond {
						t.Fatalf("the room behind list %d was written to", i)
					}
					c.Events[i][:9][n] = api.Event{Run: -1}
				}
			}
			if bits(w) != was || was != told(t, inter, [2]int{}, kept) {
				t.Fatalf("a list was kept")
			}
		}
	}
}

// What was written is read again, whatever stands ahead of it and behind it.
func TestReadAgain(t *testing.T) {
	chance := rand.New(rand.NewSource(22))
	for _, inter := range sheets() {
		for _, c := range many(inter) {
			pred := [2]int{chance.Int() - chance.Int(), chance.Intn(200) - 100}
			for n := range 10 {
				for _, behind := range behinds() {
					w := writer(t, ahead(n))
					if err := cellout.Put(w, inter, pred, c); err != api.OK {
						t.Fatalf("Put(%v, %v, %v) = %d", inter, pred, c, err)
					}
					end := w.Len()
					w.Add(behind)
					r := inbits.New(w.Text())
					r.Seek(n)
					got, err := cellin.Take(r, inter, pred)
					if err != api.OK || !cellin.Same(got, c) || !equal(got, c) || r.At() != end {
						t.Fatalf("behind %d bits and ahead of %q: %v, %d at %d, want %v at %d", n, behind, got, err, r.At(), c, end)
					}
				}
			}
		}
	}
}

// taken asks, if a cell stands at that bit of s, that it may be, and that the bits of
// which it was read are what is written of it.
func taken(t *testing.T, s string, at int, inter bool, pred [2]int) bool {
	t.Helper()
	r := inbits.New(s)
	r.Seek(at)
	c, err := cellin.Take(r, inter, pred)
	if err != api.OK {
		return false
	}
	if !cellout.Right(inter, c) {
		t.Fatalf("Right(%v, %v) = false of a cell that was read", inter, c)
	}
	put(t, outbits.Show(s)[:at], inter, pred, c, outbits.Show(s)[at:r.At()])
	return true
}

// All texts of two bytes.
func TestShortTextsAgain(t *testing.T) {
	cells := 0
	for v := range 1 << 16 {
		s := string([]byte{byte(v >> 8), byte(v)})
		for _, inter := range sheets() {
			if taken(t, s, 0, inter, [2]int{v%64 - 32, v / 1024}) {
				cells++
			}
			taken(t, s, v%8, inter, [2]int{})
		}
	}
	if cells < 1000 {
		t.Errorf("%d cells were read", cells)
	}
}

// Texts of any bits, and cells one of whose bits is turned.
func TestAnyBitsAgain(t *testing.T) {
	chance := rand.New(rand.NewSource(23))
	cells := [2]int{}
	for range 60000 {
		b := make([]byte, 8+chance.Intn(60))
		chance.Read(b)
		if taken(t, string(b), chance.Intn(9), chance.Intn(2) == 0, [2]int{chance.Int() - chance.Int(), chance.Int()}) {
			cells[0]++
		}
	}
	for _, inter := range sheets() {
		for i, c := range many(inter) {
			pred := [2]int{i - 70, 40 - i}
			for range 40 {
				bits := []byte(ahead(i%9) + told(t, inter, pred, c))
				bits[i%9+chance.Intn(len(bits)-i%9)] ^= '0' ^ '1'
				s, _ := outbits.Pack(string(bits))
				if taken(t, s, i%9, inter, pred) {
					cells[1]++
				}
			}
		}
	}
	if cells[0] < 1000 || cells[1] < 1000 {
		t.Errorf("%v cells were read", cells)
	}
}

// Cells with one or two parts changed, against the chapter's words.
func TestAnyCells(t *testing.T) {
	chance := rand.New(rand.NewSource(24))
	numbers := append(ends(), -129, -128, -127, -64, -33, -32, -3, -2, -1, 0, 0, 1, 2, 3, 4, 5, 31, 32, 62, 63, 64, 65, 127, 128, 254, 255)
	any := func() int { return numbers[chance.Intn(len(numbers))] }
	changes := []func(c *api.Cell){
		func(c *api.Cell) { c.Stuff = any() },
		func(c *api.Cell) { c.Skip = !c.Skip },
		func(c *api.Cell) { c.Kind = any() },
		func(c *api.Cell) { c.Step = any() },
		func(c *api.Cell) { c.Mv[chance.Intn(2)] = any() },
		func(c *api.Cell) { c.Dc[chance.Intn(6)] = any() },
		func(c *api.Cell) { c.Events[chance.Intn(6)] = nil },
		func(c *api.Cell) { c.Events[chance.Intn(6)] = some(chance.Intn(7)) },
		func(c *api.Cell) {
			l := &c.Events[chance.Intn(6)]
			*l = append(slices.Clone(*l), api.Event{Last: chance.Intn(2) == 0, Run: any(), Level: any()})
		},
		func(c *api.Cell) {
			if l := c.Events[chance.Intn(6)]; len(l) > 0 {
				l[chance.Intn(len(l))] = api.Event{Last: chance.Intn(3) > 0, Run: any(), Level: any()}
			}
		},
	}
	met := map[bool]int{}
	for _, inter := range sheets() {
		for _, c := range many(inter) {
			for range 60 {
				d := clone(c)
				for range 1 + chance.Intn(2) {
					changes[chance.Intn(len(changes))](&d)
				}
				for _, inter := range sheets() {
					if cellout.Right(inter, d) != may(inter, d) {
						t.Fatalf("Right(%v, %v) = %v", inter, d, !may(inter, d))
					}
					w := writer(t, "01")
					err, want, tree := cellout.Put(w, inter, [2]int{7, -9}, d), "01", api.ErrTree
					if may(inter, d) {
						want, tree = "01"+told(t, inter, [2]int{7, -9}, d), api.OK
					}
					if err != tree || bits(w) != want {
						t.Fatalf("Put(%v, %v) = %d wrote %q, want %q", inter, d, err, bits(w), want)
					}
					met[may(inter, d)]++
				}
			}
		}
	}
	if met[true] < 1000 || met[false] < 1000 {
		t.Errorf("met %v", met)
	}
}

// Blocks may be written just where blocks' Put writes them.
func TestBlocksAsBlocks(t *testing.T) {
	lists := append(wrongEvents(), nil, list{}, some(0), some(4), ones(63), ones(64), ones(65), list{{Last: true, Run: 63, Level: 1}})
	for _, inter := range sheets() {
		for _, kind := range kinds(inter) {
			for _, dc := range append(ends(), -1, 0, 1, 2, 127, 128, 129, 253, 254, 255) {
				for n, l := range lists {
					c := cell(kind, 0)
					c.Dc[n%6], c.Events[n%6] = dc, l
					want := blocks.Put(outbits.New(), isIntra(kind), dc, l) == api.OK
					if cellout.Right(inter, c) != want {
						t.Fatalf("Right(%v, %v) = %v", inter, c, !want)
					}
				}
			}
		}
	}
}
