package residue_test

import (
	"math"
	"math/rand"
	"reflect"
	"slices"
	"testing"

	"overspill/api"
	"overspill/cellout"
	"overspill/dct"
	"overspill/residue"
	"overspill/runs"
	"overspill/scale"
	"overspill/scan"
)

type (
	list  = []api.Event
	block = [64]int
)

// kinds are those that a cell of an inter sheet may have.
func kinds() []int {
	return []int{api.Inter, api.InterQ, api.Intra, api.IntraQ}
}

func isIntra(c api.Cell) bool {
	return c.Kind == api.Intra || c.Kind == api.IntraQ
}

// quants are all quantisers, and what counts as one of them.
func quants() []int {
	l := []int{
		math.MinInt, math.MinInt + 1, -1 << 32, 1 - 1<<32, math.MinInt32, -256, -255, -31, -30, -2, -1, 0,
		32, 33, 62, 63, 64, 127, 128, 255, 256, 257, 65537, math.MaxInt32, 1 << 32, 1<<32 + 5, math.MaxInt - 1, math.MaxInt,
	}
	for quant := 1; quant <= 31; quant++ {
		l = append(l, quant)
	}
	return l
}

// some are events that blocks of all kinds may have, other ones for each n; the first
// are none.
func some(n int) list {
	return []list{
		nil,
		{{Last: true, Level: 1}},
		{{Level: -1}, {Last: true, Run: 2, Level: 1}},
		{{Last: true, Run: 40, Level: -3}},
		{{Run: 1, Level: 100}, {Level: 2}, {Last: true, Level: -1}},
		{{Last: true, Run: 62, Level: 127}},
		{{Level: 1}, {Level: -2}, {Level: 3}, {Last: true, Run: 5, Level: -127}},
	}[n%7]
}

// cell is one of that kind, other ones for each n.
func cell(kind, n int) api.Cell {
	c := api.Cell{Kind: kind, Stuff: n % 65}
	if kind == api.InterQ || kind == api.IntraQ {
		c.Step = []int{-2, -1, 1, 2}[n%4]
	}
	for i := range c.Events {
		if isIntra(c) {
			c.Dc[i] = 1 + (37*i+n)%254
		}
		c.Events[i] = some(i + n)
	}
	if !isIntra(c) {
		c.Mv = [2]int{n%64 - 32, 31 - n/2%64}
	}
	return c
}

// bare is one of that kind without events.
func bare(kind int) api.Cell {
	c := cell(kind, 3)
	c.Events = [6][]api.Event{}
	return c
}

// with is one of that kind, in one block of which there are these events.
func with(kind, number int, events ...api.Event) api.Cell {
	c := bare(kind)
	c.Events[number] = events
	return c
}

// anyEvents are some that a block may have whose levels are numbered from there on.
func anyEvents(chance *rand.Rand, from int) list {
	var l list
	for number := from + chance.Intn(20); number < 64; {
		level := 1 + chance.Intn(127)
		if chance.Intn(3) > 0 {
			level = 1 + chance.Intn(4)
		}
		if chance.Intn(2) == 0 {
			level = -level
		}
		run := number - from
		l, from = append(l, api.Event{Run: run, Level: level}), number+1
		number = from + chance.Intn(1+chance.Intn(40))
	}
	if len(l) > 0 {
		l[len(l)-1].Last = true
	}
	return l
}

// anyCell is one that may be in an inter sheet.
func anyCell(chance *rand.Rand) api.Cell {
	if chance.Intn(20) == 0 {
		return api.Cell{Stuff: chance.Intn(65), Skip: true}
	}
	c := cell(kinds()[chance.Intn(4)], chance.Intn(1000))
	for i := range c.Events {
		from := 0
		if isIntra(c) {
			from, c.Dc[i] = 1, 1+chance.Intn(254)
		}
		c.Events[i] = nil
		if chance.Intn(3) > 0 {
			c.Events[i] = anyEvents(chance, from)
		}
	}
	return c
}

// clone has lists of its own.
func clone(c api.Cell) api.Cell {
	for i := range c.Events {
		c.Events[i] = slices.Clone(c.Events[i])
	}
	return c
}

// place says by chapter 11's words where number k of a block stands.
func place(k int) int {
	for d := 0; ; d++ {
		for i := 0; i <= d; i++ {
			row := i
			if d%2 == 0 {
				row = d - i
			}
			column := d - row
			if row > 7 || column > 7 {
				continue
			}
			if k == 0 {
				return 8*row + column
			}
			k--
		}
	}
}

// places has it of each number.
func places() block {
	var l block
	for k := range l {
		l[k] = place(k)
	}
	return l
}

// levels says by the chapters' words which levels stand where.
func levels(c api.Cell) api.Patch {
	var p api.Patch
	at := places()
	for i, events := range c.Events {
		next := 0
		if isIntra(c) {
			next = 1
		}
		for _, e := range events {
			p[i][at[next+e.Run]] = e.Level
			next += e.Run + 1
		}
	}
	return p
}

// bounded brings n to the bounds, as what is clipped counts.
func bounded(n, low, high int) int {
	return min(max(n, low), high)
}

// value says by chapter 12's words what a quantiser makes of a level.
func value(level, quant int) int {
	quant = bounded(quant, 1, 31)
	n := 0
	switch {
	case level > 0:
		n = quant*(2*level+1) - (1 - quant%2)
	case level < 0:
		n = quant*(2*level-1) + (1 - quant%2)
	}
	return bounded(n, -2048, 2047)
}

// values says by the chapters' words what the quantiser makes of a cell.
func values(c api.Cell, quant int) api.Patch {
	p := levels(c)
	for i := range p {
		for place, level := range p[i] {
			p[i][place] = value(level, quant)
		}
		if isIntra(c) {
			p[i][0] = 8 * c.Dc[i]
		}
	}
	return p
}

// weights stand in chapter 14.
var weights = [8][8]int{
	{64, 64, 64, 64, 64, 64, 64, 64},
	{89, 75, 50, 18, -18, -50, -75, -89},
	{83, 36, -36, -83, -83, -36, 36, 83},
	{75, -18, -89, -50, 50, 89, 18, -75},
	{64, -64, -64, 64, 64, -64, -64, 64},
	{50, -89, 18, 75, -75, -18, 89, -50},
	{36, -83, 83, -36, -36, 83, -83, 36},
	{18, -50, 75, -89, 89, -75, 50, -18},
}

// samples says by the chapters' words what is added to a cell's prediction.
func samples(c api.Cell, quant int) api.Patch {
	var p api.Patch
	for i, numbers := range values(c, quant) {
		for place := range p[i] {
			sum := 0
			for from, n := range numbers {
				sum += weights[from%8][place%8] * weights[from/8][place/8] * n
			}
			p[i][place] = bounded((sum+1<<14)>>15, -256, 255)
		}
	}
	return p
}

// right asks all three of a cell that may be, by that quantiser.
func right(t *testing.T, c api.Cell, quant int) {
	t.Helper()
	kept := clone(c)
	if p, err := residue.Levels(c); err != api.OK || p != levels(c) {
		t.Fatalf("Levels(%v) = %v, %d, want %v", c, p, err, levels(c))
	}
	if p, err := residue.Values(c, quant); err != api.OK || p != values(c, quant) {
		t.Fatalf("Values(%v, %d) = %v, %d, want %v", c, quant, p, err, values(c, quant))
	}
	if p, err := residue.Of(c, quant); err != api.OK || p != samples(c, quant) {
		t.Fatalf("Of(%v, %d) = %v, %d, want %v", c, quant, p, err, samples(c, quant))
	}
	if !reflect.DeepEqual(c, kept) {
		t.Fatalf("the cell became %v, was %v", c, kept)
	}
}

// wrong asks all three of one that may not be: ErrTree, and noughts.
func wrong(t *testing.T, what string, c api.Cell) {
	t.Helper()
	kept := clone(c)
	if p, err := residue.Levels(c); err != api.ErrTree || p != (api.Patch{}) {
		t.Fatalf("%s: Levels(%v) = %v, %d", what, c, p, err)
	}
	for _, quant := range []int{math.MinInt, -1, 0, 1, 4, 5, 31, 32, math.MaxInt} {
		if p, err := residue.Values(c, quant); err != api.ErrTree || p != (api.Patch{}) {
			t.Fatalf("%s: Values(%v, %d) = %v, %d", what, c, quant, p, err)
		}
		if p, err := residue.Of(c, quant); err != api.ErrTree || p != (api.Patch{}) {
			t.Fatalf("%s: Of(%v, %d) = %v, %d", what, c, quant, p, err)
		}
	}
	if !reflect.DeepEqual(c, kept) {
		t.Fatalf("%s: the cell became %v, was %v", what, c, kept)
	}
}

// one has a number at a place of a block, and noughts elsewhere.
func one(number, place, n int) api.Patch {
	var p api.Patch
	p[number][place] = n
	return p
}

// flat has a number all over a block, and noughts elsewhere.
func flat(number, n int) api.Patch {
	var p api.Patch
	for place := range p[number] {
		p[number][place] = n
	}
	return p
}

func TestExample(t *testing.T) {
	c := api.Cell{Kind: api.Inter, Events: [6][]api.Event{2: {{Last: true, Level: 3}}}}
	if p, err := residue.Levels(c); p != one(2, 0, 3) || err != api.OK {
		t.Errorf("Levels: %v, %d", p, err)
	}
	if p, err := residue.Values(c, 5); p != one(2, 0, 35) || err != api.OK {
		t.Errorf("Values: %v, %d", p, err)
	}
	if p, err := residue.Of(c, 5); p != flat(2, 4) || err != api.OK {
		t.Errorf("Of: %v, %d", p, err)
	}
}

// Some cells, as they stand on paper.
func TestOnPaper(t *testing.T) {
	// Level 1 of an intra block has number 1, at place 1; its Dc number 0.
	c := api.Cell{Kind: api.Intra, Dc: [6]int{10, 1, 254, 128, 2, 3}, Events: [6][]api.Event{3: {{Last: true, Level: 1}}}}
	if p, err := residue.Levels(c); p != one(3, 1, 1) || err != api.OK {
		t.Errorf("Levels: %v, %d", p, err)
	}
	want := api.Patch{{80}, {8}, {2032}, {1024, 3}, {16}, {24}}
	if p, err := residue.Values(c, 1); p != want || err != api.OK {
		t.Errorf("Values: %v, %d", p, err)
	}
	want[3][1] = 11
	if p, err := residue.Values(c, 4); p != want || err != api.OK {
		t.Errorf("Values: %v, %d", p, err)
	}
	p, err := residue.Of(c, 1)
	for i, n := range []int{10, 1, 254, 0, 2, 3} {
		if i != 3 && (p[i] != flat(i, n)[i] || err != api.OK) {
			t.Errorf("Of: block %d %v, %d", i, p[i], err)
		}
	}
	// 64 (64 times 1024 and 3 times each weight), by 15 bits: 128 and a half, and what
	// the weights add.
	for place, n := range p[3] {
		if w := []int{89, 75, 50, 18, -18, -50, -75, -89}[place%8]; n != (64*(64*1024+3*w)+16384)/32768 {
			t.Errorf("Of: %d at place %d", n, place)
		}
	}
	// The least and the most that is told of a predicted block.
	for _, v := range []struct{ level, quant, value, sample int }{
		{127, 31, 2047, 255}, {-127, 31, -2048, -256}, {127, 1, 255, 32}, {-127, 2, -509, -64}, {1, 1, 3, 0}, {1, 31, 93, 12},
		{-1, 30, -89, -11}, {-1, 31, -93, -12}, {4, 0, 9, 1}, {4, 32, 279, 35},
	} {
		for i := range 6 {
			c := with(api.Inter, i, api.Event{Last: true, Level: v.level})
			if p, err := residue.Values(c, v.quant); p != one(i, 0, v.value) || err != api.OK {
				t.Errorf("Values(%v, %d) = %v, %d", c, v.quant, p, err)
			}
			if p, err := residue.Of(c, v.quant); p != flat(i, v.sample) || err != api.OK {
				t.Errorf("Of(%v, %d) = %v, %d", c, v.quant, p, err)
			}
		}
	}
}

// Each number of each block alone, in cells of each kind.
func TestNumbers(t *testing.T) {
	for _, kind := range kinds() {
		for i := range 6 {
			for run := range 64 {
				c := with(kind, i, api.Event{Last: true, Run: run, Level: 1 + run - 2*(run%2)*(1+run)})
				if isIntra(c) && run == 63 {
					wrong(t, "number 64", c)
					continue
				}
				right(t, c, 1+(run+i)%31)
			}
		}
	}
}

// All 64 levels, or 63, of one block, and of all.
func TestFullBlocks(t *testing.T) {
	for _, kind := range kinds() {
		full := bare(kind)
		for i := range 6 {
			var l list
			for n := range 64 {
				l = append(l, api.Event{Level: (n+i)%127 + 1 - 2*(n%2)*((n+i)%127+1)})
			}
			if isIntra(full) {
				l = l[1:]
			}
			l[len(l)-1].Last = true
			right(t, with(kind, i, l...), 7+i)
			full.Events[i] = l
		}
		for _, quant := range []int{1, 2, 16, 31} {
			right(t, full, quant)
		}
	}
}

// Each quantiser, and each number that counts as one, with each level.
func TestQuants(t *testing.T) {
	for _, quant := range quants() {
		for _, kind := range kinds() {
			right(t, cell(kind, 1000+bounded(quant, -100, 100)), quant)
		}
		for level := -127; level <= 127; level++ {
			if level == 0 {
				continue
			}
			i := (level + 127) % 6
			c := with(api.Inter, i, api.Event{Last: true, Level: level})
			if p, err := residue.Values(c, quant); p != one(i, 0, value(level, quant)) || err != api.OK {
				t.Fatalf("Values(%v, %d) = %v, %d", c, quant, p, err)
			}
		}
	}
	// The cell's own step has no part in it.
	for _, kind := range []int{api.InterQ, api.IntraQ} {
		for _, step := range []int{-2, -1, 1, 2} {
			c := cell(kind, 5)
			c.Step = step
			right(t, c, 9)
		}
	}
}

// Each Dc, which number 0 is made of, and no level.
func TestDcs(t *testing.T) {
	for dc := 1; dc <= 254; dc++ {
		for i := range 6 {
			c := with(api.Intra, (i+1)%6, some(dc)...)
			c.Dc = [6]int{7, 77, 177, 107, 17, 70}
			c.Dc[i] = dc
			right(t, c, 1+dc%31)
			if p, _ := residue.Of(c, 5); p[i] != flat(i, dc)[i] {
				t.Fatalf("of dc %d: %v", dc, p[i])
			}
		}
	}
}

// What is told of a cell that is skipped, and of a predicted one without events, is
// noughts, whatever else it has.
func TestNoughts(t *testing.T) {
	var l []api.Cell
	for stuff := 0; stuff <= 64; stuff++ {
		l = append(l, api.Cell{Stuff: stuff, Skip: true}, api.Cell{Stuff: stuff}, api.Cell{Stuff: stuff, Kind: api.InterQ, Step: 1})
	}
	for n := -32; n <= 31; n++ {
		l = append(l, api.Cell{Mv: [2]int{n, 0}}, api.Cell{Mv: [2]int{0, n}}, api.Cell{Mv: [2]int{n, ^n}})
	}
	for _, step := range []int{-2, -1, 1, 2} {
		l = append(l, api.Cell{Kind: api.InterQ, Step: step, Events: [6][]api.Event{{}, nil, {}, {}, nil, {}}})
	}
	for _, c := range l {
		for _, quant := range quants() {
			a, err := residue.Levels(c)
			b, second := residue.Values(c, quant)
			d, third := residue.Of(c, quant)
			if a != (api.Patch{}) || b != a || d != a || err != api.OK || second != api.OK || third != api.OK {
				t.Fatalf("%v by %d: %v, %d; %v, %d; %v, %d", c, quant, a, err, b, second, d, third)
			}
		}
	}
}

// Of an intra cell without events nothing but its Dcs is told.
func TestIntraWithoutEvents(t *testing.T) {
	for _, kind := range []int{api.Intra, api.IntraQ} {
		c := bare(kind)
		if p, err := residue.Levels(c); p != (api.Patch{}) || err != api.OK {
			t.Fatalf("Levels(%v) = %v, %d", c, p, err)
		}
		for _, quant := range quants() {
			p, err := residue.Of(c, quant)
			for i := range p {
				if p[i] != flat(i, c.Dc[i])[i] || err != api.OK {
					t.Fatalf("Of(%v, %d) = %v, %d", c, quant, p, err)
				}
			}
		}
	}
}

// wild are numbers at the ends of an int, and about those of other parts.
func wild() []int {
	return []int{
		math.MinInt, math.MinInt + 1, -1 << 32, 1 - 1<<32, math.MinInt32, -65536, -256, -129, -128, -65, -64, -33,
		65, 128, 255, 256, 257, 65536, math.MaxInt32, 1 << 32, 1<<32 + 1, math.MaxInt - 1, math.MaxInt,
	}
}

// Each part of a cell alone, wrong.
func TestWrongCells(t *testing.T) {
	for _, kind := range kinds() {
		for _, n := range append(wild(), -1) {
			c := cell(kind, 4)
			c.Stuff = n
			wrong(t, "Stuff", c)
			c = cell(kind, 4)
			c.Kind = n
			wrong(t, "Kind", c)
			c = cell(kind, 4)
			c.Step = n
			if n != -1 || kind == api.Inter || kind == api.Intra {
				wrong(t, "Step", c)
			}
			for i := range c.Mv {
				c = cell(kind, 4)
				c.Mv[i] = n
				if n != -1 || isIntra(c) {
					wrong(t, "Mv", c)
				}
			}
			for i := range c.Dc {
				c = cell(kind, 4)
				c.Dc[i] = n
				if !isIntra(c) || n < 1 || n > 254 {
					wrong(t, "Dc", c)
				}
			}
		}
		for _, n := range []int{api.Four, 5, 6} {
			c := cell(kind, 4)
			c.Kind = n
			wrong(t, "Kind", c)
		}
		c := cell(kind, 4)
		c.Skip = true
		wrong(t, "Skip", c)
	}
	wrong(t, "Stuff", api.Cell{Stuff: 65, Skip: true})
	wrong(t, "Stuff", api.Cell{Stuff: -1, Skip: true})
	wrong(t, "Kind", api.Cell{Kind: api.Intra, Skip: true, Dc: [6]int{1, 1, 1, 1, 1, 1}})
	wrong(t, "Kind", api.Cell{Kind: api.InterQ, Skip: true, Step: 1})
	wrong(t, "Mv", api.Cell{Skip: true, Mv: [2]int{0, 1}})
	wrong(t, "Events", api.Cell{Skip: true, Events: [6][]api.Event{5: {{Last: true, Level: 1}}}})
	wrong(t, "Dc", api.Cell{Kind: api.Intra})
	wrong(t, "Dc", api.Cell{Dc: [6]int{5: 1}})
	wrong(t, "Step", api.Cell{Kind: api.InterQ})
	wrong(t, "Step", api.Cell{Kind: api.InterQ, Step: 3})
	wrong(t, "Step", api.Cell{Step: 1})
}

// Events that may not be, in each block of cells of each kind.
func TestWrongEvents(t *testing.T) {
	for _, kind := range kinds() {
		for i := range 6 {
			for _, l := range []list{
				{{Last: true}}, {{Last: true, Run: 3}}, {{Level: 1}}, {{Level: 1}, {Level: 1}}, {{Last: true, Level: 1}, {Level: 1}},
				{{Last: true, Level: 1}, {Last: true, Level: 1}}, {{Level: 1}, {Last: true}}, {{}, {Last: true, Level: 1}},
				{{Last: true, Run: -1, Level: 1}}, {{Last: true, Run: 64, Level: 1}}, {{Last: true, Level: 128}}, {{Last: true, Level: -128}},
				{{Run: 62, Level: 1}, {Level: 1}, {Last: true, Level: 1}}, {{Run: 31, Level: 1}, {Last: true, Run: 32, Level: 1}},
				slices.Repeat(list{{Level: 1}}, 65),
			} {
				c := cell(kind, 4)
				c.Events[i] = l
				wrong(t, "Events", c)
			}
			for _, n := range wild() {
				if n < -127 || n > 127 {
					wrong(t, "Level", with(kind, i, api.Event{Last: true, Level: n}))
				}
				wrong(t, "Run", with(kind, i, api.Event{Last: true, Run: n, Level: 1}))
				wrong(t, "Run", with(kind, i, api.Event{Level: 1}, api.Event{Last: true, Run: n, Level: 1}))
			}
		}
	}
}

// Cells that may be in an inter sheet alone, or in each sheet: both are asked as if
// in an inter one.
func TestKinds(t *testing.T) {
	for n := range 200 {
		for _, kind := range kinds() {
			right(t, cell(kind, n), 1+n%31)
		}
	}
}

// Any cells against the chapters' words, and, one by one, against the layers' calls.
func TestAnyCells(t *testing.T) {
	chance := rand.New(rand.NewSource(29))
	for range 1500 {
		c, quant := anyCell(chance), chance.Intn(36)-2
		right(t, c, quant)
		layers(t, c, quant)
	}
}

// layers asks block by block what the layers below tell.
func layers(t *testing.T, c api.Cell, quant int) {
	t.Helper()
	from := 0
	if isIntra(c) {
		from = 1
	}
	a, _ := residue.Levels(c)
	b, _ := residue.Values(c, quant)
	d, _ := residue.Of(c, quant)
	for i := range c.Events {
		l, err := runs.Levels(c.Events[i], from)
		if err != api.OK || a[i] != scan.Raster(l) {
			t.Fatalf("Levels(%v): block %d %v", c, i, a[i])
		}
		if b[i] != scale.Block(a[i], quant, isIntra(c), c.Dc[i]) || d[i] != dct.Inverse(b[i]) {
			t.Fatalf("by %d %v: block %d %v, %v", quant, c, i, b[i], d[i])
		}
	}
}

// Cells changed in some part: what cellout says may be, may be here.
func TestChangedCells(t *testing.T) {
	chance := rand.New(rand.NewSource(290))
	may, mayNot := 0, 0
	for range 6000 {
		c := clone(anyCell(chance))
		n := append(wild(), -2, -1, 0, 1, 2, 3, 4, 5)[chance.Intn(len(wild())+8)]
		i := chance.Intn(6)
		switch chance.Intn(9) {
		case 0:
			c.Stuff = n
		case 1:
			c.Skip = !c.Skip
		case 2:
			c.Kind = n
		case 3:
			c.Step = n
		case 4:
			c.Mv[i%2] = n
		case 5:
			c.Dc[i] = n
		default:
			c.Events[i] = spoilt(chance, c.Events[i], n)
		}
		if cellout.Right(true, c) {
			may++
			right(t, c, n)
		} else {
			mayNot++
			wrong(t, "changed", c)
		}
	}
	if may < 500 || mayNot < 500 {
		t.Fatalf("%d may be, %d not", may, mayNot)
	}
}

// spoilt are events, one of which has n for a part, or is gone, or told once more.
func spoilt(chance *rand.Rand, l list, n int) list {
	if len(l) == 0 {
		return list{{Last: true, Run: chance.Intn(64), Level: n}}
	}
	i := chance.Intn(len(l))
	switch chance.Intn(5) {
	case 0:
		l[i].Run = n
	case 1:
		l[i].Level = n
	case 2:
		l[i].Last = !l[i].Last
	case 3:
		l = slices.Delete(l, i, i+1)
	case 4:
		l = slices.Insert(l, i, api.Event{Run: n & 3, Level: 1})
	}
	return l
}

// What lies behind the ends of events is neither read nor changed.
func TestRoomBehindEvents(t *testing.T) {
	behind := list{{Level: 1}, {Run: 1, Level: -2}, {Last: true, Run: 3, Level: 5}, {Run: 7, Level: 9}, {Last: true, Level: 99}}
	for _, kind := range kinds() {
		for i := range 6 {
			whole := slices.Clone(behind)
			c := with(kind, i, whole[:3]...)
			right(t, c, 11)
			if !slices.Equal(whole, behind) {
				t.Fatalf("behind the events: %v", whole)
			}
			c.Events[i] = whole[:0]
			right(t, c, 11)
			if !slices.Equal(whole, behind) {
				t.Fatalf("behind no events: %v", whole)
			}
		}
	}
}

// One list of events in all blocks is read for each of them.
func TestSharedEvents(t *testing.T) {
	for _, kind := range kinds() {
		c := bare(kind)
		l := list{{Level: 5}, {Last: true, Run: 9, Level: -6}}
		for i := range c.Events {
			c.Events[i] = l
		}
		right(t, c, 6)
	}
}

// What was told before has no part in what is told.
func TestAgain(t *testing.T) {
	for n := range 100 {
		c, other := cell(kinds()[n%4], n), cell(kinds()[n/4%4], n+3)
		right(t, c, 8)
		right(t, other, 9)
		wrong(t, "in between", api.Cell{Kind: api.Four})
		right(t, c, 8)
	}
}
