package planes_test

import (
	"bytes"
	"math"
	"math/rand"
	"reflect"
	"slices"
	"testing"

	"overspill/api"
	"overspill/planes"
)

// greatness is what this package takes from the formats, as it stands on paper.
type greatness struct {
	widths, samples [3]int
	across, cells   int
}

// table is that of all formats. Number 0 is none.
func table() [7]greatness {
	return [7]greatness{
		1: {[3]int{128, 64, 64}, [3]int{12288, 3072, 3072}, 8, 48},
		2: {[3]int{176, 88, 88}, [3]int{25344, 6336, 6336}, 11, 99},
		3: {[3]int{352, 176, 176}, [3]int{101376, 25344, 25344}, 22, 396},
		4: {[3]int{704, 352, 352}, [3]int{405504, 101376, 101376}, 44, 1584},
		5: {[3]int{1408, 704, 704}, [3]int{1622016, 405504, 405504}, 88, 6336},
		6: {[3]int{32, 16, 16}, [3]int{1024, 256, 256}, 2, 4},
	}
}

// noFormats are numbers that are none: some are one in fewer bits.
func noFormats() []int {
	l := []int{math.MinInt, math.MinInt + 1, math.MinInt + 6, math.MaxInt - 1, math.MaxInt}
	for n := range 60 {
		l = append(l, -n, 7+n)
	}
	for n := 1; n <= 6; n++ {
		l = append(l, 256+n, n-256, 65536+n, n-65536, 1<<32+n, n-1<<32)
	}
	return l
}

// noCells are numbers of cells that the format does not have.
func noCells(format int) []int {
	cells := table()[format].cells
	return []int{
		-1, -2, -cells, cells, cells + 1, 2 * cells, 1 << 16, 1 << 32, 1<<32 + 1, -(1 << 32), 1 - 1<<32,
		math.MinInt, math.MinInt + 1, math.MinInt + cells - 1, math.MaxInt - 1, math.MaxInt,
	}
}

// bounds are samples, and what they count as, at the bounds and beyond them.
func bounds() map[int]byte {
	return map[int]byte{
		0: 0, 1: 1, 2: 2, 127: 127, 128: 128, 129: 129, 254: 254, 255: 255,
		256: 255, 257: 255, 300: 255, 511: 255, 512: 255, 1 << 16: 255, 1 << 31: 255, 1 << 32: 255, 1<<32 + 7: 255,
		1 << 62: 255, math.MaxInt - 255: 255, math.MaxInt - 1: 255, math.MaxInt: 255,
		-1: 0, -2: 0, -127: 0, -128: 0, -255: 0, -256: 0, -257: 0, -(1 << 16): 0, -(1 << 31): 0, -(1 << 32): 0,
		9 - 1<<32: 0, math.MinInt + 255: 0, math.MinInt + 1: 0, math.MinInt: 0,
	}
}

// made is a frame each sample of which is what it tells of its plane and number.
func made(format int, tells func(plane, n int) byte) api.Frame {
	f := api.Frame{Format: format}
	for plane, samples := range table()[format].samples {
		f.Planes[plane] = make([]byte, samples)
		for n := range samples {
			f.Planes[plane][n] = tells(plane, n)
		}
	}
	return f
}

// mixed is a frame in which neighbours differ, another one for each seed.
func mixed(format int, seed int64) api.Frame {
	random := rand.New(rand.NewSource(seed))
	return made(format, func(int, int) byte { return byte(random.Intn(256)) })
}

// copied is f in memory of its own.
func copied(f api.Frame) api.Frame {
	for plane, l := range f.Planes {
		f.Planes[plane] = slices.Clone(l)
	}
	return f
}

// place is the plane and the number of sample i of that block of cell n, reckoned
// by its column and its line.
func place(format, n, block, i int) (int, int) {
	g := table()[format]
	plane, x, y := 0, n%g.across*8, n/g.across*8
	switch block {
	case 0:
		x, y = 2*x, 2*y
	case 1:
		x, y = 2*x+8, 2*y
	case 2:
		x, y = 2*x, 2*y+8
	case 3:
		x, y = 2*x+8, 2*y+8
	default:
		plane = block - 3
	}
	return plane, (y+i/8)*g.widths[plane] + x + i%8
}

// paper is the patch of cell n of f, as the chapter lays blocks out.
func paper(f api.Frame, n int) api.Patch {
	var p api.Patch
	for block := range p {
		for i := range p[block] {
			plane, at := place(f.Format, n, block, i)
			p[block][i] = int(f.Planes[plane][at])
		}
	}
	return p
}

// flat is a patch all samples of which are one.
func flat(sample int) api.Patch {
	var p api.Patch
	for block := range p {
		for i := range p[block] {
			p[block][i] = sample
		}
	}
	return p
}

func newFrame(t *testing.T, format, sample int) api.Frame {
	t.Helper()
	f, err := planes.New(format, sample)
	if err != api.OK {
		t.Fatalf("New(%d, %d): %d", format, sample, err)
	}
	return f
}

func cut(t *testing.T, f api.Frame, n int) api.Patch {
	t.Helper()
	p, err := planes.Cut(f, n)
	if err != api.OK {
		t.Fatalf("Cut(format %d, %d): %d", f.Format, n, err)
	}
	return p
}

func on(t *testing.T, format int) *planes.Canvas {
	t.Helper()
	c, err := planes.On(format)
	if err != api.OK || c == nil {
		t.Fatalf("On(%d) = %v, %d", format, c, err)
	}
	return c
}

func lay(t *testing.T, c *planes.Canvas, n int, p api.Patch) {
	t.Helper()
	if err := c.Lay(n, p); err != api.OK {
		t.Fatalf("Lay(%d): %d", n, err)
	}
}

// equal holds frames against each other without a call of the package.
func equal(t *testing.T, what string, got, want api.Frame) {
	t.Helper()
	if got.Format != want.Format {
		t.Fatalf("%s: format %d, want %d", what, got.Format, want.Format)
	}
	for plane := range want.Planes {
		if len(got.Planes[plane]) != len(want.Planes[plane]) {
			t.Fatalf("%s: plane %d has %d samples, want %d", what, plane, len(got.Planes[plane]), len(want.Planes[plane]))
		}
		for n, sample := range want.Planes[plane] {
			if got.Planes[plane][n] != sample {
				t.Fatalf("%s: sample %d of plane %d is %d, want %d", what, n, plane, got.Planes[plane][n], sample)
			}
		}
	}
}

// holder is a canvas on which all cells of f are laid.
func holder(t *testing.T, f api.Frame) *planes.Canvas {
	t.Helper()
	c := on(t, f.Format)
	for n := range table()[f.Format].cells {
		lay(t, c, n, paper(f, n))
	}
	return c
}

func TestExample(t *testing.T) {
	f := newFrame(t, 6, 300)
	if f.Format != 6 {
		t.Errorf("New(6, 300) has format %d", f.Format)
	}
	for plane, samples := range [3]int{1024, 256, 256} {
		if want := bytes.Repeat([]byte{255}, samples); !bytes.Equal(f.Planes[plane], want) {
			t.Errorf("plane %d of New(6, 300): %d samples %v", plane, len(f.Planes[plane]), f.Planes[plane])
		}
	}
}

func TestNewOfAllFormats(t *testing.T) {
	for format := 1; format <= 6; format++ {
		for sample, want := range bounds() {
			f := newFrame(t, format, sample)
			for plane, samples := range table()[format].samples {
				l := f.Planes[plane]
				if f.Format != format || len(l) != samples || bytes.Count(l, []byte{want}) != samples {
					t.Errorf("New(%d, %d): format %d, plane %d has %d samples, want %d of %d",
						format, sample, f.Format, plane, len(l), samples, want)
				}
			}
		}
	}
}

func TestNewOfAllSamples(t *testing.T) {
	for sample := range 256 {
		want := made(6, func(int, int) byte { return byte(sample) })
		equal(t, "New", newFrame(t, 6, sample), want)
	}
}

func TestNewOfNoFormat(t *testing.T) {
	for _, format := range noFormats() {
		for _, sample := range []int{0, 10, 255, -1, 256, math.MinInt, math.MaxInt} {
			f, err := planes.New(format, sample)
			if err != api.ErrArg || !reflect.DeepEqual(f, api.Frame{}) {
				t.Errorf("New(%d, %d) = %v, %d", format, sample, f, err)
			}
		}
	}
}

// What is changed in a plane, or put behind it, is in no other plane, nor in
// another answer.
func sharesNothing(t *testing.T, what string, tells func() api.Frame) {
	t.Helper()
	want := copied(tells())
	for changed := range want.Planes {
		f, other := tells(), tells()
		for n := range f.Planes[changed] {
			f.Planes[changed][n] ^= 0xff
		}
		behind := f.Planes[changed][len(f.Planes[changed]):cap(f.Planes[changed])]
		for n := range behind {
			behind[n] ^= 0xff
		}
		f.Planes[changed] = want.Planes[changed]
		equal(t, what+", one plane changed", f, want)
		equal(t, what+", another answer", other, want)
		equal(t, what+", asked anew", tells(), want)
	}
}

func TestNewSharesNothing(t *testing.T) {
	for format := 1; format <= 6; format++ {
		sharesNothing(t, "New", func() api.Frame { return newFrame(t, format, 77) })
	}
}

func TestRight(t *testing.T) {
	for format := 1; format <= 6; format++ {
		for _, f := range []api.Frame{newFrame(t, format, 9), mixed(format, 1)} {
			if !planes.Right(f) {
				t.Errorf("a frame of format %d is not right", format)
			}
		}
	}
}

// offFrames are frames that are not right, by one plane, by all, or by their
// Format.
func offFrames(format int) []api.Frame {
	var l []api.Frame
	f := made(format, func(plane, n int) byte { return byte(n + plane) })
	for plane, samples := range f.Planes {
		for _, off := range [][]byte{
			samples[1:], samples[:len(samples)-1], append(slices.Clone(samples), 0), {}, nil, samples[:1],
			samples[:len(samples)/2], append(slices.Clone(samples), samples...),
		} {
			g := f
			g.Planes[plane] = off
			l = append(l, g)
		}
	}
	for other := -1; other <= 8; other++ {
		if other == format {
			continue
		}
		g := f
		g.Format = other
		l = append(l, g)
		if other >= 1 && other <= 6 {
			g = made(other, func(int, int) byte { return 5 })
			g.Format = format
			l = append(l, g)
		}
	}
	l = append(l, api.Frame{Format: format})
	l = append(l, api.Frame{Format: format, Planes: [3][]byte{{}, {}, {}}})
	l = append(l, api.Frame{Format: format, Planes: [3][]byte{f.Planes[1], f.Planes[0], f.Planes[2]}})
	l = append(l, api.Frame{Format: format, Planes: [3][]byte{f.Planes[0], f.Planes[0], f.Planes[0]}})
	// As many samples in all, one of them in a plane beside its own.
	short, long := f.Planes[1][1:], append(slices.Clone(f.Planes[2]), 1)
	return append(l, api.Frame{Format: format, Planes: [3][]byte{f.Planes[0], short, long}})
}

// strays are frames of what is no format: also with no samples, as many as such a
// format has.
func strays() []api.Frame {
	var l []api.Frame
	full := made(6, func(int, int) byte { return 1 })
	for _, format := range noFormats() {
		l = append(l, api.Frame{Format: format})
		l = append(l, api.Frame{Format: format, Planes: [3][]byte{{}, nil, {}}})
		l = append(l, api.Frame{Format: format, Planes: full.Planes})
	}
	return l
}

func TestNotRight(t *testing.T) {
	for format := 1; format <= 6; format++ {
		for n, f := range offFrames(format) {
			if planes.Right(f) {
				t.Errorf("frame %d beside format %d, of %d, %d and %d samples and format %d, is right", n, format,
					len(f.Planes[0]), len(f.Planes[1]), len(f.Planes[2]), f.Format)
			}
		}
	}
	for _, f := range strays() {
		if planes.Right(f) {
			t.Errorf("a frame of format %d and %d samples is right", f.Format, len(f.Planes[0]))
		}
	}
}

// same asks both ways round.
func same(t *testing.T, what string, a, b api.Frame, want bool) {
	t.Helper()
	if got := planes.Same(a, b); got != want {
		t.Errorf("%s: Same(a, b) = %v", what, got)
	}
	if got := planes.Same(b, a); got != want {
		t.Errorf("%s: Same(b, a) = %v", what, got)
	}
}

func TestSame(t *testing.T) {
	for format := 1; format <= 6; format++ {
		f := mixed(format, 2)
		same(t, "a frame and itself", f, f, true)
		same(t, "a frame and its copy", f, copied(f), true)
		same(t, "a frame and another one", f, mixed(format, 3), false)
		same(t, "a frame and a zero one", f, api.Frame{}, false)
		for other := range 9 {
			g := f
			g.Format = other
			same(t, "another Format", f, g, other == format)
		}
		for plane := range f.Planes {
			last := len(f.Planes[plane]) - 1
			for _, n := range []int{0, 1, last / 2, last - 1, last} {
				for _, bit := range []byte{1, 0x80, 0xff} {
					g := copied(f)
					g.Planes[plane][n] ^= bit
					same(t, "one sample different", f, g, false)
				}
			}
		}
	}
}

func TestSameOfEachSample(t *testing.T) {
	f := mixed(6, 4)
	for plane := range f.Planes {
		for n := range f.Planes[plane] {
			g := copied(f)
			g.Planes[plane][n]++
			same(t, "one sample different", f, g, false)
		}
	}
}

func TestSameOfFramesThatAreNotRight(t *testing.T) {
	for _, format := range []int{2, 6} {
		f := mixed(format, 5)
		for _, g := range offFrames(format) {
			same(t, "a frame that is not right, and itself", g, g, true)
			same(t, "a frame that is not right, and its copy", g, copied(g), true)
			same(t, "a frame that is right, and one that is not", f, g, false)
		}
		for plane := range f.Planes {
			for _, l := range [][]byte{f.Planes[plane][1:], f.Planes[plane][:len(f.Planes[plane])-1], {}, nil} {
				g := f
				g.Planes[plane] = l
				same(t, "a plane of another length", f, g, false)
			}
		}
	}
}

func TestSameOfNoFormats(t *testing.T) {
	few := [3][]byte{{1, 2}, {3}, {4, 5, 6}}
	for _, format := range noFormats() {
		a := api.Frame{Format: format, Planes: few}
		same(t, "no format", a, copied(a), true)
		same(t, "no format, and another one", a, api.Frame{Format: 3, Planes: few}, false)
		same(t, "nil and empty planes", api.Frame{Format: format}, api.Frame{Format: format, Planes: [3][]byte{{}, {}, {}}}, true)
		for plane := range few {
			b := copied(a)
			b.Planes[plane][0]++
			same(t, "no format, one sample different", a, b, false)
			b.Planes[plane] = nil
			same(t, "no format, a plane that is nil", a, b, false)
		}
	}
	same(t, "samples in another plane", api.Frame{Planes: [3][]byte{{1}}}, api.Frame{Planes: [3][]byte{nil, {1}}}, false)
	same(t, "planes whose joint is elsewhere", api.Frame{Planes: [3][]byte{{1}, {2, 3}}}, api.Frame{Planes: [3][]byte{{1, 2}, {3}}}, false)
	same(t, "zero frames", api.Frame{}, api.Frame{}, true)
}

// Blocks of the smallest format, the numbers of whose first and last samples stand
// here as they are.
func TestCutByHand(t *testing.T) {
	f := made(6, func(_, n int) byte { return byte(n) })
	lines := made(6, func(_, n int) byte { return byte(n >> 8) })
	for _, c := range []struct{ cell, block, first, second, below, last int }{
		{0, 0, 0, 1, 32, 231}, {0, 1, 8, 9, 40, 239}, {0, 2, 256, 257, 288, 487}, {0, 3, 264, 265, 296, 495},
		{0, 4, 0, 1, 16, 119}, {0, 5, 0, 1, 16, 119},
		{1, 0, 16, 17, 48, 247}, {1, 1, 24, 25, 56, 255}, {1, 2, 272, 273, 304, 503}, {1, 3, 280, 281, 312, 511},
		{1, 4, 8, 9, 24, 127}, {1, 5, 8, 9, 24, 127},
		{2, 0, 512, 513, 544, 743}, {2, 3, 776, 777, 808, 1007}, {2, 4, 128, 129, 144, 247},
		{3, 0, 528, 529, 560, 759}, {3, 3, 792, 793, 824, 1023}, {3, 4, 136, 137, 152, 255}, {3, 5, 136, 137, 152, 255},
	} {
		low, high := cut(t, f, c.cell), cut(t, lines, c.cell)
		for i, want := range map[int]int{0: c.first, 1: c.second, 8: c.below, 63: c.last} {
			if got := low[c.block][i] + high[c.block][i]<<8; got != want {
				t.Errorf("sample %d of block %d of cell %d is number %d, want %d", i, c.block, c.cell, got, want)
			}
		}
	}
}

// Three frames tell the number of a sample byte by byte, a fourth one its plane.
func TestCutOfEachCell(t *testing.T) {
	for format := 1; format <= 6; format++ {
		low := made(format, func(_, n int) byte { return byte(n) })
		middle := made(format, func(_, n int) byte { return byte(n >> 8) })
		high := made(format, func(_, n int) byte { return byte(n >> 16) })
		which := made(format, func(plane, _ int) byte { return byte(plane) })
		for n := range table()[format].cells {
			a, b, c, d := cut(t, low, n), cut(t, middle, n), cut(t, high, n), cut(t, which, n)
			for block := range a {
				for i := range a[block] {
					plane, at := place(format, n, block, i)
					got := a[block][i] + b[block][i]<<8 + c[block][i]<<16
					if d[block][i] != plane || got != at {
						t.Fatalf("format %d, cell %d, block %d: sample %d is number %d of plane %d, want %d of %d",
							format, n, block, i, got, d[block][i], at, plane)
					}
				}
			}
		}
	}
}

func TestCutHasAllSamples(t *testing.T) {
	f := made(6, func(_, n int) byte { return byte(n) })
	if got, want := cut(t, f, 0)[5], cut(t, f, 0)[4]; got != want {
		t.Errorf("planes that are the same are cut as %v and %v", want, got)
	}
	for sample := range 256 {
		if got := cut(t, newFrame(t, 6, sample), 2); got != flat(sample) {
			t.Errorf("a frame of samples %d is cut as %v", sample, got)
		}
	}
}

func noPatch(t *testing.T, f api.Frame, n int) {
	t.Helper()
	p, err := planes.Cut(f, n)
	if err != api.ErrArg || p != (api.Patch{}) {
		t.Errorf("Cut of a frame of format %d with %d, %d and %d samples, and cell %d: error %d, patch %v",
			f.Format, len(f.Planes[0]), len(f.Planes[1]), len(f.Planes[2]), n, err, p)
	}
}

func TestCutOfNoCell(t *testing.T) {
	for format := 1; format <= 6; format++ {
		f := newFrame(t, format, 200)
		for _, n := range noCells(format) {
			noPatch(t, f, n)
		}
		cut(t, f, 0)
		cut(t, f, table()[format].cells-1)
	}
}

func TestCutOfFramesThatAreNotRight(t *testing.T) {
	var l []api.Frame
	for format := 1; format <= 6; format++ {
		l = append(l, offFrames(format)...)
	}
	for _, f := range append(l, strays()...) {
		for _, n := range []int{0, 1, 3, -1, 1 << 40, math.MinInt, math.MaxInt} {
			noPatch(t, f, n)
		}
	}
}

func TestOnOfAllFormats(t *testing.T) {
	for format := 1; format <= 6; format++ {
		equal(t, "On", on(t, format).Frame(), made(format, func(int, int) byte { return 0 }))
	}
}

func TestOnOfNoFormat(t *testing.T) {
	for _, format := range noFormats() {
		if c, err := planes.On(format); c != nil || err != api.ErrArg {
			t.Errorf("On(%d) = %v, %d", format, c, err)
		}
	}
}

// Each cell that is laid changes its own samples, and no others.
func TestLayOfEachCell(t *testing.T) {
	for _, format := range []int{1, 2, 6} {
		f := mixed(format, 6)
		c, want := on(t, format), made(format, func(int, int) byte { return 0 })
		for n := range table()[format].cells {
			lay(t, c, n, paper(f, n))
			for block := range 6 {
				for i := range 64 {
					plane, at := place(format, n, block, i)
					want.Planes[plane][at] = f.Planes[plane][at]
				}
			}
			equal(t, "Lay", c.Frame(), want)
		}
		equal(t, "Lay of all cells", c.Frame(), f)
	}
}

// The first and the last cell, and those at the other corners, one by one.
func TestLayOfCorners(t *testing.T) {
	for format := 1; format <= 6; format++ {
		g := table()[format]
		for _, n := range []int{0, g.across - 1, g.across, g.cells - g.across, g.cells - 1} {
			c, want := on(t, format), made(format, func(int, int) byte { return 0 })
			lay(t, c, n, flat(7))
			for block := range 6 {
				for i := range 64 {
					plane, at := place(format, n, block, i)
					want.Planes[plane][at] = 7
				}
			}
			equal(t, "Lay", c.Frame(), want)
		}
	}
}

func TestLayIsClipped(t *testing.T) {
	for _, format := range []int{1, 6} {
		c := on(t, format)
		for sample, want := range bounds() {
			lay(t, c, 3, flat(sample))
			if got := paper(c.Frame(), 3); got != flat(int(want)) {
				t.Errorf("samples %d, laid, are %v", sample, got)
			}
		}
	}
}

// Each sample is clipped by itself.
func TestLayClipsEachSample(t *testing.T) {
	var p, want api.Patch
	var samples []int
	for sample := range bounds() {
		samples = append(samples, sample)
	}
	slices.Sort(samples)
	for block := range p {
		for i := range p[block] {
			sample := samples[(64*block+i)%len(samples)]
			p[block][i], want[block][i] = sample, int(bounds()[sample])
		}
	}
	for format := 1; format <= 6; format++ {
		c := on(t, format)
		lay(t, c, 1, p)
		if got := paper(c.Frame(), 1); got != want {
			t.Errorf("format %d: laid are %v, want %v", format, got, want)
		}
	}
}

func TestLayOfNoCell(t *testing.T) {
	for format := 1; format <= 6; format++ {
		f := mixed(format, 7)
		c := holder(t, f)
		for _, n := range noCells(format) {
			if err := c.Lay(n, flat(99)); err != api.ErrArg {
				t.Errorf("format %d: Lay(%d): %d", format, n, err)
			}
		}
		equal(t, "behind cells that are none", c.Frame(), f)
		lay(t, c, 0, flat(1))
		if got := cut(t, c.Frame(), 0); got != flat(1) {
			t.Errorf("format %d: cell 0 is laid as %v", format, got)
		}
	}
}

// What was laid last counts; the other cells stay as they are.
func TestLayOfOneCellMoreThanOnce(t *testing.T) {
	for format := 1; format <= 6; format++ {
		c := on(t, format)
		cells := table()[format].cells
		random := rand.New(rand.NewSource(8))
		want := make([]api.Patch, cells)
		for step := range 60 {
			n, p := random.Intn(min(cells, 9)), paper(mixed(6, int64(step)), step%4)
			if n == 8 {
				n = cells - 1
			}
			lay(t, c, n, p)
			want[n] = p
			if got := cut(t, c.Frame(), n); got != p {
				t.Fatalf("format %d: cell %d is cut as %v, and was laid as %v", format, n, got, p)
			}
		}
		f := c.Frame()
		for n := range cells {
			if got := cut(t, f, n); got != want[n] {
				t.Fatalf("format %d: cell %d is cut as %v, want %v", format, n, got, want[n])
			}
		}
	}
}

// orders are orders of n cells: as they are, backwards, and mixed.
func orders(n int) [][]int {
	up, down := make([]int, n), make([]int, n)
	for i := range n {
		up[i], down[i] = i, n-1-i
	}
	return [][]int{up, down, rand.New(rand.NewSource(9)).Perm(n), rand.New(rand.NewSource(10)).Perm(n)}
}

// P17.4: all cells, cut and laid anew, are the frame.
func TestAllCellsAreTheFrame(t *testing.T) {
	for format := 1; format <= 6; format++ {
		f := mixed(format, 11)
		for _, order := range orders(table()[format].cells) {
			c := holder(t, mixed(format, 12))
			for _, n := range order {
				lay(t, c, n, cut(t, f, n))
			}
			got := c.Frame()
			equal(t, "all cells laid anew", got, f)
			if !planes.Right(got) || !planes.Same(got, f) {
				t.Errorf("format %d: the frame of all cells is right: %v, the same: %v", format, planes.Right(got), planes.Same(got, f))
			}
		}
	}
}

// A frame that was told ahead stays as it was.
func TestFrameIsAsItWasThen(t *testing.T) {
	for _, format := range []int{1, 2, 6} {
		f := mixed(format, 13)
		c := on(t, format)
		var told, want []api.Frame
		for n := range table()[format].cells {
			lay(t, c, n, paper(f, n))
			told = append(told, c.Frame())
			want = append(want, copied(told[n]))
		}
		for n := range told {
			equal(t, "a frame told ahead", told[n], want[n])
		}
		for n := 1; n < len(told); n++ {
			if planes.Same(told[n-1], told[n]) {
				t.Errorf("format %d: nothing has changed by cell %d", format, n)
			}
		}
	}
}

func TestFrameSharesNothing(t *testing.T) {
	for _, format := range []int{1, 3, 6} {
		f := mixed(format, 14)
		c := holder(t, f)
		sharesNothing(t, "Frame", c.Frame)
		equal(t, "the canvas behind", c.Frame(), f)
		lay(t, c, 2, flat(3))
		if got := paper(c.Frame(), 2); got != flat(3) {
			t.Errorf("format %d: cell 2 is laid as %v", format, got)
		}
	}
}

func TestCanvasesShareNothing(t *testing.T) {
	for _, format := range []int{1, 6} {
		a, b := on(t, format), on(t, format)
		lay(t, a, 0, flat(20))
		equal(t, "a canvas beside", b.Frame(), made(format, func(int, int) byte { return 0 }))
		lay(t, b, 0, flat(30))
		if got := paper(a.Frame(), 0); got != flat(20) {
			t.Errorf("format %d: cell 0 of the first canvas is %v", format, got)
		}
	}
}

func TestCanvasThatNoCallMade(t *testing.T) {
	for _, c := range []*planes.Canvas{nil, {}, new(planes.Canvas)} {
		for _, n := range []int{0, 1, 3, 47, -1, math.MinInt, math.MaxInt} {
			if err := c.Lay(n, flat(5)); err != api.ErrArg {
				t.Errorf("Lay(%d) on a canvas that no call made: %d", n, err)
			}
		}
		if f := c.Frame(); !reflect.DeepEqual(f, api.Frame{}) {
			t.Errorf("the frame of a canvas that no call made: %v", f)
		}
	}
}

// Nobody gets at the samples of a canvas but by its calls.
func TestCanvasIsClosed(t *testing.T) {
	for _, field := range reflect.VisibleFields(reflect.TypeFor[planes.Canvas]()) {
		if field.IsExported() {
			t.Errorf("a canvas shows %s", field.Name)
		}
	}
}

// What comes in stays as it was, with what lies behind its lists' ends.
func TestArgumentsStay(t *testing.T) {
	for _, format := range []int{1, 6} {
		full := mixed(format, 15)
		f := copied(full)
		for plane := range f.Planes {
			room := append(f.Planes[plane], bytes.Repeat([]byte{170}, 100)...)
			f.Planes[plane] = room[:len(f.Planes[plane])]
		}
		other := f
		other.Format = 0
		planes.Right(f)
		planes.Same(f, full)
		planes.Same(f, other)
		for _, n := range []int{0, 2, 3, -1, math.MaxInt} {
			p, _ := planes.Cut(f, n)
			p[0][0]++
			planes.Cut(other, n)
		}
		equal(t, "behind all calls", f, full)
		for plane, l := range f.Planes {
			room := l[len(l) : len(l)+100]
			if bytes.Count(room, []byte{170}) != 100 {
				t.Errorf("behind plane %d stands %v", plane, room)
			}
		}
	}
}

// What a call tells hangs on its arguments alone, whatever was asked ahead.
func TestNothingIsKept(t *testing.T) {
	for first := 1; first <= 6; first++ {
		f := mixed(first, 17)
		before := cut(t, f, 3)
		for second := 1; second <= 6; second++ {
			planes.New(second, 50)
			planes.New(-second, 51)
			planes.Cut(newFrame(t, second, 52), 0)
			lay(t, on(t, second), 3, flat(53))
			if got := cut(t, f, 3); got != before {
				t.Errorf("behind format %d a cell of format %d is cut as %v, and was %v", second, first, got, before)
			}
		}
	}
}
