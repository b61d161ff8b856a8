// Package calls holds every call that the chapters list against its signature,
// those of layers that are not built yet too: it does not compile if one is off.
package calls

import (
	"iter"
	"testing"

	"overspill/api"
	"overspill/blank"
	"overspill/blocks"
	"overspill/bucket"
	"overspill/cbpy"
	"overspill/cellin"
	"overspill/cellout"
	"overspill/cellx"
	"overspill/chain"
	"overspill/coarse"
	"overspill/dct"
	"overspill/decode"
	"overspill/drive"
	"overspill/feed"
	"overspill/formats"
	"overspill/guide"
	"overspill/inbits"
	"overspill/ladder"
	"overspill/marks"
	"overspill/mcbpc"
	"overspill/median"
	"overspill/motion"
	"overspill/mvd"
	"overspill/outbits"
	"overspill/pattern"
	"overspill/planes"
	"overspill/prefix"
	"overspill/quants"
	"overspill/rebuild"
	"overspill/report"
	"overspill/rescue"
	"overspill/residue"
	"overspill/rowhead"
	"overspill/runs"
	"overspill/scale"
	"overspill/scan"
	"overspill/screens"
	"overspill/sheethead"
	"overspill/sheetin"
	"overspill/sheetout"
	"overspill/sheetx"
	"overspill/sound"
	"overspill/steps"
	"overspill/stores"
	"overspill/strips"
	"overspill/tcoef"
	"overspill/whole"
)

type (
	errno  = api.Errno
	block  = [64]int
	vector = [2]int
	writer = *outbits.Writer
	reader = *inbits.Reader
	table  = *prefix.Table[int]
)

// whole, and bits
var (
	_ func(n, low, high int) int                         = whole.Clip
	_ func(n int) int                                    = whole.Wrap
	_ func(a, b, c int) int                              = whole.Middle
	_ func(n, part, all int) int                         = whole.Share
	_ func(n, bits int) int                              = whole.Round
	_ func() writer                                      = outbits.New
	_ func(w writer, v, n int) errno                     = (*outbits.Writer).Put
	_ func(w writer, row string) errno                   = (*outbits.Writer).Add
	_ func(w writer) int                                 = (*outbits.Writer).Fill
	_ func(w writer) int                                 = (*outbits.Writer).Len
	_ func(w writer) string                              = (*outbits.Writer).Text
	_ func(v, n int) (string, errno)                     = outbits.Row
	_ func(row string) (string, errno)                   = outbits.Pack
	_ func(s string) string                              = outbits.Show
	_ func(s string) reader                              = inbits.New
	_ func(r reader, n int) (int, errno)                 = (*inbits.Reader).Take
	_ func(r reader, n int) (int, errno)                 = (*inbits.Reader).Peek
	_ func(r reader) (int, errno)                        = (*inbits.Reader).Fill
	_ func(r reader, at int) errno                       = (*inbits.Reader).Seek
	_ func(r reader) int                                 = (*inbits.Reader).At
	_ func(r reader) int                                 = (*inbits.Reader).Left
	_ func(r reader) string                              = (*inbits.Reader).Text
	_ func(w writer, number int) errno                   = marks.Put
	_ func(s string, bit int) (int, errno)               = marks.At
	_ func(s string, bit int) int                        = marks.Zeros
	_ func(s string, bit int) (int, bool)                = marks.Next
	_ func(s string, from int) (int, int, bool)          = marks.Find
	_                                                    = prefix.Code[int]{Row: "", Symbol: 0}
	_ func(l ...prefix.Code[int]) (table, errno)         = prefix.Make[int]
	_ func(t table, s int) (string, bool)                = (*prefix.Table[int]).Row
	_ func(t table, r reader) (int, errno)               = (*prefix.Table[int]).Take
	_ func(t table) int                                  = (*prefix.Table[int]).Len
	_ func(t table) int                                  = (*prefix.Table[int]).Longest
	_ func(inter bool, kind, chroma int) (string, bool)  = mcbpc.Row
	_ func(r reader, inter bool) (int, int, errno)       = mcbpc.Take
	_ func(intra bool, pattern int) (string, bool)       = cbpy.Row
	_ func(r reader, intra bool) (int, errno)            = cbpy.Take
	_ func(d int) (string, bool)                         = mvd.Row
	_ func(r reader) (int, errno)                        = mvd.Take
	_ func(e api.Event) bool                             = tcoef.Right
	_ func(e api.Event) (string, bool)                   = tcoef.Row
	_ func(r reader) (api.Event, errno)                  = tcoef.Take
	_ func(l block, from int) ([]api.Event, errno)       = runs.Events
	_ func(l []api.Event, from int) (block, errno)       = runs.Levels
	_ func(k int) (int, bool)                            = scan.At
	_ func(place int) (int, bool)                        = scan.Of
	_ func(l block) block                                = scan.Raster
	_ func(l block) block                                = scan.Told
	_ func(level, quant int) int                         = scale.Value
	_ func(dc int) int                                   = scale.Dc
	_ func(l block, quant int, intra bool, dc int) block = scale.Block
	_ func(value, quant int) int                         = coarse.Inter
	_ func(value, quant int) int                         = coarse.Intra
	_ func(value int) int                                = coarse.Dc
	_ func(l block, quant int, intra bool) block         = coarse.Block
	_ func(l block) block                                = dct.Forward
	_ func(l block) block                                = dct.Inverse
)

// blocks, cells, sheets and strips
var (
	_ func(w writer, intra bool, dc int, l []api.Event) errno        = blocks.Put
	_ func(r reader, intra, coded bool) (int, []api.Event, errno)    = blocks.Take
	_ func(format int) (int, int, bool)                              = formats.Size
	_ func(format, plane int) (int, int)                             = formats.Plane
	_ func(format int) (int, int)                                    = formats.Cells
	_ func(format int) (int, int)                                    = formats.Rows
	_ func(format, sample int) (api.Frame, errno)                    = planes.New
	_ func(f api.Frame) bool                                         = planes.Right
	_ func(a, b api.Frame) bool                                      = planes.Same
	_ func(f api.Frame, n int) (api.Patch, errno)                    = planes.Cut
	_ func(format int) (*planes.Canvas, errno)                       = planes.On
	_ func(c *planes.Canvas, n int, p api.Patch) errno               = (*planes.Canvas).Lay
	_ func(c *planes.Canvas) api.Frame                               = (*planes.Canvas).Frame
	_ func(v int) int                                                = motion.Chroma
	_ func(format, n int, mv vector) bool                            = motion.May
	_ func(f api.Frame, n int, mv vector) (api.Patch, errno)         = motion.Predict
	_ func(l []vector, across, first int) vector                     = median.Of
	_ func(step int) (string, bool)                                  = steps.Row
	_ func(r reader) (int, errno)                                    = steps.Take
	_ func(quant, step int) int                                      = steps.Next
	_ func(from, to int) (int, bool)                                 = steps.Between
	_ func(r reader, inter bool, pred vector) (api.Cell, errno)      = cellin.Take
	_ func(a, b api.Cell) bool                                       = cellin.Same
	_ func(inter bool, c api.Cell) bool                              = cellout.Right
	_ func(w writer, inter bool, pred vector, c api.Cell) errno      = cellout.Put
	_ func(w writer, number, id, quant int) errno                    = rowhead.Put
	_ func(r reader, number int) (int, int, errno)                   = rowhead.Take
	_ func(w writer, s api.Sheet) errno                              = sheethead.Put
	_ func(r reader) (api.Sheet, errno)                              = sheethead.Take
	_ func(s api.Sheet) errno                                        = sound.Check
	_ func(a, b api.Sheet) bool                                      = sound.Same
	_ func(s api.Sheet) []api.Cell                                   = sound.Cells
	_ func(s api.Sheet) []vector                                     = sound.Vectors
	_ func(r reader) (api.Sheet, errno)                              = sheetin.Take
	_ func(w writer, s api.Sheet) errno                              = sheetout.Put
	_ func(s api.Sheet) (int, errno)                                 = sheetout.Bits
	_ func(s api.Strip) errno                                        = strips.Check
	_ func(a, b api.Strip) bool                                      = strips.Same
	_ func(text string) (api.Strip, int, errno)                      = strips.Parse
	_ func(s api.Strip) (string, errno)                              = strips.Write
	_ func(c api.Cell) (api.Patch, errno)                            = residue.Levels
	_ func(c api.Cell, quant int) (api.Patch, errno)                 = residue.Values
	_ func(c api.Cell, quant int) (api.Patch, errno)                 = residue.Of
	_ func(s api.Sheet) ([]int, errno)                               = quants.Of
	_ func(s api.Sheet) ([]int, errno)                               = quants.First
	_ func(f api.Frame, n int, c api.Cell, q int) (api.Patch, errno) = rebuild.Cell
	_ func(p, residue api.Patch) api.Patch                           = rebuild.Sum
	_ func(f api.Frame, s api.Sheet) (api.Frame, errno)              = screens.Next
	_ func(f api.Frame, s api.Sheet) bool                            = screens.Still
	_ func(s api.Strip) ([]api.Frame, errno)                         = decode.All
	_ func(text string) ([]api.Frame, int, errno)                    = decode.Frames
	_ func(text string) iter.Seq2[int, api.Frame]                    = decode.Each
)

// what is told anew
var (
	_ func(format int) (api.Store, errno)                                            = stores.New
	_ func(s api.Store) bool                                                         = stores.Right
	_ func(a, b api.Store) bool                                                      = stores.Same
	_ func(a, b api.Frame) (api.Store, errno)                                        = stores.Diff
	_ func(f api.Frame, s api.Store) (api.Frame, errno)                              = stores.Add
	_ func(s api.Store) int                                                          = stores.Weight
	_ func(f api.Frame, s api.Store, n int, mv vector) (api.Patch, errno)            = stores.Drift
	_                                                                                = feed.Job{Levels: block{}, Drift: block{}, From: 0, To: 0, Intra: false}
	_ func(j feed.Job) block                                                         = feed.Block
	_ func(c api.Cell, drift api.Patch, from, to int) (api.Patch, errno)             = feed.Cell
	_ func(c api.Cell, levels api.Patch, step int) (api.Cell, errno)                 = pattern.Cell
	_ func(levels api.Patch) bool                                                    = pattern.Empty
	_                                                                                = chain.Plan{Head: 0, Rows: []int{}, Cells: []int{}, Steps: []int{}}
	_ func(s api.Sheet, floors []int) []int                                          = chain.Floors
	_ func(s api.Sheet, floors []int) (chain.Plan, errno)                            = chain.Of
	_                                                                                = cellx.Job{Cell: api.Cell{}, From: 0, To: 0, Step: 0}
	_ func(f api.Frame, e api.Store, n int, j cellx.Job) (api.Cell, errno)           = cellx.Make
	_                                                                                = sheetx.Made{Sheet: api.Sheet{}, Frame: api.Frame{}, Store: api.Store{}}
	_ func(f api.Frame, e api.Store, s api.Sheet, floors []int) (sheetx.Made, errno) = sheetx.Make
	_ func(s api.Sheet) (api.Sheet, errno)                                           = blank.Of
	_ func(format, supp int) int                                                     = blank.Bits
	_ func(f api.Frame, e api.Store, s api.Sheet) (sheetx.Made, errno)               = blank.Make
	_ func(c api.Conf, format int) errno                                             = bucket.Check
	_ func(level, drain, bits int) int                                               = bucket.After
	_ func(c api.Conf, level, bits int) bool                                         = bucket.Fits
	_ func(c api.Conf, level int) int                                                = bucket.Lacks
	_ func(c api.Conf, level int) int                                                = guide.First
	_ func(c api.Conf, level int) []int                                              = guide.List
	_ func(s api.Sheet) []int                                                        = guide.Events
	_ func(c api.Conf, s api.Sheet, floor int) []int                                 = guide.Rows
	_                                                                                = ladder.Place{Frame: api.Frame{}, Store: api.Store{}}
	_ func(api.Conf, int, ladder.Place, api.Sheet) (sheetx.Made, api.Told, errno)    = ladder.Sheet
	_ func(s api.Strip, c api.Conf) (api.Strip, []api.Told, errno)                   = drive.Run
	_ func(s api.Strip, c api.Conf) ([]api.Store, errno)                             = drive.Stores
	_ func(text string, c api.Conf) (string, []api.Told, int, errno)                 = drive.Text
	_ func(c api.Conf) string                                                        = report.Show
	_ func(line string) (api.Conf, errno)                                            = report.Read
	_ func(n int, t api.Told) string                                                 = report.Line
	_ func(line, text string) string                                                 = report.Play
	_                                                                                = rescue.Found{At: 0, Behind: 0, Sheet: api.Sheet{}}
	_ func(text string) ([]rescue.Found, errno)                                      = rescue.Scan
	_ func(text string) (api.Strip, []int, errno)                                    = rescue.Repair
	_ func(text string) ([]api.Frame, []int, errno)                                  = rescue.Still
)

func TestConstantsOfLayers(t *testing.T) {
	got := [4]int{marks.First, marks.End, mcbpc.Stuff, bucket.MostDrain}
	if want := [4]int{0, 31, 5, 1 << 20}; got != want {
		t.Errorf("First, End, Stuff, MostDrain: %v, want %v", got, want)
	}
}

func TestErrorsAndLimits(t *testing.T) {
	errors := [16]errno{
		api.OK, api.ErrArg, api.ErrShort, api.ErrCode, api.ErrMark, api.ErrForm, api.ErrMode, api.ErrLevel,
		api.ErrVector, api.ErrQuant, api.ErrOrder, api.ErrFirst, api.ErrTree, api.ErrLong, api.ErrConf, api.ErrLine,
	}
	for n, e := range errors {
		if int(e) != n {
			t.Errorf("error %d is numbered %d", n, e)
		}
	}
	limits := [7]int{api.MaxText, api.MaxSheets, api.MaxSupp, api.MaxStuff, api.MaxQuant, api.MaxLevel, api.MaxBits}
	if want := [7]int{262144, 64, 8, 64, 31, 127, 1073741824}; limits != want {
		t.Errorf("limits: %v, want %v", limits, want)
	}
	kinds := [5]int{api.Inter, api.InterQ, api.Four, api.Intra, api.IntraQ}
	if want := [5]int{0, 1, 2, 3, 4}; kinds != want {
		t.Errorf("kinds: %v, want %v", kinds, want)
	}
}
