package sheethead_test

import (
	"fmt"
	"math"
	"math/rand"
	"reflect"
	"slices"
	"strings"
	"testing"

	"overspill/api"
	"overspill/inbits"
	"overspill/marks"
	"overspill/outbits"
	"overspill/sheethead"
)

// firstMark is the bits of a sheet's mark.
const firstMark = "0000000000000000" + "1" + "00000"

// markRow is the bits of a mark.
func markRow(number int) string {
	return fmt.Sprintf("%016b1%05b", 0, number)
}

// fill is noughts up to a byte's end behind so many bits.
func fill(bits int) string {
	return strings.Repeat("0", (8-bits%8)%8)
}

// digit is the bit that tells yes or no.
func digit(b bool) string {
	if b {
		return "1"
	}
	return "0"
}

// suppRow is the bits of the bytes beside a sheet.
func suppRow(supp []int) string {
	row := ""
	for _, b := range supp {
		row += fmt.Sprintf("1%08b", b)
	}
	return row + "0"
}

// rows are the parts of a head as the chapter names them, one by one.
func rows(s api.Sheet) []string {
	return []string{
		firstMark, fmt.Sprintf("%08b", s.Ref), "10", fmt.Sprintf("%03b", s.Flags), fmt.Sprintf("%03b", s.Format),
		digit(s.Inter), "0000", fmt.Sprintf("%05b", s.Quant), "0", suppRow(s.Supp),
	}
}

// Where a part stands among the rows.
const (
	refPlace = iota + 1
	formPlace
	flagsPlace
	formatPlace
	interPlace
	modesPlace
	quantPlace
	modePlace
	suppPlace
)

// head is a head's bits, from its mark on.
func head(s api.Sheet) string {
	return strings.Join(rows(s), "")
}

// told is a head as the chapter says it, behind so many bits.
func told(bits int, s api.Sheet) string {
	return fill(bits) + head(s)
}

// with is a head's bits where another row stands for each of some parts.
func with(s api.Sheet, others map[int]string) string {
	l := rows(s)
	for place, row := range others {
		l[place] = row
	}
	return strings.Join(l, "")
}

// supps are bytes beside a sheet: none, and up to eight.
func supps() [][]int {
	return [][]int{
		nil, {0}, {255}, {1}, {128}, {0, 255}, {255, 0}, {170, 85, 1}, {0, 0, 0, 0}, {255, 255, 255, 255, 255},
		{1, 2, 4, 8, 16, 32}, {254, 127, 0, 64, 191, 3, 255}, {0, 0, 0, 0, 0, 0, 0, 0}, {255, 255, 255, 255, 255, 255, 255, 255},
		{9, 8, 7, 6, 5, 4, 3, 0}, {0, 1, 2, 3, 252, 253, 254, 255}, {},
	}
}

// heads are every choice of the parts that are numbers, the bytes in turn; and every
// choice of bytes with some of the numbers.
func heads() []api.Sheet {
	var l []api.Sheet
	n, beside := 0, supps()
	for _, ref := range []int{0, 1, 128, 255} {
		for flags := range 8 {
			for format := 1; format <= 6; format++ {
				for _, inter := range []bool{false, true} {
					for quant := 1; quant <= 31; quant++ {
						l = append(l, api.Sheet{Ref: ref, Flags: flags, Format: format, Inter: inter, Quant: quant, Supp: beside[n%len(beside)]})
						n++
					}
				}
			}
		}
	}
	return l
}

// someHeads are so many that each part comes with all that it can be.
func someHeads() []api.Sheet {
	var l []api.Sheet
	for n, supp := range supps() {
		for _, quant := range []int{1, 31, 2 + n} {
			l = append(l, api.Sheet{Ref: 37 * n % 256, Flags: n % 8, Format: n%6 + 1, Inter: n%2 == 1, Quant: quant, Supp: supp})
		}
	}
	return l
}

// plain is a head that all tests of what is wrong begin with.
func plain() api.Sheet {
	return api.Sheet{Ref: 5, Flags: 3, Format: 6, Inter: true, Quant: 9, Supp: []int{7, 200}}
}

// far are numbers far below and far above all that a head may have; some have the
// lowest bits of one that it may have.
func far() []int {
	return []int{
		-2, -3, -8, -31, -32, -64, -255, -256, -1 << 22, -1 << 32, -1<<32 + 3, math.MinInt32, math.MinInt + 3, math.MinInt + 1, math.MinInt,
		257, 258, 511, 512, 513, 1 << 16, 1<<16 + 1, 1 << 22, 1<<22 + 1, math.MaxInt32, 1 << 32, 1<<32 + 1, 1<<62 + 1, math.MaxInt - 1, math.MaxInt,
	}
}

// ahead are any bits, the first n of them.
func ahead(n int) []string {
	return []string{strings.Repeat("0", n), strings.Repeat("1", n), strings.Repeat("1001101", n)[:n], strings.Repeat("01", n)[:n]}
}

// behinds are bits that stand behind a head: of cells, of marks, or of none.
func behinds() []string {
	return []string{
		"", "0", "1", "00000", "11111", "100000000", "111111111", "1010101010101", "0000000000000000000000000000000000", strings.Repeat("1", 90),
		"00000" + "0000000000000000100001", "1" + "00000000" + "0000000000000000111111",
	}
}

// pack is the bytes of rows, one behind the other.
func pack(t *testing.T, rows ...string) string {
	t.Helper()
	s, err := outbits.Pack(strings.Join(rows, ""))
	if err != api.OK {
		t.Fatalf("Pack(%v): %d", rows, err)
	}
	return s
}

// reader stands at that bit of s.
func reader(t *testing.T, s string, at int) *inbits.Reader {
	t.Helper()
	r := inbits.New(s)
	if err := r.Seek(at); err != api.OK {
		t.Fatalf("Seek(%d) of % x: %d", at, s, err)
	}
	return r
}

// behind is a writer that has these bits.
func behind(t *testing.T, bits string) *outbits.Writer {
	t.Helper()
	w := outbits.New()
	if err := w.Add(bits); err != api.OK {
		t.Fatalf("Add(%s): %d", bits, err)
	}
	return w
}

// has asks whether a writer has just these bits.
func has(t *testing.T, what string, w *outbits.Writer, bits string) {
	t.Helper()
	if w.Len() != len(bits) || w.Text() != pack(t, bits) {
		t.Fatalf("%s: %d bits, %s, want %d, %s", what, w.Len(), outbits.Show(w.Text()), len(bits), bits)
	}
}

// right puts a head behind these bits, and asks for what stands there then.
func right(t *testing.T, bits string, s api.Sheet) *outbits.Writer {
	t.Helper()
	w := behind(t, bits)
	if err := sheethead.Put(w, s); err != api.OK {
		t.Fatalf("Put(%v) behind %q: %d", s, bits, err)
	}
	has(t, "Put", w, bits+told(len(bits), s))
	return w
}

// wrong puts a head that may not be behind some bits, which stay as they were, and
// into no writer.
func wrong(t *testing.T, s api.Sheet) {
	t.Helper()
	for _, bits := range []string{"", "1", "101", "0000000", "11111111", "011011011"} {
		w := behind(t, bits)
		if err := sheethead.Put(w, s); err != api.ErrTree {
			t.Fatalf("Put(%v) behind %q: %d, want ErrTree", s, bits, err)
		}
		has(t, fmt.Sprint(s), w, bits)
	}
	if err := sheethead.Put(nil, s); err != api.ErrArg {
		t.Fatalf("Put(nil, %v): %d, want ErrArg", s, err)
	}
}

// same is whether two sheets have the same head, and nothing else.
func same(a, b api.Sheet) bool {
	return a.Ref == b.Ref && a.Flags == b.Flags && a.Format == b.Format && a.Inter == b.Inter && a.Quant == b.Quant &&
		slices.Equal(a.Supp, b.Supp) && len(a.Rows) == 0 && len(b.Rows) == 0 && a.Zeros == 0 && b.Zeros == 0
}

// holds asks r for a head, and how far it goes.
func holds(t *testing.T, what string, r *inbits.Reader, want api.Sheet, wrong api.Errno, far int) {
	t.Helper()
	s, at := r.Text(), r.At()
	got, err := sheethead.Take(r)
	if !same(got, want) || err != wrong {
		t.Fatalf("%s: Take(%s at %d) = %v, %d, want %v, %d", what, outbits.Show(s), at, got, err, want, wrong)
	}
	if wrong != api.OK && got.Supp != nil && len(got.Supp) == 0 {
		t.Fatalf("%s: Take(%s at %d): Supp is not the zero value", what, outbits.Show(s), at)
	}
	if r.Text() != s || r.At() != at+far || r.Left() != 8*len(s)-at-far {
		t.Fatalf("%s: Take(%s) went from %d to %d, want %d", what, outbits.Show(s), at, r.At(), at+far)
	}
}

// stays asks twice for a head that is wrong.
func stays(t *testing.T, what string, r *inbits.Reader, wrong api.Errno) {
	t.Helper()
	holds(t, what, r, api.Sheet{}, wrong, 0)
	holds(t, what+", again", r, api.Sheet{}, wrong, 0)
}

// refused asks for a head that is wrong at the begin of several bytes, whatever
// stands behind it.
func refused(t *testing.T, what, bits string, wrong api.Errno) {
	t.Helper()
	for bytes := range 3 {
		for _, more := range behinds() {
			s := pack(t, strings.Repeat("10110111", bytes), bits, more)
			stays(t, what, reader(t, s, 8*bytes), wrong)
		}
	}
}

// fault is what is wrong in a part of fixed length, if it stands there.
func fault(place int, row string) api.Errno {
	switch {
	case place == formPlace && row != "10":
		return api.ErrForm
	case place == formatPlace && (row == "000" || row == "111"):
		return api.ErrForm
	case place == modesPlace && row != "0000", place == modePlace && row != "0":
		return api.ErrMode
	case place == quantPlace && row == "00000":
		return api.ErrQuant
	}
	return api.OK
}

// widths are how many bits the parts of fixed length have, by their places.
func widths() []int {
	return []int{0, 8, 2, 3, 3, 1, 4, 5, 1}
}

// taken says by the chapter's words what Take tells of bits: the sheet, the error,
// and how far the reader goes.
func taken(bits string, at int) (api.Sheet, api.Errno, int) {
	if at%8 != 0 {
		return api.Sheet{}, api.ErrMark, 0
	}
	rest := bits[at:]
	if len(rest) < 22 {
		return api.Sheet{}, api.ErrShort, 0
	}
	if rest[:22] != firstMark {
		return api.Sheet{}, api.ErrMark, 0
	}
	rest = rest[22:]
	var numbers [9]int
	for place := refPlace; place <= modePlace; place++ {
		width := widths()[place]
		if len(rest) < width {
			return api.Sheet{}, api.ErrShort, 0
		}
		if err := fault(place, rest[:width]); err != api.OK {
			return api.Sheet{}, err, 0
		}
		numbers[place], rest = value(rest[:width]), rest[width:]
	}
	supp, far, err := beside(rest)
	if err != api.OK {
		return api.Sheet{}, err, 0
	}
	return api.Sheet{
		Ref: numbers[refPlace], Flags: numbers[flagsPlace], Format: numbers[formatPlace], Inter: numbers[interPlace] == 1,
		Quant: numbers[quantPlace], Supp: supp,
	}, api.OK, 22 + 27 + far
}

// beside says which bytes stand beside a sheet, and how many bits tell them.
func beside(rest string) ([]int, int, api.Errno) {
	var supp []int
	for at := 0; ; at += 9 {
		switch {
		case at >= len(rest):
			return nil, 0, api.ErrShort
		case rest[at] == '0':
			return supp, at + 1, api.OK
		case len(supp) == 8:
			return nil, 0, api.ErrLong
		case at+9 > len(rest):
			return nil, 0, api.ErrShort
		}
		supp = append(supp, value(rest[at+1:at+9]))
	}
}

// value is the number that a row tells.
func value(row string) int {
	n := 0
	for _, digit := range row {
		n = 2*n + int(digit-'0')
	}
	return n
}

// everywhere asks for a head at each bit of a text.
func everywhere(t *testing.T, s string) {
	t.Helper()
	bits := outbits.Show(s)
	for at := range len(bits) + 1 {
		want, err, far := taken(bits, at)
		holds(t, "at each bit", reader(t, s, at), want, err, far)
	}
}

func TestExample(t *testing.T) {
	s := api.Sheet{Ref: 5, Format: 6, Quant: 9}
	w := outbits.New()
	if err := sheethead.Put(w, s); err != api.OK {
		t.Fatalf("Put: %d", err)
	}
	has(t, "example", w, "0000000000000000100000"+"00000101"+"10"+"000"+"110"+"0"+"0000"+"01001"+"0"+"0")
	if w.Len() != 50 {
		t.Errorf("there are %d bits, want 50", w.Len())
	}
	holds(t, "example", inbits.New(w.Text()), s, api.OK, 50)
}

// P24.1, some heads as they stand on paper.
func TestPutByHand(t *testing.T) {
	for _, c := range []struct {
		ahead string
		s     api.Sheet
		want  string
	}{
		{"", api.Sheet{Format: 1, Quant: 1}, "0000000000000000100000" + "00000000" + "10" + "000" + "001" + "0" + "0000" + "00001" + "0" + "0"},
		{"", api.Sheet{Ref: 255, Flags: 7, Format: 6, Inter: true, Quant: 31, Supp: []int{255}},
			"0000000000000000100000" + "11111111" + "10" + "111" + "110" + "1" + "0000" + "11111" + "0" + "1" + "11111111" + "0"},
		{"1", api.Sheet{Ref: 128, Flags: 4, Format: 2, Inter: true, Quant: 16, Supp: []int{0, 129}},
			"1" + "0000000" + "0000000000000000100000" + "10000000" + "10" + "100" + "010" + "1" + "0000" + "10000" + "0" + "1" + "00000000" + "1" + "10000001" + "0"},
		{"1111111", api.Sheet{Ref: 1, Flags: 1, Format: 5, Quant: 2},
			"1111111" + "0" + "0000000000000000100000" + "00000001" + "10" + "001" + "101" + "0" + "0000" + "00010" + "0" + "0"},
		{"11111111", api.Sheet{Ref: 2, Flags: 2, Format: 3, Quant: 4, Supp: []int{1, 2, 3, 4, 5, 6, 7, 8}},
			"11111111" + "0000000000000000100000" + "00000010" + "10" + "010" + "011" + "0" + "0000" + "00100" + "0" +
				"100000001" + "100000010" + "100000011" + "100000100" + "100000101" + "100000110" + "100000111" + "100001000" + "0"},
		{"000000000", api.Sheet{Ref: 64, Flags: 5, Format: 4, Inter: true, Quant: 8},
			"000000000" + "0000000" + "0000000000000000100000" + "01000000" + "10" + "101" + "100" + "1" + "0000" + "01000" + "0" + "0"},
	} {
		w := behind(t, c.ahead)
		if err := sheethead.Put(w, c.s); err != api.OK {
			t.Errorf("Put(%v) behind %q: %d", c.s, c.ahead, err)
		}
		has(t, "on paper", w, c.want)
	}
}

// Every choice of parts, behind nothing and behind 1 to 9 bits.
func TestPut(t *testing.T) {
	l := heads()
	for n := range 10 {
		for i, s := range l {
			right(t, ahead(n)[i%4], s)
		}
	}
	for n := range 18 {
		for _, bits := range ahead(n) {
			for _, s := range someHeads() {
				right(t, bits, s)
			}
		}
	}
}

// Every Ref, and every byte at each place of the bytes.
func TestPutOfEveryByte(t *testing.T) {
	for b := range 256 {
		s := plain()
		s.Ref = b
		right(t, "1", s)
		for count := 1; count <= 8; count++ {
			for place := range count {
				s := plain()
				s.Supp = make([]int, count)
				s.Supp[place] = b
				w := right(t, "", s)
				holds(t, "every byte", inbits.New(w.Text()), s, api.OK, w.Len())
			}
		}
	}
}

// Head behind head, with bits between or none: one by one as they are alone.
func TestPutOneBehindTheOther(t *testing.T) {
	w, row := outbits.New(), ""
	for n, s := range someHeads() {
		if err := sheethead.Put(w, s); err != api.OK {
			t.Fatalf("Put(%v): %d", s, err)
		}
		between := "110101101011"[:n%12]
		row += told(len(row), s) + between
		w.Add(between)
		has(t, "head behind head", w, row)
	}
}

func TestPutOfWrongRefs(t *testing.T) {
	for _, ref := range append(far(), -1, 256) {
		s := plain()
		s.Ref = ref
		wrong(t, s)
	}
}

func TestPutOfWrongFlags(t *testing.T) {
	for _, flags := range append(far(), -1, 8, 9, 15, 16, 255, 256) {
		s := plain()
		s.Flags = flags
		wrong(t, s)
	}
}

func TestPutOfNoFormat(t *testing.T) {
	for _, format := range append(far(), -1, 0, 7, 8, 9, 14, 15, 16, 255, 256) {
		s := plain()
		s.Format = format
		wrong(t, s)
	}
}

func TestPutOfWrongQuants(t *testing.T) {
	for _, quant := range append(far(), -1, 0, 32, 33, 63, 64, 255, 256) {
		s := plain()
		s.Quant = quant
		wrong(t, s)
	}
}

func TestPutOfTooManyBytes(t *testing.T) {
	for _, count := range []int{9, 10, 15, 16, 17, 64, 255, 256, 257, 264, 1000, 65536, 65537} {
		for _, b := range []int{0, 255, -1, 256} {
			s := plain()
			s.Supp = slices.Repeat([]int{b}, count)
			wrong(t, s)
		}
	}
}

// Each byte wrong in turn, the last one among them.
func TestPutOfWrongBytes(t *testing.T) {
	for count := 1; count <= 8; count++ {
		for place := range count {
			for _, b := range append(far(), -1, 256) {
				for _, other := range []int{0, 255} {
					s := plain()
					s.Supp = slices.Repeat([]int{other}, count)
					s.Supp[place] = b
					wrong(t, s)
				}
			}
		}
	}
}

// Where more than one part is wrong, it is the same error.
func TestPutOfAllWrong(t *testing.T) {
	for _, n := range append(far(), -1, 256) {
		wrong(t, api.Sheet{Ref: n, Flags: n, Format: n, Quant: n, Supp: []int{n}})
		wrong(t, api.Sheet{Ref: n, Flags: n, Format: n, Quant: n, Supp: slices.Repeat([]int{n}, 9)})
		wrong(t, api.Sheet{Ref: 1, Flags: n, Format: n, Quant: n})
	}
	wrong(t, api.Sheet{})
}

// Every number from below all to above all, at each place: there is a head just if
// each is within its bounds.
func TestPutAround(t *testing.T) {
	put := 0
	for _, ref := range []int{-1, 0, 1, 254, 255, 256} {
		for flags := -2; flags <= 9; flags++ {
			for format := -2; format <= 9; format++ {
				for quant := -2; quant <= 34; quant++ {
					s := api.Sheet{Ref: ref, Flags: flags, Format: format, Quant: quant}
					w := behind(t, "1")
					err := sheethead.Put(w, s)
					if ref < 0 || ref > 255 || flags < 0 || flags > 7 || format < 1 || format > 6 || quant < 1 || quant > 31 {
						if err != api.ErrTree || w.Len() != 1 {
							t.Fatalf("Put(%v): %d, and %d bits, want ErrTree", s, err, w.Len())
						}
						continue
					}
					if err != api.OK {
						t.Fatalf("Put(%v): %d", s, err)
					}
					put++
				}
			}
		}
	}
	if put != 4*8*6*31 {
		t.Errorf("%d heads may be", put)
	}
}

// What else a sheet has is not looked at: with any of it the head is the same, and
// what is wrong stays so.
func TestPutLooksAtNothingElse(t *testing.T) {
	cells := []api.Cell{{Stuff: -1, Kind: api.Four, Step: 99, Mv: [2]int{math.MaxInt, math.MinInt}, Events: [6][]api.Event{{{Level: 0, Run: -1}}}}}
	for _, zeros := range []int{0, 1, -1, 262144, 262145, math.MinInt, math.MaxInt} {
		for _, l := range [][]api.Row{nil, {}, {{}}, {{Head: true, Id: -5, Quant: 77, Cells: cells}, {Cells: cells}}, make([]api.Row, 100)} {
			for _, s := range someHeads() {
				s.Rows, s.Zeros = l, zeros
				right(t, "110", s)
			}
			s := plain()
			s.Rows, s.Zeros, s.Quant = l, zeros, 0
			wrong(t, s)
		}
	}
}

// R3: nothing of the sheet is changed, nor what lies behind its lists' ends.
func TestPutChangesNothing(t *testing.T) {
	room := []int{1, 2, 3, 4, 5, 6, 7, 8, 900, 1000}
	rows := []api.Row{{Head: true, Id: 3, Quant: 4, Cells: []api.Cell{{Stuff: 2, Events: [6][]api.Event{{{Level: 5}}}}}}, {Id: 7}}
	for _, quant := range []int{9, 0} {
		for count := range len(room) + 1 {
			given := api.Sheet{Ref: 4, Flags: 5, Format: 2, Quant: quant, Supp: room[:count], Rows: rows[:1], Zeros: 8}
			want := api.Sheet{Ref: 4, Flags: 5, Format: 2, Quant: quant, Supp: slices.Clone(room[:count]), Zeros: 8,
				Rows: []api.Row{{Head: true, Id: 3, Quant: 4, Cells: []api.Cell{{Stuff: 2, Events: [6][]api.Event{{{Level: 5}}}}}}}}
			w := outbits.New()
			sheethead.Put(w, given)
			if count == 0 {
				given.Supp, want.Supp = nil, nil
			}
			if !reflect.DeepEqual(given, want) || !slices.Equal(room, []int{1, 2, 3, 4, 5, 6, 7, 8, 900, 1000}) || rows[1].Id != 7 {
				t.Fatalf("Put with %d bytes changed %v", count, given)
			}
			text := w.Text()
			room[0], rows[0].Id = 77, 2
			if w.Text() != text {
				t.Fatalf("what was put is kept as it was handed in")
			}
			room[0], rows[0].Id = 1, 3
		}
	}
}

// A wrong head leaves a writer that writes on as if it had not been asked.
func TestPutBehindErrors(t *testing.T) {
	for n := range 10 {
		bits := "110110011"[:n]
		w := behind(t, bits)
		for _, change := range []func(*api.Sheet){
			func(s *api.Sheet) { s.Ref = 256 }, func(s *api.Sheet) { s.Flags = 8 }, func(s *api.Sheet) { s.Format = 7 },
			func(s *api.Sheet) { s.Quant = 0 }, func(s *api.Sheet) { s.Supp = make([]int, 9) }, func(s *api.Sheet) { s.Supp = []int{0, 1, 2, 256} },
		} {
			s := plain()
			change(&s)
			if err := sheethead.Put(w, s); err != api.ErrTree {
				t.Errorf("Put(%v): %d, want ErrTree", s, err)
			}
			has(t, "behind an error", w, bits)
		}
		w.Add("01")
		if err := sheethead.Put(w, plain()); err != api.OK {
			t.Errorf("Put behind errors: %d", err)
		}
		has(t, "behind errors", w, bits+"01"+told(n+2, plain()))
	}
}

func TestPutIntoNoWriter(t *testing.T) {
	for _, s := range append(someHeads(), plain(), api.Sheet{}) {
		if err := sheethead.Put(nil, s); err != api.ErrArg {
			t.Errorf("Put(nil, %v): %d, want ErrArg", s, err)
		}
	}
}

func TestPutIntoZeroWriters(t *testing.T) {
	for _, s := range someHeads() {
		var w outbits.Writer
		if err := sheethead.Put(&w, s); err != api.OK {
			t.Fatalf("Put(%v) into a zero writer: %d", s, err)
		}
		has(t, "a zero writer", &w, head(s))
	}
	var w outbits.Writer
	if err := sheethead.Put(&w, api.Sheet{}); err != api.ErrTree {
		t.Errorf("Put of a zero sheet into a zero writer: %d, want ErrTree", err)
	}
	has(t, "a zero writer", &w, "")
}

// P24.2 and P24.3: every head, from where its mark begins, with any bits ahead and
// behind.
func TestTakenAgain(t *testing.T) {
	more := behinds()
	for n := range 10 {
		begin := n + len(fill(n))
		for i, s := range heads() {
			bits := ahead(n)[i%4]
			text := pack(t, bits, told(n, s), more[(n+i)%len(more)])
			holds(t, "taken again", reader(t, text, begin), s, api.OK, len(head(s)))
		}
		for i, s := range someHeads() {
			w := right(t, ahead(n)[i%4], s)
			for _, more := range more {
				text := pack(t, outbits.Show(w.Text())[:w.Len()], more)
				holds(t, "put and taken again", reader(t, text, begin), s, api.OK, w.Len()-begin)
			}
		}
	}
}

// Head behind head: each from where its mark begins.
func TestTakeHeadBehindHead(t *testing.T) {
	w := outbits.New()
	var begins []int
	for n, s := range someHeads() {
		begins = append(begins, w.Len()+len(fill(w.Len())))
		sheethead.Put(w, s)
		w.Add("1010101010101"[:n%13])
	}
	r := inbits.New(w.Text())
	for n, s := range someHeads() {
		if err := r.Seek(begins[n]); err != api.OK {
			t.Fatalf("Seek(%d): %d", begins[n], err)
		}
		holds(t, "head behind head", r, s, api.OK, len(head(s)))
		if r.At()%8 != 0 {
			stays(t, "behind a head", r, api.ErrMark)
		}
	}
}

func TestTakeOfNoReader(t *testing.T) {
	if s, err := sheethead.Take(nil); !reflect.DeepEqual(s, api.Sheet{}) || err != api.ErrArg {
		t.Errorf("Take(nil) = %v, %d, want ErrArg", s, err)
	}
}

// In an empty text there are too few bits for a mark.
func TestTakeOfEmptyTexts(t *testing.T) {
	stays(t, "a zero reader", &inbits.Reader{}, api.ErrShort)
	stays(t, "an empty text", inbits.New(""), api.ErrShort)
	stays(t, "a text's end", reader(t, pack(t, head(plain())), 8*len(pack(t, head(plain())))), api.ErrShort)
}

// That r does not stand at a byte's begin is told ahead of all else: of too few bits
// for a mark, and even where bits 0 alone lead to one.
func TestTakeWithinBytes(t *testing.T) {
	for _, bits := range []string{"", "1", "0000000000000000", "0000000000000000100001", head(plain()), firstMark + "1"} {
		for n := range 25 {
			for _, bits := range []string{strings.Repeat("0", n) + bits, strings.Repeat("1", n) + bits, strings.Repeat("0", n) + fill(n) + bits} {
				s := pack(t, bits)
				for at := range 8*len(s) + 1 {
					if at%8 != 0 {
						stays(t, "within a byte", reader(t, s, at), api.ErrMark)
					}
				}
			}
		}
	}
}

// Fewer than 22 bits are too few for a mark, whatever they are.
func TestTakeOfTooFewBits(t *testing.T) {
	for v := range 1 << 16 {
		s := string([]byte{byte(v >> 8), byte(v)})
		stays(t, "two bytes", inbits.New(s), api.ErrShort)
		stays(t, "one byte", reader(t, s, 8), api.ErrShort)
	}
	for _, s := range []string{"\x00", "\xff", "\x00\x00", "\x80\x00"} {
		stays(t, "few bytes", inbits.New(s), api.ErrShort)
		stays(t, "few bytes behind others", reader(t, "\x00\x00\x80"+s, 24), api.ErrShort)
	}
}

// Where no mark begins, or that of a row or of the end, it is ErrMark, whatever
// stands behind it.
func TestTakeOfNoMark(t *testing.T) {
	rest := head(plain())[22:]
	for number := 1; number <= 31; number++ {
		refused(t, "another number", markRow(number)+rest, api.ErrMark)
		refused(t, "another number alone", markRow(number), api.ErrMark)
		refused(t, "another number, and wrong parts", markRow(number)+strings.Repeat("0", 28), api.ErrMark)
	}
	for i := range 17 {
		turned := []byte(firstMark)
		turned[i] ^= 1
		refused(t, "a turned bit", string(turned)+rest, api.ErrMark)
		refused(t, "a turned bit alone", string(turned), api.ErrMark)
	}
	for n := 1; n <= 30; n++ {
		refused(t, "noughts ahead", strings.Repeat("0", n)+head(plain()), api.ErrMark)
		refused(t, "ones ahead", strings.Repeat("1", n)+head(plain()), api.ErrMark)
	}
	refused(t, "noughts", strings.Repeat("0", 80), api.ErrMark)
	refused(t, "ones", strings.Repeat("1", 80), api.ErrMark)
}

// A head that is cut off is told as that at every length.
func TestTakeOfCutTexts(t *testing.T) {
	for _, s := range append(someHeads(), plain()) {
		for ahead := range 3 {
			text := pack(t, strings.Repeat("10110111", ahead), head(s))
			for bytes := ahead; bytes <= len(text); bytes++ {
				cut := text[:bytes]
				if 8*(bytes-ahead) < len(head(s)) {
					stays(t, "cut off", reader(t, cut, 8*ahead), api.ErrShort)
				} else {
					holds(t, "not cut off", reader(t, cut, 8*ahead), s, api.OK, len(head(s)))
				}
			}
		}
	}
}

// What is wrong ahead of where a text ends is told ahead of that; what would be wrong
// in the part that is cut off is not. A text can end just ahead of Ref's last six
// bits, ahead of Flags, within the four modes, ahead of the last mode, and behind it
// within the bytes.
func TestTakeOfCutParts(t *testing.T) {
	s := plain()
	for _, c := range []struct {
		what   string
		others map[int]string
		bytes  int
		want   api.Errno
	}{
		{"another mark", map[int]string{0: markRow(1)}, 3, api.ErrMark},
		{"Ref", map[int]string{formPlace: "11"}, 3, api.ErrShort},
		{"a form", map[int]string{formPlace: "11"}, 4, api.ErrForm},
		{"Flags", map[int]string{formatPlace: "000"}, 4, api.ErrShort},
		{"a format", map[int]string{formatPlace: "000"}, 5, api.ErrForm},
		{"modes, of which one is there", map[int]string{modesPlace: "1000"}, 5, api.ErrShort},
		{"modes, of which one is there, and a format", map[int]string{modesPlace: "1000", formatPlace: "111"}, 5, api.ErrForm},
		{"modes", map[int]string{modesPlace: "1000"}, 6, api.ErrMode},
		{"a quantiser of 0", map[int]string{quantPlace: "00000"}, 6, api.ErrQuant},
		{"a mode", map[int]string{modePlace: "1"}, 6, api.ErrShort},
		{"a mode that is there", map[int]string{modePlace: "1"}, 7, api.ErrMode},
		{"a byte", map[int]string{}, 7, api.ErrShort},
	} {
		bits := with(s, c.others)[:8*c.bytes]
		stays(t, c.what, inbits.New(pack(t, bits)), c.want)
		want, err, _ := taken(bits, 0)
		if err != c.want || !same(want, api.Sheet{}) {
			t.Errorf("%s: by the words it is %d, on paper %d", c.what, err, c.want)
		}
	}
}

func TestTakeOfOtherForms(t *testing.T) {
	for _, s := range someHeads() {
		for _, form := range []string{"00", "01", "11"} {
			refused(t, "another form", with(s, map[int]string{formPlace: form}), api.ErrForm)
		}
	}
}

func TestTakeOfNoFormat(t *testing.T) {
	for _, s := range someHeads() {
		for _, format := range []string{"000", "111"} {
			refused(t, "no format", with(s, map[int]string{formatPlace: format}), api.ErrForm)
		}
	}
}

func TestTakeOfModes(t *testing.T) {
	for _, s := range someHeads() {
		for modes := 1; modes < 16; modes++ {
			refused(t, "one of four modes", with(s, map[int]string{modesPlace: fmt.Sprintf("%04b", modes)}), api.ErrMode)
		}
		refused(t, "the fifth mode", with(s, map[int]string{modePlace: "1"}), api.ErrMode)
	}
}

func TestTakeOfNoQuant(t *testing.T) {
	for _, s := range someHeads() {
		refused(t, "no quantiser", with(s, map[int]string{quantPlace: "00000"}), api.ErrQuant)
	}
}

// A ninth byte's bit 1 is one too many, whether its eight bits are there or not.
func TestTakeOfTooManyBytes(t *testing.T) {
	for _, b := range []int{0, 255, 85} {
		s := plain()
		s.Supp = slices.Repeat([]int{b}, 8)
		bits := strings.TrimSuffix(head(s), "0")
		// The 9 bits of eight bytes end 1 bit behind a byte's begin, and the ninth's bit 1
		// stands there.
		if len(bits) != 22+27+72 {
			t.Fatalf("a head of eight bytes has %d bits", len(bits))
		}
		refused(t, "a ninth byte", bits+"1", api.ErrLong)
		for _, ninth := range []string{"1000000", "1111111", "1010101"} {
			stays(t, "the ninth byte's bits are not there", inbits.New(pack(t, bits+ninth)), api.ErrLong)
		}
		for _, ninth := range []string{"100000000", "111111111", "1010101010"} {
			stays(t, "the ninth byte's bits are there", inbits.New(pack(t, bits+ninth)), api.ErrLong)
			stays(t, "there is a tenth one", inbits.New(pack(t, bits+ninth+"100000000"+"0")), api.ErrLong)
		}
		holds(t, "no ninth byte", inbits.New(pack(t, bits+"0"+"111111")), s, api.OK, len(bits)+1)
	}
}

// Where several parts are wrong, the first one's error is told: each part with each
// other one.
func TestTheFirstFaultIsTold(t *testing.T) {
	type fault struct {
		place int
		row   string
		wrong api.Errno
	}
	nine := strings.Repeat("101010101", 9) + "0"
	faults := []fault{
		{0, markRow(17), api.ErrMark}, {0, "0000000000000001100000", api.ErrMark}, {formPlace, "00", api.ErrForm}, {formPlace, "11", api.ErrForm}, {formatPlace, "000", api.ErrForm},
		{formatPlace, "111", api.ErrForm}, {modesPlace, "0001", api.ErrMode}, {modesPlace, "1000", api.ErrMode},
		{quantPlace, "00000", api.ErrQuant}, {modePlace, "1", api.ErrMode}, {suppPlace, nine, api.ErrLong},
	}
	for _, s := range someHeads() {
		for i, first := range faults {
			refused(t, "one fault", with(s, map[int]string{first.place: first.row}), first.wrong)
			for _, second := range faults[i:] {
				if second.place != first.place {
					bits := with(s, map[int]string{first.place: first.row, second.place: second.row})
					stays(t, "two faults", inbits.New(pack(t, bits)), first.wrong)
				}
			}
		}
	}
	all := map[int]string{}
	for i := len(faults) - 1; i >= 0; i-- {
		all[faults[i].place] = faults[i].row
		stays(t, "this one and all behind it", inbits.New(pack(t, with(plain(), all))), faults[i].wrong)
	}
}

// Every number that the parts of a head can tell, against the chapter's words.
func TestTakeOfAllParts(t *testing.T) {
	for v := range 1 << 16 {
		bits := firstMark + "00000101" + fmt.Sprintf("%02b", v>>14) + "011" + fmt.Sprintf("%03b%01b%04b%05b%01b", v>>11&7, v>>10&1, v>>6&15, v>>1&31, v&1) + "1000001110"
		want, err, far := taken(bits, 0)
		holds(t, "all parts", inbits.New(pack(t, bits)), want, err, far)
	}
	for v := range 1 << 11 {
		bits := firstMark + fmt.Sprintf("%08b10%03b110100000100100", v>>3, v&7)
		want, err, far := taken(bits, 0)
		holds(t, "all Refs and Flags", inbits.New(pack(t, bits)), want, err, far)
		if want.Ref != v>>3 || want.Flags != v&7 || err != api.OK {
			t.Fatalf("by the words Ref %d and Flags %d are %v, %d", v>>3, v&7, want, err)
		}
	}
}

// Heads one bit of which is another one, at each bit.
func TestTakeOfTurnedBits(t *testing.T) {
	for _, s := range append(someHeads(), plain()) {
		row := "10110111" + head(s)
		for i := range row {
			turned := row[:i] + string('0'+'1'-row[i]) + row[i+1:]
			everywhere(t, pack(t, turned, "1101"))
		}
	}
}

// Any bits behind a mark, and any bits at all, most of them noughts.
func TestTakeOfAnyBits(t *testing.T) {
	random := rand.New(rand.NewSource(24))
	for range 4000 {
		s := make([]byte, random.Intn(24))
		for i := range s {
			if random.Intn(3) == 0 {
				s[i] = byte(random.Intn(256))
			}
		}
		everywhere(t, string(s))
		if len(s) > 2 {
			copy(s, "\x00\x00\x80")
			s[2] |= byte(random.Intn(4))
			everywhere(t, string(s))
		}
	}
}

// Any bits where bytes beside a sheet stand.
func TestTakeOfAnyBytes(t *testing.T) {
	random := rand.New(rand.NewSource(8))
	bits := head(api.Sheet{Ref: 5, Format: 6, Quant: 9})
	bits = strings.TrimSuffix(bits, "0")
	for range 20000 {
		row := bits
		for range random.Intn(11) {
			row += fmt.Sprintf("1%08b", random.Intn(256))
		}
		row += fmt.Sprintf("%0*b", 9, random.Intn(512))
		s := pack(t, row)
		s = s[:len(s)-random.Intn(3)]
		want, err, far := taken(outbits.Show(s), 0)
		holds(t, "any bytes", inbits.New(s), want, err, far)
	}
}

// R3: the bytes of two answers share no memory, and neither does what is added
// behind them.
func TestAnswersAreNewMemory(t *testing.T) {
	for _, want := range someHeads() {
		r := inbits.New(pack(t, head(want)))
		first, _ := sheethead.Take(r)
		r.Seek(0)
		second, _ := sheethead.Take(r)
		for i := range first.Supp {
			first.Supp[i] = 99
		}
		_ = append(first.Supp, 77)
		if !same(second, want) {
			t.Fatalf("the second answer is %v, want %v", second, want)
		}
		r.Seek(0)
		holds(t, "the third answer", r, want, api.OK, len(head(want)))
	}
}

// Behind an error the reader reads on where it stood.
func TestReaderBehindErrors(t *testing.T) {
	bad := plain()
	bits := "11010001" + with(bad, map[int]string{quantPlace: "00000"})
	bits += fill(len(bits))
	begin := len(bits)
	r := reader(t, pack(t, bits, head(plain()), "110"), 8)
	for range 3 {
		stays(t, "no quantiser", r, api.ErrQuant)
	}
	if n, err := r.Peek(22); n != 32 || err != api.OK || r.At() != 8 {
		t.Errorf("behind an error stand %d, %d", n, err)
	}
	r.Seek(begin)
	holds(t, "behind errors", r, plain(), api.OK, len(head(plain())))
	if n, err := r.Take(3); n != 6 || err != api.OK {
		t.Errorf("behind the head stand %d, %d", n, err)
	}
}

// P24.2 by P4.2: at a byte's begin marks' At's error is told, where it tells one, and
// ErrMark just where it tells another number.
func TestTakeByAt(t *testing.T) {
	random := rand.New(rand.NewSource(4))
	for range 2000 {
		s := pack(t, strings.Repeat("0", random.Intn(17)), strings.Repeat("1", random.Intn(2)), markRow(random.Intn(3)), head(plain())[22:], markRow(random.Intn(32)))
		for at := 0; at <= 8*len(s); at += 8 {
			_, err := sheethead.Take(reader(t, s, at))
			number, wrong := marks.At(s, at)
			switch {
			case wrong != api.OK && err != wrong:
				t.Fatalf("Take(% x at %d): %d, and At tells %d", s, at, err, wrong)
			case wrong == api.OK && (err == api.ErrMark) != (number != marks.First):
				t.Fatalf("Take(% x at %d): %d, and At tells %d", s, at, err, number)
			}
		}
	}
}

// R4: what was asked before changes nothing.
func TestTheSameAgain(t *testing.T) {
	s := pack(t, head(plain()))
	for n := range 3 {
		holds(t, fmt.Sprint("time ", n), inbits.New(s), plain(), api.OK, len(head(plain())))
		stays(t, fmt.Sprint("time ", n), inbits.New(s[:5]), api.ErrShort)
		right(t, "1", plain())
		wrong(t, api.Sheet{Ref: 1})
	}
}
