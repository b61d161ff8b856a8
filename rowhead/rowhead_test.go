package rowhead_test

import (
	"fmt"
	"math"
	"math/rand"
	"strings"
	"testing"

	"overspill/api"
	"overspill/inbits"
	"overspill/marks"
	"overspill/outbits"
	"overspill/rowhead"
)

// markRow is a mark's bits.
func markRow(number int) string {
	return fmt.Sprintf("%016b1%05b", 0, number)
}

// fill is noughts up to a byte's end behind so many bits.
func fill(bits int) string {
	return strings.Repeat("0", (8-bits%8)%8)
}

// fields are the bits behind the mark.
func fields(id, quant int) string {
	return fmt.Sprintf("%02b%05b", id, quant)
}

// told is a head as the chapter says it, behind so many bits.
func told(bits, number, id, quant int) string {
	return fill(bits) + markRow(number) + fields(id, quant)
}

// head is a head's three numbers.
type head struct {
	number, id, quant int
}

// heads are all that may be.
func heads() []head {
	var l []head
	for number := 1; number <= 17; number++ {
		for id := range 4 {
			for quant := 1; quant <= 31; quant++ {
				l = append(l, head{number, id, quant})
			}
		}
	}
	return l
}

// far are numbers far below and far above all that a head may have; some have the
// lowest bits of one that it may have.
func far() []int {
	return []int{
		-2, -3, -17, -31, -32, -64, -256, -1 << 22, -1 << 32, -1<<32 + 3, math.MinInt32, math.MinInt + 3, math.MinInt + 1, math.MinInt,
		33, 34, 63, 64, 65, 96, 127, 128, 129, 255, 256, 257, 1 << 22, 1<<22 + 1, math.MaxInt32, 1 << 32, 1<<32 + 1, 1<<62 + 1, math.MaxInt - 1, math.MaxInt,
	}
}

// ahead are any bits, the first n of them.
func ahead(n int) []string {
	return []string{strings.Repeat("0", n), strings.Repeat("1", n), strings.Repeat("1001101", n)[:n], strings.Repeat("01", n)[:n]}
}

// behinds are bits that stand behind a head: of cells, of marks, or of none.
func behinds() []string {
	return []string{
		"", "0", "1", "00000", "11111", "01001", "10110", "0000000000000", "1111111111111", "0000000000000000000000000000000000",
		"00000" + "0000000000000000100001", "1" + "00000000" + "0000000000000000111111",
	}
}

// pack is the bytes of rows, one behind the other.
func pack(t *testing.T, rows ...string) string {
	t.Helper()
	s, err := outbits.Pack(strings.Join(rows, ""))
	if err != api.OK {
		t.Fatalf("Pack(%v): %d", rows, err)
	}
	return s
}

// reader stands at that bit of s.
func reader(t *testing.T, s string, at int) *inbits.Reader {
	t.Helper()
	r := inbits.New(s)
	if err := r.Seek(at); err != api.OK {
		t.Fatalf("Seek(%d) of % x: %d", at, s, err)
	}
	return r
}

// behind is a writer that has these bits.
func behind(t *testing.T, bits string) *outbits.Writer {
	t.Helper()
	w := outbits.New()
	if err := w.Add(bits); err != api.OK {
		t.Fatalf("Add(%s): %d", bits, err)
	}
	return w
}

// has asks whether a writer has just these bits.
func has(t *testing.T, what string, w *outbits.Writer, bits string) {
	t.Helper()
	if w.Len() != len(bits) || w.Text() != pack(t, bits) {
		t.Fatalf("%s: %d bits, %s, want %d, %s", what, w.Len(), outbits.Show(w.Text()), len(bits), bits)
	}
}

// right puts a head behind these bits, and asks for what stands there then.
func right(t *testing.T, bits string, h head) *outbits.Writer {
	t.Helper()
	w := behind(t, bits)
	if err := rowhead.Put(w, h.number, h.id, h.quant); err != api.OK {
		t.Fatalf("Put(%v) behind %q: %d", h, bits, err)
	}
	has(t, fmt.Sprint(h), w, bits+told(len(bits), h.number, h.id, h.quant))
	return w
}

// wrong puts a head that may not be behind these bits, which stay as they were.
func wrong(t *testing.T, bits string, h head) {
	t.Helper()
	w := behind(t, bits)
	if err := rowhead.Put(w, h.number, h.id, h.quant); err != api.ErrTree {
		t.Fatalf("Put(%v) behind %q: %d, want ErrTree", h, bits, err)
	}
	has(t, fmt.Sprint(h), w, bits)
}

// holds asks r for a head, and how far it goes.
func holds(t *testing.T, what string, r *inbits.Reader, number int, id, quant int, wrong api.Errno, far int) {
	t.Helper()
	s, at := r.Text(), r.At()
	gotId, gotQuant, err := rowhead.Take(r, number)
	if gotId != id || gotQuant != quant || err != wrong {
		t.Fatalf("%s: Take(% x at %d, %d) = %d, %d, %d, want %d, %d, %d", what, s, at, number, gotId, gotQuant, err, id, quant, wrong)
	}
	if r.Text() != s || r.At() != at+far || r.Left() != 8*len(s)-at-far {
		t.Fatalf("%s: Take(% x, %d) went from %d to %d, want %d", what, s, number, at, r.At(), at+far)
	}
}

// stays asks twice for a head that is wrong.
func stays(t *testing.T, what string, r *inbits.Reader, number int, wrong api.Errno) {
	t.Helper()
	holds(t, what, r, number, 0, 0, wrong, 0)
	holds(t, what+", again", r, number, 0, 0, wrong, 0)
}

// taken says by the chapter's words what Take tells of bits: id, quantiser, error,
// and how far the reader goes.
func taken(bits string, at, number int) (int, int, api.Errno, int) {
	filled, is := strings.CutPrefix(bits[at:], fill(at))
	if !is {
		return 0, 0, api.ErrMark, 0
	}
	mark, is := strings.CutPrefix(filled, "00000000000000001")
	if !is || len(mark) < 5 {
		return 0, 0, api.ErrMark, 0
	}
	if value(mark[:5]) != number {
		return 0, 0, api.ErrOrder, 0
	}
	if len(mark) < 12 {
		return 0, 0, api.ErrShort, 0
	}
	id, quant := value(mark[5:7]), value(mark[7:12])
	if quant == 0 {
		return 0, 0, api.ErrQuant, 0
	}
	return id, quant, api.OK, len(fill(at)) + 29
}

// value is the number that a row tells.
func value(row string) int {
	n := 0
	for _, digit := range row {
		n = 2*n + int(digit-'0')
	}
	return n
}

// asked are the numbers that a row is asked for by: all that marks have, and others.
func asked() []int {
	l := append(far(), -1, 32)
	for number := range 32 {
		l = append(l, number)
	}
	return l
}

// everywhere asks for a head at each bit of a text, by each of these numbers.
func everywhere(t *testing.T, s string, numbers ...int) {
	t.Helper()
	bits := outbits.Show(s)
	for at := range len(bits) + 1 {
		for _, number := range numbers {
			id, quant, err, far := taken(bits, at, number)
			holds(t, "at each bit", reader(t, s, at), number, id, quant, err, far)
		}
	}
}

func TestExample(t *testing.T) {
	w := outbits.New()
	if err := rowhead.Put(w, 3, 1, 9); err != api.OK {
		t.Fatalf("Put(3, 1, 9): %d", err)
	}
	has(t, "Put(3, 1, 9)", w, "00000000"+"00000000"+"1"+"00011"+"01"+"01001")
	if w.Len() != 29 {
		t.Errorf("there are %d bits, want 29", w.Len())
	}
	holds(t, "example", inbits.New(w.Text()), 3, 1, 9, api.OK, 29)
}

// P23.1, some heads as they stand on paper.
func TestPutByHand(t *testing.T) {
	for _, c := range []struct {
		ahead             string
		number, id, quant int
		want              string
	}{
		{"", 1, 0, 1, "0000000000000000" + "1" + "00001" + "00" + "00001"},
		{"", 17, 3, 31, "0000000000000000" + "1" + "10001" + "11" + "11111"},
		{"", 16, 2, 16, "0000000000000000" + "1" + "10000" + "10" + "10000"},
		{"1", 1, 1, 30, "1" + "0000000" + "0000000000000000" + "1" + "00001" + "01" + "11110"},
		{"1111111", 8, 0, 2, "1111111" + "0" + "0000000000000000" + "1" + "01000" + "00" + "00010"},
		{"11111111", 9, 3, 1, "11111111" + "0000000000000000" + "1" + "01001" + "11" + "00001"},
		{"000000000", 17, 0, 1, "000000000" + "0000000" + "0000000000000000" + "1" + "10001" + "00" + "00001"},
	} {
		w := behind(t, c.ahead)
		if err := rowhead.Put(w, c.number, c.id, c.quant); err != api.OK {
			t.Errorf("Put(%d, %d, %d) behind %q: %d", c.number, c.id, c.quant, c.ahead, err)
		}
		has(t, "on paper", w, c.want)
	}
}

// Every head, behind nothing and behind 1 to 17 bits.
func TestPut(t *testing.T) {
	for n := range 18 {
		for _, bits := range ahead(n) {
			for _, h := range heads() {
				right(t, bits, h)
			}
		}
	}
}

// Head behind head, with bits between or none: one by one as they are alone.
func TestPutOneBehindTheOther(t *testing.T) {
	w, row := outbits.New(), ""
	for n, h := range heads() {
		if n%37 != 0 {
			continue
		}
		if err := rowhead.Put(w, h.number, h.id, h.quant); err != api.OK {
			t.Fatalf("Put(%v): %d", h, err)
		}
		between := "110101101011"[:n%12]
		row += told(len(row), h.number, h.id, h.quant) + between
		w.Add(between)
		has(t, "head behind head", w, row)
	}
}

func TestPutOfWrongNumbers(t *testing.T) {
	for n := range 10 {
		for _, bits := range ahead(n) {
			for _, number := range append(far(), -1, 0, 18, 19, 30, 31, 32) {
				wrong(t, bits, head{number, 0, 1})
				wrong(t, bits, head{number, 3, 31})
				wrong(t, bits, head{number, 2, 9})
			}
		}
	}
}

func TestPutOfWrongIds(t *testing.T) {
	for n := range 10 {
		for _, bits := range ahead(n) {
			for _, id := range append(far(), -1, 4, 5, 7, 8, 31, 32) {
				wrong(t, bits, head{1, id, 1})
				wrong(t, bits, head{17, id, 31})
				wrong(t, bits, head{3, id, 9})
			}
		}
	}
}

func TestPutOfWrongQuants(t *testing.T) {
	for n := range 10 {
		for _, bits := range ahead(n) {
			for _, quant := range append(far(), -1, 0, 32) {
				wrong(t, bits, head{1, 0, quant})
				wrong(t, bits, head{17, 3, quant})
				wrong(t, bits, head{3, 1, quant})
			}
		}
	}
}

// Where more than one part is wrong, it is the same error.
func TestPutOfAllWrong(t *testing.T) {
	l := append(far(), -1, 32)
	for _, number := range append(l, 0, 18) {
		for _, id := range append(l, 4) {
			for _, quant := range append(l, 0) {
				wrong(t, "101", head{number, id, quant})
			}
		}
	}
}

// Every number from below all to above all, at each place: there is a head just if
// each is within its bounds.
func TestPutAround(t *testing.T) {
	put := 0
	for number := -3; number <= 40; number++ {
		for id := -3; id <= 9; id++ {
			for quant := -3; quant <= 40; quant++ {
				if number < 1 || number > 17 || id < 0 || id > 3 || quant < 1 || quant > 31 {
					wrong(t, "1", head{number, id, quant})
					continue
				}
				right(t, "1", head{number, id, quant})
				put++
			}
		}
	}
	if put != 17*4*31 {
		t.Errorf("%d heads may be", put)
	}
}

// A wrong head leaves a writer that writes on as if it had not been asked.
func TestPutBehindErrors(t *testing.T) {
	for n := range 10 {
		bits := "110110011"[:n]
		w := behind(t, bits)
		for _, h := range []head{{0, 0, 1}, {18, 0, 1}, {1, -1, 1}, {1, 4, 1}, {1, 0, 0}, {1, 0, 32}, {31, 9, 99}} {
			if err := rowhead.Put(w, h.number, h.id, h.quant); err != api.ErrTree {
				t.Errorf("Put(%v): %d, want ErrTree", h, err)
			}
			has(t, "behind an error", w, bits)
		}
		w.Add("01")
		if err := rowhead.Put(w, 5, 2, 7); err != api.OK {
			t.Errorf("Put behind errors: %d", err)
		}
		has(t, "behind errors", w, bits+"01"+told(n+2, 5, 2, 7))
	}
}

func TestPutIntoNoWriter(t *testing.T) {
	for _, h := range append(heads(), head{}, head{0, 0, 1}, head{18, 0, 1}, head{1, -1, 1}, head{1, 4, 1}, head{1, 0, 0}, head{1, 0, 32},
		head{math.MinInt, math.MinInt, math.MinInt}, head{math.MaxInt, math.MaxInt, math.MaxInt}) {
		if err := rowhead.Put(nil, h.number, h.id, h.quant); err != api.ErrArg {
			t.Errorf("Put(nil, %v): %d, want ErrArg", h, err)
		}
	}
}

func TestPutIntoZeroWriters(t *testing.T) {
	for _, h := range heads() {
		var w outbits.Writer
		if err := rowhead.Put(&w, h.number, h.id, h.quant); err != api.OK {
			t.Fatalf("Put(%v) into a zero writer: %d", h, err)
		}
		has(t, "a zero writer", &w, told(0, h.number, h.id, h.quant))
	}
	var w outbits.Writer
	if err := rowhead.Put(&w, 0, 0, 1); err != api.ErrTree {
		t.Errorf("Put(0, 0, 1) into a zero writer: %d, want ErrTree", err)
	}
	has(t, "a zero writer", &w, "")
}

// P23.2 and P23.3: every head, from where it begins, with any bits ahead and behind.
func TestTakenAgain(t *testing.T) {
	for n := range 10 {
		for i, h := range heads() {
			w := right(t, ahead(n)[i%4], h)
			for _, more := range behinds() {
				s := pack(t, outbits.Show(w.Text())[:w.Len()], more)
				holds(t, "taken again", reader(t, s, n), h.number, h.id, h.quant, api.OK, w.Len()-n)
			}
		}
	}
}

// From each of the bits ahead of the mark the same head is told.
func TestTakeFromEachBitAhead(t *testing.T) {
	for _, h := range []head{{1, 0, 1}, {3, 1, 9}, {17, 3, 31}, {8, 2, 16}} {
		s := pack(t, "1"+"0000000"+markRow(h.number)+fields(h.id, h.quant), "111")
		stays(t, "at the bit 1", reader(t, s, 0), h.number, api.ErrMark)
		for at := 1; at <= 8; at++ {
			holds(t, "from that bit", reader(t, s, at), h.number, h.id, h.quant, api.OK, 37-at)
		}
		stays(t, "within the mark", reader(t, s, 9), h.number, api.ErrMark)
	}
}

// Noughts ahead that are more than up to a byte's end are none of a head.
func TestTakeBehindBytesOfNoughts(t *testing.T) {
	for bytes := 1; bytes <= 3; bytes++ {
		s := pack(t, strings.Repeat("00000000", bytes), told(0, 3, 1, 9))
		for at := range 8*bytes - 7 {
			stays(t, "ahead of noughts", reader(t, s, at), 3, api.ErrMark)
		}
		for at := 8*bytes - 7; at <= 8*bytes; at++ {
			holds(t, "within the last noughts", reader(t, s, at), 3, 1, 9, api.OK, 8*bytes-at+29)
		}
	}
}

// Row behind row, as a sheet has them, each by its number.
func TestTakeRowBehindRow(t *testing.T) {
	w, row := outbits.New(), ""
	for number := 1; number <= 17; number++ {
		if err := rowhead.Put(w, number, number%4, number+13); err != api.OK {
			t.Fatalf("Put(%d): %d", number, err)
		}
		w.Add("10101010101"[:number%9])
		row += told(len(row), number, number%4, number+13) + "10101010101"[:number%9]
	}
	has(t, "row behind row", w, row)
	r := inbits.New(w.Text())
	for number := 1; number <= 17; number++ {
		stays(t, "the row behind", r, number+1, api.ErrOrder)
		stays(t, "the row ahead", r, number-1, api.ErrOrder)
		id, quant, err := rowhead.Take(r, number)
		if id != number%4 || quant != number+13 || err != api.OK {
			t.Fatalf("Take(%d) = %d, %d, %d", number, id, quant, err)
		}
		if r.Take(number % 9); r.At() > w.Len() {
			t.Fatalf("row %d ends at %d of %d", number, r.At(), w.Len())
		}
	}
	if r.At() != w.Len() {
		t.Errorf("%d bits were taken of %d", r.At(), w.Len())
	}
}

func TestTakeOfNoReader(t *testing.T) {
	for _, number := range asked() {
		if id, quant, err := rowhead.Take(nil, number); id != 0 || quant != 0 || err != api.ErrArg {
			t.Errorf("Take(nil, %d) = %d, %d, %d, want ErrArg", number, id, quant, err)
		}
	}
}

func TestTakeOfEmptyTexts(t *testing.T) {
	for _, number := range asked() {
		stays(t, "a zero reader", &inbits.Reader{}, number, api.ErrMark)
		stays(t, "an empty text", inbits.New(""), number, api.ErrMark)
	}
}

// No mark: wherever Next tells none, whatever the number is that is asked for.
func TestTakeOfNoMark(t *testing.T) {
	for _, c := range []struct {
		what, bits string
		at         int
	}{
		{"a mark's noughts alone", markRow(3)[:16], 0}, {"noughts alone", strings.Repeat("0", 40), 0},
		{"fifteen noughts", "000000000000000" + "1" + "00011" + fields(1, 9), 0},
		{"seventeen noughts", "00000000000000000" + "1" + "00011" + fields(1, 9), 0},
		{"a 1 bit in the first byte", "10000000" + "00000000" + "1" + "00011" + fields(1, 9), 0},
		{"a 1 bit in the second byte", "00000000" + "00000001" + "1" + "00011" + fields(1, 9), 0},
		{"a mark within a byte", "0" + markRow(3) + fields(1, 9), 1},
		{"a mark behind the head", "11111111" + told(0, 3, 1, 9), 0},
		{"a 1 bit ahead of the mark", "1110001" + "0" + markRow(3) + fields(1, 9), 3},
		{"the last bit ahead is 1", "11100001" + markRow(3) + fields(1, 9), 3},
		{"at the text's end", told(0, 3, 1, 9) + "000", 32},
		{"behind the mark", told(0, 3, 1, 9) + "000", 22},
		{"ones", strings.Repeat("1", 40), 0},
	} {
		for _, number := range asked() {
			stays(t, c.what, reader(t, pack(t, c.bits), c.at), number, api.ErrMark)
		}
	}
}

// The first 22 bits of a head are a mark, all fewer are none; seven more are a head.
func TestTakeOfCutTexts(t *testing.T) {
	for bytes := range 8 {
		for _, at := range []int{0, 3, 8, 13} {
			s := pack(t, strings.Repeat("1", at)+told(at, 3, 1, 9)+"111")
			if bytes > len(s) || at > 8*bytes {
				continue
			}
			s = s[:bytes]
			switch behind := 8*bytes - at - len(fill(at)); {
			case behind < 22:
				stays(t, "no mark", reader(t, s, at), 3, api.ErrMark)
			case behind < 29:
				stays(t, "too few bits", reader(t, s, at), 3, api.ErrShort)
				stays(t, "another number", reader(t, s, at), 4, api.ErrOrder)
			default:
				holds(t, "all bits", reader(t, s, at), 3, 1, 9, api.OK, len(fill(at))+29)
			}
		}
	}
}

// A mark of every number, asked for by every number.
func TestTakeOfOtherNumbers(t *testing.T) {
	for mark := range 32 {
		for _, number := range asked() {
			for _, at := range []int{0, 1, 7, 8} {
				s := pack(t, strings.Repeat("1", at)+fill(at)+markRow(mark)+fields(2, 30))
				if number == mark {
					holds(t, "that number", reader(t, s, at), number, 2, 30, api.OK, len(fill(at))+29)
				} else {
					stays(t, "another number", reader(t, s, at), number, api.ErrOrder)
				}
			}
		}
	}
}

// Another number is told ahead of too few bits behind the mark, and of a quantiser
// of 0.
func TestOrderAheadOfWhatStandsBehind(t *testing.T) {
	for mark := range 32 {
		for _, number := range asked() {
			if number == mark {
				continue
			}
			for _, more := range []string{"", "01", "10", "11"} {
				stays(t, "too few bits", reader(t, pack(t, markRow(mark)+more), 0), number, api.ErrOrder)
			}
			for id := range 4 {
				stays(t, "a quantiser of 0", reader(t, pack(t, markRow(mark)+fields(id, 0)), 0), number, api.ErrOrder)
			}
		}
	}
}

// A text ends at a byte's end, so that two bits stand behind a mark where there are
// too few, whatever they are.
func TestTakeOfTooFewBits(t *testing.T) {
	for mark := range 32 {
		for _, more := range []string{"00", "01", "10", "11"} {
			for at := range 18 {
				for _, bits := range ahead(at) {
					s := pack(t, bits+fill(at)+markRow(mark)+more)
					stays(t, "two bits", reader(t, s, at), mark, api.ErrShort)
				}
			}
		}
	}
}

func TestTakeOfNoQuant(t *testing.T) {
	for mark := range 32 {
		for id := range 4 {
			for _, more := range behinds() {
				for at := range 10 {
					s := pack(t, ahead(at)[mark%4]+fill(at)+markRow(mark)+fields(id, 0)+more)
					stays(t, "a quantiser of 0", reader(t, s, at), mark, api.ErrQuant)
				}
			}
		}
	}
}

// Behind a mark of every number all fields, against the chapter's words.
func TestTakeOfAllFields(t *testing.T) {
	for mark := range 32 {
		for v := range 1 << 7 {
			for _, more := range []string{"000", "111"} {
				s := pack(t, markRow(mark)+fmt.Sprintf("%07b", v)+more)
				everywhere(t, s, mark, 3, 32, -1)
			}
		}
	}
}

// Heads one bit of which is another one, at each bit.
func TestTakeOfTurnedBits(t *testing.T) {
	for _, h := range []head{{1, 0, 1}, {3, 1, 9}, {17, 3, 31}, {16, 2, 16}, {9, 0, 8}} {
		for _, n := range []int{0, 5, 8} {
			row := strings.Repeat("1", n) + told(n, h.number, h.id, h.quant) + "101"
			for i := range row {
				turned := row[:i] + string('0'+'1'-row[i]) + row[i+1:]
				everywhere(t, pack(t, turned), asked()...)
			}
		}
	}
}

// Any bits, most of them noughts, so that marks stand among them.
func TestTakeOfAnyBits(t *testing.T) {
	random := rand.New(rand.NewSource(23))
	for range 4000 {
		s := make([]byte, random.Intn(12))
		for i := range s {
			if random.Intn(3) == 0 {
				s[i] = byte(random.Intn(256))
			}
		}
		everywhere(t, string(s), random.Intn(32), random.Intn(32), 0, 32)
	}
}

// Behind a mark's noughts all bits of two bytes, asked for by every number.
func TestTakeOfAllEnds(t *testing.T) {
	for v := range 1 << 16 {
		s := "\x00\x00" + string([]byte{byte(v >> 8), byte(v)})
		bits := outbits.Show(s)
		for _, number := range []int{value(bits[17:22]), 1, 31} {
			id, quant, err, far := taken(bits, 0, number)
			holds(t, "two bytes", reader(t, s, 0), number, id, quant, err, far)
		}
	}
}

// P23.2 by P4.3: there is no mark just where Next tells none, and another number
// where Next tells that.
func TestTakeByNext(t *testing.T) {
	random := rand.New(rand.NewSource(4))
	for range 2000 {
		s := pack(t, strings.Repeat("0", random.Intn(9))+strings.Repeat("1", random.Intn(3))+markRow(random.Intn(32))+fields(random.Intn(4), random.Intn(3))+"1")
		for at := range 8*len(s) + 1 {
			for _, number := range []int{0, 1, 17, 31} {
				_, _, err := rowhead.Take(reader(t, s, at), number)
				begun, is := marks.Next(s, at)
				if (err == api.ErrMark) == is || (err == api.ErrOrder) != (is && begun != number) {
					t.Fatalf("Take(% x at %d, %d): %d, and Next is %d, %v", s, at, number, err, begun, is)
				}
			}
		}
	}
}

// Behind an error the reader reads on where it stood.
func TestReaderBehindErrors(t *testing.T) {
	s := pack(t, "110"+fill(3)+markRow(3)+fields(1, 9)+"110")
	r := reader(t, s, 3)
	for range 3 {
		stays(t, "another number", r, 4, api.ErrOrder)
	}
	if bits, err := r.Peek(6); bits != 0 || err != api.OK || r.At() != 3 {
		t.Errorf("behind an error stand %d, %d", bits, err)
	}
	holds(t, "behind errors", r, 3, 1, 9, api.OK, 34)
	if bits, err := r.Take(3); bits != 6 || err != api.OK {
		t.Errorf("behind the head stand %d, %d", bits, err)
	}
}

// R4: what was asked before changes nothing.
func TestTheSameAgain(t *testing.T) {
	s := pack(t, told(0, 7, 2, 21))
	for n := range 3 {
		holds(t, fmt.Sprint("time ", n), inbits.New(s), 7, 2, 21, api.OK, 29)
		stays(t, fmt.Sprint("time ", n), inbits.New(s), 8, api.ErrOrder)
		right(t, "1", head{7, 2, 21})
		wrong(t, "1", head{18, 2, 21})
	}
}
