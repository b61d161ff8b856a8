package runs_test

import (
	"math"
	"slices"
	"testing"

	"overspill/api"
	"overspill/runs"
)

type block = [64]int

// froms are the numbers that levels may be told from on.
func froms() []int {
	return []int{0, 1}
}

// wrongFroms are numbers that they may not be told from on.
func wrongFroms() []int {
	return []int{
		-1, 2, -2, 3, 8, 62, 63, 64, 65, 127, 128, 255, 256, 257, -64, -128, -255, -256,
		65536, 65537, -65535, 1 << 31, 1 << 32, 1<<32 + 1, -(1 << 32), 1 - 1<<32,
		math.MinInt32, math.MaxInt32, math.MinInt, math.MinInt + 1, math.MaxInt - 1, math.MaxInt,
	}
}

// wild are numbers that neither a level nor a Run may be.
func wild() []int {
	return []int{
		128, 129, 254, 255, 256, 257, 383, 384, 65535, 65536, 65537, math.MaxInt32, math.MaxInt32 + 1,
		1 << 32, 1<<32 + 1, 1<<32 + 127, 1<<40 + 5, math.MaxInt - 255, math.MaxInt - 63, math.MaxInt - 1, math.MaxInt,
		-128, -129, -255, -256, -257, -383, -65535, -65536, -65537, math.MinInt32, math.MinInt32 - 1,
		-(1 << 32), 1 - 1<<32, 5 - 1<<40, math.MinInt + 255, math.MinInt + 127, math.MinInt + 1, math.MinInt,
	}
}

// rightLevels are some that a level that is told may be, both ends among them.
func rightLevels() []int {
	return []int{1, -1, 2, -2, 5, -5, 64, -64, 126, -126, 127, -127}
}

// wrongEvents are events that are not right.
func wrongEvents(last bool) []api.Event {
	l := []api.Event{}
	for _, level := range append(wild(), 0) {
		for _, run := range []int{0, 1, 62, 63} {
			l = append(l, api.Event{Last: last, Run: run, Level: level})
		}
	}
	for _, run := range append(wild(), -1, -2, -63, -64, 64, 65, 127) {
		for _, level := range []int{0, 1, -1, 127, -127, 128} {
			l = append(l, api.Event{Last: last, Run: run, Level: level})
		}
	}
	return l
}

// laid has levels at numbers, each pair a number and its level; noughts elsewhere.
func laid(pairs ...[2]int) block {
	l := block{}
	for _, pair := range pairs {
		l[pair[0]] = pair[1]
	}
	return l
}

// told is what the chapter's words ask for of levels that may be: the numbers of
// those that are not 0 first, then how far each stands behind the one ahead.
func told(l block, from int) []api.Event {
	numbers := []int{}
	for number := from; number < 64; number++ {
		if l[number] != 0 {
			numbers = append(numbers, number)
		}
	}
	events := []api.Event{}
	for i, number := range numbers {
		ahead := from - 1
		if i > 0 {
			ahead = numbers[i-1]
		}
		events = append(events, api.Event{Last: number == numbers[len(numbers)-1], Run: number - ahead - 1, Level: l[number]})
	}
	return events
}

// same asks Events and Levels: these are each other's, from there on.
func same(t *testing.T, l block, from int, events ...api.Event) {
	t.Helper()
	got, err := runs.Events(l, from)
	if !slices.Equal(got, events) || err != api.OK {
		t.Fatalf("Events(%v, %d) = %v, %d, want %v", l, from, got, err, events)
	}
	want := l
	if from == 1 {
		want[0] = 0
	}
	back, err := runs.Levels(events, from)
	if back != want || err != api.OK {
		t.Fatalf("Levels(%v, %d) = %v, %d, want %v", events, from, back, err, want)
	}
	again, err := runs.Levels(got, from)
	if again != want || err != api.OK {
		t.Fatalf("Levels(Events(%v), %d) = %v, %d", l, from, again, err)
	}
	more, err := runs.Events(back, from)
	if !slices.Equal(more, events) || err != api.OK {
		t.Fatalf("Events(Levels(%v), %d) = %v, %d", events, from, more, err)
	}
}

// noEvents asks Events: it tells that error, and no events.
func noEvents(t *testing.T, l block, from int, want api.Errno) {
	t.Helper()
	if got, err := runs.Events(l, from); len(got) != 0 || err != want {
		t.Fatalf("Events(%v, %d) = %v, %d, want error %d", l, from, got, err, want)
	}
}

// noLevels asks Levels: it tells that error, and noughts.
func noLevels(t *testing.T, l []api.Event, from int, want api.Errno) {
	t.Helper()
	if got, err := runs.Levels(l, from); got != (block{}) || err != want {
		t.Fatalf("Levels(%v, %d) = %v, %d, want error %d", l, from, got, err, want)
	}
}

// chain is n events of one Run, each a level ahead of the next one, the last one
// told as such.
func chain(n, run int) []api.Event {
	l := []api.Event{}
	for i := range n {
		l = append(l, api.Event{Last: i == n-1, Run: run, Level: i%127 + 1})
	}
	return l
}

func TestExample(t *testing.T) {
	l := block{0, 5, 0, 0, -1}
	same(t, l, 0, api.Event{Run: 1, Level: 5}, api.Event{Last: true, Run: 2, Level: -1})
	same(t, l, 1, api.Event{Run: 0, Level: 5}, api.Event{Last: true, Run: 2, Level: -1})
}

func TestNoughtsAlone(t *testing.T) {
	for _, from := range froms() {
		same(t, block{}, from)
		for _, l := range [][]api.Event{nil, {}, make([]api.Event, 0, 8)} {
			if got, err := runs.Levels(l, from); got != (block{}) || err != api.OK {
				t.Errorf("Levels of no events from %d = %v, %d", from, got, err)
			}
		}
	}
	for _, level := range append(rightLevels(), wild()...) {
		same(t, block{level}, 1)
	}
}

// One level, at each number: so Runs of up to 63 from 0, and of up to 62 from 1.
func TestOneLevel(t *testing.T) {
	for level := -127; level <= 127; level++ {
		if level == 0 {
			continue
		}
		for number := range 64 {
			l := laid([2]int{number, level})
			same(t, l, 0, api.Event{Last: true, Run: number, Level: level})
			if number > 0 {
				same(t, l, 1, api.Event{Last: true, Run: number - 1, Level: level})
			}
		}
	}
}

func TestNoNoughtAtAll(t *testing.T) {
	for _, level := range rightLevels() {
		l := block{}
		events := []api.Event{}
		for number := range l {
			l[number] = level
			events = append(events, api.Event{Last: number == 63, Level: level})
		}
		same(t, l, 0, events...)
		same(t, l, 1, events[1:]...)
		for from, n := range map[int]int{0: 64, 1: 63} {
			got, _ := runs.Events(l, from)
			if len(got) != n {
				t.Errorf("%d events from %d, want %d", len(got), from, n)
			}
		}
	}
}

func TestNoughtsAheadOfTheLastLevel(t *testing.T) {
	same(t, block{63: -127}, 0, api.Event{Last: true, Run: 63, Level: -127})
	same(t, block{63: 127}, 1, api.Event{Last: true, Run: 62, Level: 127})
	same(t, block{0: 1, 63: -1}, 0, api.Event{Level: 1}, api.Event{Last: true, Run: 62, Level: -1})
	same(t, block{1: 1, 63: -1}, 0, api.Event{Run: 1, Level: 1}, api.Event{Last: true, Run: 61, Level: -1})
	same(t, block{1: 1, 63: -1}, 1, api.Event{Level: 1}, api.Event{Last: true, Run: 61, Level: -1})
}

// Number 0, told apart, is not among the events, be it nought or not, or such as
// no level may be; nor do its events tell it.
func TestNumberNought(t *testing.T) {
	for _, level := range append(append(rightLevels(), wild()...), 0) {
		same(t, block{level, 0, 7, 0, -3}, 1, api.Event{Run: 1, Level: 7}, api.Event{Last: true, Run: 1, Level: -3})
		same(t, block{level, 4, 63: 9}, 1, api.Event{Level: 4}, api.Event{Last: true, Run: 61, Level: 9})
	}
	for _, level := range rightLevels() {
		same(t, block{level, 0, 7}, 0, api.Event{Level: level}, api.Event{Last: true, Run: 1, Level: 7})
	}
	same(t, block{0, 0, 7}, 0, api.Event{Last: true, Run: 2, Level: 7})
}

func TestLevelsAtTheirEnds(t *testing.T) {
	for _, from := range froms() {
		for number := from; number < 64; number++ {
			l := block{}
			l[from], l[63], l[number] = 127, -127, -127
			same(t, l, from, told(l, from)...)
			l[from], l[63], l[number] = -127, 127, 127
			same(t, l, from, told(l, from)...)
		}
	}
}

// All ways in which noughts and levels can stand at ten numbers, wherever these
// begin.
func TestAllPatterns(t *testing.T) {
	for _, from := range froms() {
		for begin := range 55 {
			for pattern := range 1 << 10 {
				l := block{}
				for i := range 10 {
					if pattern>>i&1 == 1 {
						l[begin+i] = (begin+i)*(1-2*(i&1)) + 64*(1-2*(i&1))
					}
				}
				same(t, l, from, told(l, from)...)
			}
		}
	}
}

// Two levels, at all numbers; three at some.
func TestTwoAndThreeLevels(t *testing.T) {
	for _, from := range froms() {
		for a := range 64 {
			for b := range 64 {
				l := block{}
				l[a], l[b] = a-127, b+1
				same(t, l, from, told(l, from)...)
				l[(a*7+b*3)%64] = -1
				same(t, l, from, told(l, from)...)
			}
		}
	}
}

// Many blocks of all kinds of density, from a short rule that mixes.
func TestManyBlocks(t *testing.T) {
	state := uint32(1)
	next := func(n int) int {
		state = state*1664525 + 1013904223
		return int(state>>8) % n
	}
	for n := range 20000 {
		l := block{}
		for number := range l {
			if next(64) < n%65 {
				l[number] = next(255) - 127
			}
		}
		for _, from := range froms() {
			same(t, l, from, told(l, from)...)
		}
	}
}

// Last is true of the last event alone.
func TestLast(t *testing.T) {
	for n := 1; n <= 63; n++ {
		l := block{}
		for number := range n {
			l[number+1] = -number - 1
		}
		for _, from := range froms() {
			events, err := runs.Events(l, from)
			if len(events) != n || err != api.OK {
				t.Fatalf("Events(%v, %d) = %v, %d", l, from, events, err)
			}
			for i, e := range events {
				if e.Last != (i == n-1) {
					t.Errorf("Last of event %d of %d is %v", i, n, e.Last)
				}
			}
		}
	}
}

func TestWrongFrom(t *testing.T) {
	for _, from := range wrongFroms() {
		noEvents(t, block{}, from, api.ErrArg)
		noEvents(t, block{0, 5, 0, 0, -1}, from, api.ErrArg)
		noLevels(t, nil, from, api.ErrArg)
		noLevels(t, []api.Event{}, from, api.ErrArg)
		noLevels(t, []api.Event{{Last: true, Level: 1}}, from, api.ErrArg)
		noLevels(t, []api.Event{{Last: true, Run: 63, Level: 1}}, from, api.ErrArg)
	}
}

// Of two faults that of from is told.
func TestWrongFromAheadOfWrongLevels(t *testing.T) {
	for _, from := range wrongFroms() {
		for _, level := range wild() {
			noEvents(t, block{level}, from, api.ErrArg)
			noEvents(t, block{0, level}, from, api.ErrArg)
			noEvents(t, block{63: level}, from, api.ErrArg)
		}
		for _, last := range []bool{false, true} {
			for _, e := range wrongEvents(last) {
				noLevels(t, []api.Event{e}, from, api.ErrArg)
			}
		}
		noLevels(t, []api.Event{{Level: 1}}, from, api.ErrArg)
		noLevels(t, []api.Event{{Last: true, Level: 1}, {Last: true, Level: 1}}, from, api.ErrArg)
		noLevels(t, chain(65, 0), from, api.ErrArg)
	}
}

// A level that may not be is wrong at each number from from on, whatever stands
// ahead and behind.
func TestWrongLevels(t *testing.T) {
	full := block{}
	for number := range full {
		full[number] = number - 127
	}
	for _, level := range wild() {
		for _, from := range froms() {
			for number := from; number < 64; number++ {
				for _, l := range []block{{}, full, {0: 1}, {1: -1}, {63: 127}} {
					l[number] = level
					noEvents(t, l, from, api.ErrLevel)
				}
			}
		}
		noEvents(t, block{0: level, 1: level, 63: level}, 1, api.ErrLevel)
		noEvents(t, block{0: level, 1: 128}, 1, api.ErrLevel)
	}
}

// All levels around those that may be, at the numbers that the chapter names.
func TestLevelsAroundTheirEnds(t *testing.T) {
	for level := -300; level <= 300; level++ {
		for _, from := range froms() {
			for _, number := range []int{0, from, 1, 2, 62, 63} {
				l := block{}
				l[number] = level
				if number >= from && (level < -127 || level > 127) {
					noEvents(t, l, from, api.ErrLevel)
					continue
				}
				same(t, l, from, told(l, from)...)
			}
		}
	}
}

// An event that is not right is wrong at each place, with right ones ahead of it
// and behind.
func TestWrongEvents(t *testing.T) {
	for _, from := range froms() {
		for n := 1; n <= 5; n++ {
			for place := range n {
				for _, last := range []bool{false, true} {
					for _, e := range wrongEvents(last) {
						l := chain(n, 1)
						l[place] = e
						noLevels(t, l, from, api.ErrLevel)
					}
				}
			}
		}
	}
}

// An event whose Last is as it should be is wrong by its Run or its level, and
// right up to the ends of both.
func TestEventsAroundTheirEnds(t *testing.T) {
	for _, from := range froms() {
		for level := -300; level <= 300; level++ {
			l := []api.Event{{Level: 3}, {Last: true, Run: 2, Level: level}}
			if level < -127 || level > 127 || level == 0 {
				noLevels(t, l, from, api.ErrLevel)
				continue
			}
			same(t, laid([2]int{from, 3}, [2]int{from + 3, level}), from, l...)
		}
		for run := -70; run < 140; run++ {
			l := []api.Event{{Last: true, Run: run, Level: 1}}
			if run < 0 || from+run > 63 {
				noLevels(t, l, from, api.ErrLevel)
				continue
			}
			same(t, laid([2]int{from + run, 1}), from, l...)
		}
	}
}

// Last, true or false of each of up to eight events: one way alone is right.
func TestWrongLast(t *testing.T) {
	for _, from := range froms() {
		for n := 1; n <= 8; n++ {
			for pattern := range 1 << n {
				l := chain(n, 2)
				for i := range l {
					l[i].Last = pattern>>i&1 == 1
				}
				if pattern != 1<<(n-1) {
					noLevels(t, l, from, api.ErrLevel)
					continue
				}
				if _, err := runs.Levels(l, from); err != api.OK {
					t.Errorf("Levels(%v, %d): %d", l, from, err)
				}
			}
		}
		l := chain(64-from, 0)
		l[len(l)-1].Last = false
		noLevels(t, l, from, api.ErrLevel)
		l[0].Last = true
		noLevels(t, l, from, api.ErrLevel)
	}
}

// Events whose levels end just at number 63, and those of which the last one
// would have number 64, or a greater one.
func TestEnds(t *testing.T) {
	for _, from := range froms() {
		for a := range 64 {
			for b := range 64 {
				for c := range 64 {
					l := []api.Event{{Run: a, Level: 1}, {Run: b, Level: -2}, {Last: true, Run: c, Level: 3}}
					if from+a+b+c+2 > 63 {
						noLevels(t, l, from, api.ErrLevel)
						continue
					}
					want := laid([2]int{from + a, 1}, [2]int{from + a + b + 1, -2}, [2]int{from + a + b + c + 2, 3})
					same(t, want, from, l...)
				}
			}
		}
	}
	same(t, block{63: 9}, 0, api.Event{Last: true, Run: 63, Level: 9})
	noLevels(t, []api.Event{{Last: true, Run: 63, Level: 9}}, 1, api.ErrLevel)
	same(t, block{1: 1, 63: 9}, 1, api.Event{Level: 1}, api.Event{Last: true, Run: 61, Level: 9})
	noLevels(t, []api.Event{{Level: 1}, {Last: true, Run: 62, Level: 9}}, 1, api.ErrLevel)
	same(t, block{0: 1, 63: 9}, 0, api.Event{Level: 1}, api.Event{Last: true, Run: 62, Level: 9})
	noLevels(t, []api.Event{{Level: 1}, {Last: true, Run: 63, Level: 9}}, 0, api.ErrLevel)
}

// A level whose number is too great is wrong where it is not the last one, too.
func TestEndsWithinEvents(t *testing.T) {
	for _, from := range froms() {
		noLevels(t, []api.Event{{Run: 63, Level: 1}, {Last: true, Level: 1}}, from, api.ErrLevel)
		noLevels(t, []api.Event{{Run: 63, Level: 1}, {Run: 63, Level: 1}, {Last: true, Run: 63, Level: 1}}, from, api.ErrLevel)
		noLevels(t, []api.Event{{Run: 62, Level: 1}, {Level: 1}, {Last: true, Level: 1}}, from, api.ErrLevel)
	}
}

// As many events as there are levels, and more of them.
func TestMoreEventsThanLevels(t *testing.T) {
	for _, from := range froms() {
		for n := 1; n < 140; n++ {
			if n > 64-from {
				noLevels(t, chain(n, 0), from, api.ErrLevel)
				continue
			}
			l := block{}
			for i := range n {
				l[from+i] = i + 1
			}
			same(t, l, from, chain(n, 0)...)
		}
		for _, n := range []int{255, 256, 257, 65535, 65536, 65537, 1 << 18} {
			noLevels(t, chain(n, 0), from, api.ErrLevel)
			noLevels(t, chain(n, 63), from, api.ErrLevel)
		}
	}
}

// What is handed in stays as it was, and what lies behind a list's end as well,
// be the events right or not.
func TestEventsHandedInStay(t *testing.T) {
	lists := [][]api.Event{
		chain(3, 1), chain(64, 0), chain(65, 0), chain(2, 63),
		{{Last: true, Level: 1}, {Level: 1}}, {{Level: 1}}, {{Level: 0}, {Last: true, Level: 200}},
	}
	for _, from := range []int{0, 1, 2, -1} {
		for _, l := range lists {
			for n := range len(l) + 1 {
				room := append(slices.Clone(l), api.Event{Last: true, Run: 11, Level: 22}, api.Event{Run: -5, Level: 500})
				was := slices.Clone(room)
				runs.Levels(room[:n], from)
				if !slices.Equal(room, was) {
					t.Errorf("Levels(%v, %d) made of %v %v", l[:n], from, was, room)
				}
			}
		}
	}
}

// What is handed in is not kept, and answers share nothing: to change one changes
// no other.
func TestAnswersAreNew(t *testing.T) {
	for _, from := range froms() {
		l := block{3, 0, -4, 0, 0, 127, 63: -127}
		want := told(l, from)
		a, _ := runs.Events(l, from)
		b, _ := runs.Events(l, from)
		clear(a[:cap(a)])
		clear(l[:])
		if !slices.Equal(b, want) {
			t.Errorf("an answer became %v, want %v", b, want)
		}
		_ = append(b, api.Event{Level: 99})
		c, _ := runs.Events(block{3, 0, -4, 0, 0, 127, 63: -127}, from)
		if !slices.Equal(c, want) {
			t.Errorf("the next answer is %v, want %v", c, want)
		}
		first, _ := runs.Levels(b, from)
		clear(b)
		second, _ := runs.Levels(c, from)
		if first != second || first[63] != -127 {
			t.Errorf("answers are %v and %v", first, second)
		}
	}
}

// The same calls answer the same, whatever was asked between them.
func TestNothingIsKept(t *testing.T) {
	l := block{0, 5, 0, 0, -1}
	for range 3 {
		same(t, l, 1, api.Event{Run: 0, Level: 5}, api.Event{Last: true, Run: 2, Level: -1})
		noEvents(t, block{0: 1, 5: 2, 9: 128}, 0, api.ErrLevel)
		noLevels(t, []api.Event{{Run: 7, Level: 9}, {Run: 1, Level: 2}}, 0, api.ErrLevel)
		same(t, block{}, 0)
		noEvents(t, l, 2, api.ErrArg)
		same(t, l, 0, api.Event{Run: 1, Level: 5}, api.Event{Last: true, Run: 2, Level: -1})
	}
}
