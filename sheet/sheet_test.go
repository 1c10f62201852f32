package sheet_test

import (
	"fmt"
	"math"
	"math/rand"
	"slices"
	"strconv"
	"testing"

	"scrollback/api"
	"scrollback/sheet"
)

// Cells of each kind.
var (
	bold   = api.Pen{Flags: api.FlagBold}
	letter = api.Cell{Rune: 'a', Width: 1}
	marked = api.Cell{Rune: 'e', Marks: [3]rune{0x301, 0x302, 0x303}, Width: 1, Pen: bold}
	empty  = api.Cell{Width: 1}
	void   = api.Cell{Width: 1, Pen: bold}
	left   = api.Cell{Rune: 0x4e00, Width: 2, Pen: bold}
	right  = api.Cell{Pen: bold}
	other  = api.Cell{} // a spacer with another pen
)

// Numbers that are neither indices nor numbers of lines of any page: just outside, far outside, and such as they become by cutting.
var outside = []int{
	-1, -2, -1023, -1024, -1025, 1025, 1026, 2048, 1 << 20, 1<<31 - 1, 1 << 31, 1<<32 - 1, 1 << 32, 1<<32 + 1, 1<<32 + 2, 1<<32 + 1024, -1 << 32, 1 - 1<<32,
	math.MinInt, math.MinInt + 1, math.MinInt + 2, math.MinInt + 1024, math.MaxInt, math.MaxInt - 1, math.MaxInt - 1024,
}

// of and softOf return lines of cells.
func of(l ...api.Cell) api.Line {
	return api.Line{Cells: l}
}

func softOf(l ...api.Cell) api.Line {
	return api.Line{Cells: l, Soft: true}
}

// long returns a line of just so many equal cells.
func long(n int, c api.Cell) api.Line {
	return of(slices.Repeat([]api.Cell{c}, n)...)
}

// invalid returns lines that are none, each of them soft and not.
func invalid() []api.Line {
	var all []api.Line
	for _, l := range [][]api.Cell{
		{left}, {right}, {right, left}, {left, other}, {letter, left}, {left, right, right}, {left, letter, right}, {left, left, right},
		{{Rune: 'a', Width: 2}, {}}, {{Rune: 0x4e00, Width: 1}}, {{Rune: 'a', Width: 3}}, {{Rune: 'a', Width: -1}}, {{Width: 2}, {}},
		{{Rune: -1, Width: 1}}, {{Rune: 7, Width: 1}}, {{Rune: 0x301, Width: 1}}, {{Width: 1, Marks: [3]rune{0x301}}}, {{Rune: 'a', Width: 1, Marks: [3]rune{0, 0x301}}},
		{{Width: 1, Pen: api.Pen{Fore: api.Color{R: 1}}}}, {letter, {Rune: 'a', Width: 1, Pen: api.Pen{Back: api.Color{Kind: 3}}}},
		long(1001, empty).Cells, long(1001, letter).Cells, long(2000, empty).Cells, append(long(999, letter).Cells, left), append(long(999, letter).Cells, left, right),
	} {
		all = append(all, of(l...), softOf(l...))
	}
	return all
}

// fine returns lines that are valid, each of them soft and not.
func fine() []api.Line {
	var all []api.Line
	for _, l := range [][]api.Cell{
		nil, {empty}, {empty, empty}, {void}, {letter}, {marked}, {left, right}, {empty, letter, empty}, {marked, left, right, void},
		long(999, letter).Cells, long(1000, empty).Cells, long(1000, marked).Cells, append(long(998, letter).Cells, left, right),
	} {
		all = append(all, of(l...), softOf(l...))
	}
	return all
}

// numbered returns a valid line that no other number has; some are soft, and some have wide cells.
func numbered(n int) api.Line {
	l := api.Line{Soft: n%2 == 1}
	for _, r := range strconv.Itoa(n) {
		l.Cells = append(l.Cells, api.Cell{Rune: r, Width: 1})
	}
	if n%3 == 0 {
		l.Cells = append(l.Cells, left, right)
	}
	return l
}

// same reports whether two lines are equal.
func same(a, b api.Line) bool {
	return a.Soft == b.Soft && slices.Equal(a.Cells, b.Cells)
}

// cloned returns an equal line in memory of its own.
func cloned(l api.Line) api.Line {
	return api.Line{Cells: slices.Clone(l.Cells), Soft: l.Soft}
}

// none reports whether a line is a zero one.
func none(l api.Line) bool {
	return len(l.Cells) == 0 && !l.Soft
}

// spoil changes all cells of a line, also those that would be appended to it in the same memory.
func spoil(l api.Line) {
	l.Cells = l.Cells[:cap(l.Cells)]
	for i := range l.Cells {
		l.Cells[i] = api.Cell{Rune: 'z', Width: 1, Pen: bold}
	}
}

// plain is what a page is by the document: a list, of which no memory is ever in the page.
type plain struct {
	lines        []api.Line
	places, gone int
}

// copied returns an equal one that goes on independently; the lines themselves never change.
func (p *plain) copied() *plain {
	return &plain{slices.Clone(p.lines), p.places, p.gone}
}

func (p *plain) room() int {
	return p.places - p.gone - len(p.lines)
}

// made returns a page, and what it is by the document.
func made(t *testing.T, places int) (*sheet.Sheet, *plain) {
	t.Helper()
	s, e := sheet.New(places)
	if s == nil || e != api.OK {
		t.Fatalf("New(%d) = %v, %d", places, s, e)
	}
	return s, &plain{places: places}
}

// filled returns a page of which so many places are gone, and so many have lines, whose numbers begin with gone.
func filled(t *testing.T, places, gone, lines int) (*sheet.Sheet, *plain) {
	t.Helper()
	s, p := made(t, places)
	for n := range gone + lines {
		if e := s.Push(numbered(n)); e != api.OK {
			t.Fatal(n, e)
		}
		p.lines = append(p.lines, numbered(n))
	}
	if e := s.Drop(gone); e != api.OK {
		t.Fatal(gone, e)
	}
	p.lines, p.gone = p.lines[gone:], gone
	checkPage(t, s, p)
	return s, p
}

// checkCounts checks the numbers of a page.
func checkCounts(t *testing.T, s *sheet.Sheet, p *plain) {
	t.Helper()
	if s.Len() != len(p.lines) || s.Cap() != p.places || s.Gone() != p.gone || s.Room() != p.room() {
		t.Fatalf("Len %d, Cap %d, Gone %d, Room %d, not %d, %d, %d, %d", s.Len(), s.Cap(), s.Gone(), s.Room(), len(p.lines), p.places, p.gone, p.room())
	}
	if s.Len()+s.Room()+s.Gone() != s.Cap() {
		t.Fatalf("%d + %d + %d is not %d", s.Len(), s.Room(), s.Gone(), s.Cap())
	}
}

// checkPage checks all that is asked of a page, and that asking changes nothing.
func checkPage(t *testing.T, s *sheet.Sheet, p *plain) {
	t.Helper()
	for range 2 {
		checkCounts(t, s, p)
		if l := s.Lines(); !slices.EqualFunc(l, p.lines, same) {
			t.Fatalf("Lines = %v, not %v", l, p.lines)
		}
		for i, want := range p.lines {
			if l, e := s.Get(i); !same(l, want) || e != api.OK {
				t.Fatalf("Get(%d) = %v, %d, not %v", i, l, e, want)
			}
		}
		for _, i := range []int{-1, len(p.lines), len(p.lines) + 1, p.places} {
			if l, e := s.Get(i); !none(l) || e != api.ErrRange {
				t.Fatalf("Get(%d) of %d lines = %v, %d", i, len(p.lines), l, e)
			}
		}
	}
}

// push, set, drop and pop call a page's methods, and check what they return; the page is checked by the caller.
func push(t *testing.T, s *sheet.Sheet, p *plain, l api.Line) {
	t.Helper()
	e, want := s.Push(l), api.OK
	if p.room() == 0 {
		want = api.ErrFull
	} else {
		p.lines = append(p.lines, cloned(l))
	}
	if e != want {
		t.Fatalf("Push(%v) = %d, not %d", l, e, want)
	}
}

func set(t *testing.T, s *sheet.Sheet, p *plain, i int, l api.Line) {
	t.Helper()
	e, want := s.Set(i, l), api.OK
	if i < 0 || i >= len(p.lines) {
		want = api.ErrRange
	} else {
		p.lines[i] = cloned(l)
	}
	if e != want {
		t.Fatalf("Set(%d, %v) = %d, not %d", i, l, e, want)
	}
}

func drop(t *testing.T, s *sheet.Sheet, p *plain, n int) {
	t.Helper()
	e, want := s.Drop(n), api.OK
	if n < 0 || n > len(p.lines) {
		want = api.ErrRange
	} else {
		p.lines, p.gone = p.lines[n:], p.gone+n
	}
	if e != want {
		t.Fatalf("Drop(%d) of %d = %d, not %d", n, len(p.lines), e, want)
	}
}

func pop(t *testing.T, s *sheet.Sheet, p *plain) {
	t.Helper()
	l, e := s.Pop()
	last := len(p.lines) - 1
	if last < 0 {
		if !none(l) || e != api.ErrNone {
			t.Fatalf("Pop = %v, %d", l, e)
		}
		return
	}
	if !same(l, p.lines[last]) || e != api.OK {
		t.Fatalf("Pop = %v, %d, not %v", l, e, p.lines[last])
	}
	p.lines = p.lines[:last]
}

// P7.1 and P7.2: all numbers of places that are allowed, and many that are not; pages are filled until there is no room.
func TestNew(t *testing.T) {
	if sheet.MaxLines != 1024 {
		t.Fatal(sheet.MaxLines)
	}
	for n := 1; n <= 1024; n++ {
		s, p := made(t, n)
		checkPage(t, s, p)
		for range n {
			if e := s.Push(of(letter)); e != api.OK {
				t.Fatal(n, s.Len(), e)
			}
			p.lines = append(p.lines, of(letter))
			checkCounts(t, s, p)
		}
		if e := s.Push(of(letter)); e != api.ErrFull {
			t.Fatal(n, e)
		}
		checkCounts(t, s, p)
	}
	for _, n := range append([]int{0}, outside...) {
		if s, e := sheet.New(n); s != nil || e != api.ErrArg {
			t.Errorf("New(%d) = %v, %d", n, s, e)
		}
	}
}

// P7.1 and P7.2: the document's examples.
func TestExamples(t *testing.T) {
	x, y, z := of(letter), softOf(marked), of(left, right)
	s, p := made(t, 3)
	check := func(name string, got, want any) {
		t.Helper()
		if got != want {
			t.Errorf("%s = %v, not %v", name, got, want)
		}
	}
	checkLine := func(name string, l api.Line, e api.Errno, want api.Line, errno api.Errno) {
		t.Helper()
		if !same(l, want) || e != errno {
			t.Errorf("%s = %v, %d, not %v, %d", name, l, e, want, errno)
		}
	}
	check("Push(x)", s.Push(x), api.OK)
	check("Push(y)", s.Push(y), api.OK)
	check("Drop(1)", s.Drop(1), api.OK)
	l, e := s.Get(0)
	checkLine("Get(0)", l, e, y, api.OK)
	check("Room", s.Room(), 1)
	check("Gone", s.Gone(), 1)
	check("Push(z)", s.Push(z), api.OK)
	check("Push(x)", s.Push(x), api.ErrFull)
	l, e = s.Pop()
	checkLine("Pop", l, e, z, api.OK)
	check("Push(x)", s.Push(x), api.OK)
	p.lines, p.gone = []api.Line{y, x}, 1
	checkPage(t, s, p)
	for _, n := range []int{0, 1025} {
		none, e := sheet.New(n)
		check("New", e, api.ErrArg)
		check("New", none, (*sheet.Sheet)(nil))
	}
	l, e = s.Get(2)
	checkLine("Get(2)", l, e, api.Line{}, api.ErrRange)
	l, e = s.Get(-1)
	checkLine("Get(-1)", l, e, api.Line{}, api.ErrRange)
	check("Drop(3)", s.Drop(3), api.ErrRange)
	check("Set(1, z)", s.Set(1, z), api.OK)
	p.lines = []api.Line{y, z}
	checkPage(t, s, p)
	check("Push(s)", s.Push(of(right)), api.ErrArg)
	check("Drop(2)", s.Drop(2), api.OK)
	check("Len", s.Len(), 0)
	check("Room", s.Room(), 0)
	l, e = s.Pop()
	checkLine("Pop", l, e, api.Line{}, api.ErrNone)
	check("Cap", s.Cap(), 3)
	check("Gone", s.Gone(), 3)
}

// steps returns functions that each do one thing with a page, and the same with what it is by the document; n is a number for a line.
func steps(t *testing.T) []func(s *sheet.Sheet, p *plain, n int) {
	return []func(s *sheet.Sheet, p *plain, n int){
		func(s *sheet.Sheet, p *plain, n int) { push(t, s, p, numbered(n)) },
		func(s *sheet.Sheet, p *plain, n int) { set(t, s, p, 0, numbered(n)) },
		func(s *sheet.Sheet, p *plain, n int) { set(t, s, p, len(p.lines)-1, numbered(n)) },
		func(s *sheet.Sheet, p *plain, n int) { set(t, s, p, len(p.lines), numbered(n)) },
		func(s *sheet.Sheet, p *plain, n int) { drop(t, s, p, 0) },
		func(s *sheet.Sheet, p *plain, n int) { drop(t, s, p, 1) },
		func(s *sheet.Sheet, p *plain, n int) { drop(t, s, p, len(p.lines)) },
		func(s *sheet.Sheet, p *plain, n int) { drop(t, s, p, len(p.lines)+1) },
		func(s *sheet.Sheet, p *plain, n int) { pop(t, s, p) },
	}
}

// P7.1 to P7.3: all scripts of a few steps on small pages; a page goes on as the same one, and as a copy.
func TestScripts(t *testing.T) {
	all := steps(t)
	for places := 1; places <= 4; places++ {
		for script := range 9 * 9 * 9 * 9 * 9 {
			s, p := made(t, places)
			for i, rest := 0, script; i < 5; i, rest = i+1, rest/9 {
				all[rest%9](s, p, i)
				checkPage(t, s, p)
				if script%2 == 1 {
					s = s.Copy()
					checkPage(t, s, p)
				}
			}
		}
	}
}

// branch does everything with copies of a page, so many steps deep; the page, and copies of what was changed, stay as they were.
func branch(t *testing.T, s *sheet.Sheet, p *plain, depth int) {
	t.Helper()
	if depth == 0 {
		return
	}
	for _, step := range steps(t) {
		changed, q := s.Copy(), p.copied()
		c := changed.Copy()
		step(changed, q, depth)
		checkPage(t, c, p)
		checkPage(t, changed, q)
		branch(t, changed, q, depth-1)
		checkPage(t, changed, q)
		checkPage(t, c, p)
		checkPage(t, s, p)
	}
}

// P7.2: copies go on independently, whatever is done with the page, or with the copy.
func TestCopies(t *testing.T) {
	for places := 1; places <= 3; places++ {
		for lines := range places + 1 {
			for gone := range places - lines + 1 {
				s, p := filled(t, places, gone, lines)
				branch(t, s, p, 3)
			}
		}
	}
}

// P7.1 and P7.2: indices and numbers around those that are allowed, and far from them, for all states of small pages.
func TestRanges(t *testing.T) {
	numbers := outside
	for n := range 8 {
		numbers = append(numbers, n)
	}
	for places := 1; places <= 5; places++ {
		for lines := range places + 1 {
			for gone := range places - lines + 1 {
				for _, n := range numbers {
					s, p := filled(t, places, gone, lines)
					if l, e := s.Get(n); n >= 0 && n < lines && (!same(l, p.lines[n]) || e != api.OK) || (n < 0 || n >= lines) && (!none(l) || e != api.ErrRange) {
						t.Fatalf("Get(%d) of %d = %v, %d", n, lines, l, e)
					}
					set(t, s, p, n, numbered(100))
					checkPage(t, s, p)
					drop(t, s, p, n)
					checkPage(t, s, p)
				}
			}
		}
	}
}

// P7.1: places and indices at the end of the greatest page, and of such as have just fewer places.
func TestLarge(t *testing.T) {
	for _, places := range []int{1022, 1023, 1024} {
		s, p := filled(t, places, 0, places)
		for _, n := range outside {
			set(t, s, p, n, numbered(5000))
			drop(t, s, p, n)
		}
		for _, i := range []int{0, 1, places / 2, places - 2, places - 1, places, places + 1} {
			set(t, s, p, i, numbered(6000+i))
		}
		push(t, s, p, numbered(7000))
		checkPage(t, s, p)
		pop(t, s, p)
		push(t, s, p, numbered(8000))
		push(t, s, p, numbered(8001))
		drop(t, s, p, places+1)
		drop(t, s, p, 1)
		checkPage(t, s, p)
		push(t, s, p, numbered(9000))
		pop(t, s, p)
		pop(t, s, p)
		drop(t, s, p, places-3)
		drop(t, s, p, 1)
		checkPage(t, s, p)
		push(t, s, p, numbered(9001))
		push(t, s, p, numbered(9002))
		push(t, s, p, numbered(9003))
		checkPage(t, s, p)
		drop(t, s, p, 2)
		push(t, s, p, numbered(9004))
		pop(t, s, p)
		checkPage(t, s, p)
		if s.Gone() != places || s.Len() != 0 || s.Room() != 0 {
			t.Fatal(s.Gone(), s.Len(), s.Room())
		}
	}
}

// P7.1: pushing after dropping and after popping, as far as there is room, one line after the other.
func TestWindow(t *testing.T) {
	for places := 1; places <= 40; places++ {
		for lines := 1; lines <= places; lines++ {
			s, p := made(t, places)
			for n := range places + 3 {
				push(t, s, p, numbered(n))
				if len(p.lines) > lines {
					drop(t, s, p, 1)
				}
				checkCounts(t, s, p)
			}
			checkPage(t, s, p)
			for n := range lines + 1 {
				pop(t, s, p)
				checkCounts(t, s, p)
				push(t, s, p, numbered(100+n))
				pop(t, s, p)
			}
			checkPage(t, s, p)
			for n := range places + 1 {
				push(t, s, p, numbered(200+n))
			}
			checkPage(t, s, p)
		}
	}
}

// P7.1: all kinds of valid lines are kept as they are.
func TestLines(t *testing.T) {
	all := fine()
	for _, l := range all {
		s, p := filled(t, 4, 1, 1)
		push(t, s, p, l)
		checkPage(t, s, p)
		set(t, s, p, 0, l)
		checkPage(t, s, p)
		set(t, s, p, 1, numbered(7))
		set(t, s, p, 1, l)
		push(t, s, p, l)
		push(t, s, p, l)
		checkPage(t, s, p)
		pop(t, s, p)
		pop(t, s, p)
		checkPage(t, s, p)
	}
	s, p := made(t, len(all))
	for _, l := range all {
		push(t, s, p, l)
	}
	checkPage(t, s, p)
	for i := range all {
		set(t, s, p, i, all[len(all)-1-i])
	}
	checkPage(t, s, p)
	for range all {
		pop(t, s, p)
	}
	checkPage(t, s, p)
}

// P7.1: lines that are none are refused before anything else is found, and change nothing.
func TestInvalid(t *testing.T) {
	for _, l := range invalid() {
		kept := cloned(l)
		for _, state := range [][3]int{{1, 0, 0}, {1, 0, 1}, {1, 1, 0}, {3, 0, 0}, {3, 1, 1}, {3, 1, 2}, {3, 0, 3}, {3, 3, 0}} {
			s, p := filled(t, state[0], state[1], state[2])
			if e := s.Push(l); e != api.ErrArg {
				t.Fatalf("Push(%v) = %d", l, e)
			}
			checkPage(t, s, p)
			for _, i := range append([]int{0, 1, 2, 3}, outside...) {
				if e := s.Set(i, l); e != api.ErrArg {
					t.Fatalf("Set(%d, %v) = %d", i, l, e)
				}
			}
			checkPage(t, s, p)
		}
		if !same(l, kept) {
			t.Fatalf("%v became %v", kept, l)
		}
	}
}

// checkUnmade checks all methods of a nil or zero page.
func checkUnmade(t *testing.T, s *sheet.Sheet) {
	t.Helper()
	numbers := append([]int{0, 1, 2}, outside...)
	for _, l := range slices.Concat(fine(), invalid()) {
		if e := s.Push(l); e != api.ErrNil {
			t.Fatalf("Push(%v) = %d", l, e)
		}
		for _, i := range numbers {
			if e := s.Set(i, l); e != api.ErrNil {
				t.Fatalf("Set(%d, %v) = %d", i, l, e)
			}
		}
	}
	for _, i := range numbers {
		if l, e := s.Get(i); !none(l) || e != api.ErrNil {
			t.Fatalf("Get(%d) = %v, %d", i, l, e)
		}
		if e := s.Drop(i); e != api.ErrNil {
			t.Fatalf("Drop(%d) = %d", i, e)
		}
	}
	if l, e := s.Pop(); !none(l) || e != api.ErrNil {
		t.Fatalf("Pop = %v, %d", l, e)
	}
	if s.Len() != 0 || s.Cap() != 0 || s.Room() != 0 || s.Gone() != 0 || len(s.Lines()) != 0 {
		t.Fatal(s.Len(), s.Cap(), s.Room(), s.Gone(), s.Lines())
	}
	if c := s.Copy(); c != nil {
		t.Fatalf("Copy = %v", c)
	}
}

// P7.1, P7.2 and P1: nil and zero pages, before and after all has been asked of them.
func TestUnmade(t *testing.T) {
	var zero sheet.Sheet
	for _, s := range []*sheet.Sheet{nil, {}, new(sheet.Sheet), &zero} {
		checkUnmade(t, s)
		checkUnmade(t, s)
	}
}

// P7.1 and P1: a page that was made is none of those, also when it has no lines, or nothing but places that are gone.
func TestMade(t *testing.T) {
	for _, state := range [][2]int{{0, 0}, {1, 0}, {2, 0}, {0, 2}} {
		s, p := filled(t, 2, state[0], state[1])
		if c := s.Copy(); c == nil {
			t.Fatalf("Copy(%v) = nil", state)
		}
		push(t, s, p, of())
		pop(t, s, p)
		drop(t, s, p, 0)
		drop(t, s, p, 3)
		set(t, s, p, 2, of())
		checkPage(t, s, p)
	}
}

// withSpare returns a line of cells behind which more of its memory is, and all of the memory.
func withSpare(l api.Line) (api.Line, []api.Cell) {
	memory := append(slices.Clone(l.Cells), letter, left, right, marked, void)
	return api.Line{Cells: memory[:len(l.Cells)], Soft: l.Soft}, memory
}

// P7.1: lines that are pushed and set stay as they were, and changing them afterwards changes no page.
func TestArguments(t *testing.T) {
	calls := []func(s *sheet.Sheet, p *plain, l api.Line){
		func(s *sheet.Sheet, p *plain, l api.Line) { push(t, s, p, l) },
		func(s *sheet.Sheet, p *plain, l api.Line) { set(t, s, p, 0, l) },
		func(s *sheet.Sheet, p *plain, l api.Line) { set(t, s, p, len(p.lines)-1, l) },
		func(s *sheet.Sheet, p *plain, l api.Line) { set(t, s, p, len(p.lines), l) },
	}
	for _, l := range fine() {
		for i, call := range calls {
			for _, state := range [][3]int{{4, 1, 1}, {4, 2, 2}, {4, 0, 4}} {
				s, p := filled(t, state[0], state[1], state[2])
				given, memory := withSpare(l)
				kept := slices.Clone(memory)
				call(s, p, given)
				c := s.Copy()
				// Whatever is done with the page leaves the argument as it was.
				set(t, c, p.copied(), 0, numbered(9))
				c.Pop()
				c.Push(numbered(8))
				c.Drop(1)
				if !slices.Equal(memory, kept) || !same(given, l) {
					t.Fatalf("call %d: %v became %v", i, kept, memory)
				}
				spoil(given)
				checkPage(t, s, p)
			}
		}
	}
}

// P7.1: the same line may be pushed and set again and again; no two lines of a page are in the same memory.
func TestSameLine(t *testing.T) {
	s, p := made(t, 5)
	l := of(letter, letter)
	for i := range 5 {
		l.Cells[0].Rune = rune('a' + i)
		push(t, s, p, l)
	}
	checkPage(t, s, p)
	for i := range 5 {
		l.Cells[1].Rune = rune('p' + i)
		set(t, s, p, i, l)
	}
	checkPage(t, s, p)
	for i := range 4 {
		got, e := s.Get(i)
		if e != api.OK {
			t.Fatal(e)
		}
		set(t, s, p, i+1, got)
		spoil(got)
	}
	checkPage(t, s, p)
	got, e := s.Pop()
	p.lines = p.lines[:4]
	if e != api.OK {
		t.Fatal(e)
	}
	push(t, s, p, got)
	set(t, s, p, 0, got)
	spoil(got)
	checkPage(t, s, p)
}

// P7.1 and P7.2: changing what Get, Lines and Pop return changes neither the page, nor its copies, nor other results.
func TestResults(t *testing.T) {
	for _, l := range fine() {
		s, p := filled(t, 6, 1, 2)
		push(t, s, p, l)
		push(t, s, p, l)
		c, q := s.Copy(), p.copied()
		for i := range p.lines {
			first, _ := s.Get(i)
			second, _ := s.Get(i)
			spoil(first)
			if !same(second, p.lines[i]) {
				t.Fatalf("Get(%d) = %v, not %v", i, second, p.lines[i])
			}
		}
		checkPage(t, s, p)
		checkPage(t, c, q)
		all, again := s.Lines(), s.Lines()
		for i := range all {
			spoil(all[i])
			for n := i + 1; n < len(all); n++ {
				if !same(all[n], p.lines[n]) {
					t.Fatalf("Lines: %d changes with %d", n, i)
				}
			}
		}
		all = all[:cap(all)]
		for i := range all {
			all[i] = of(void)
		}
		if !slices.EqualFunc(again, p.lines, same) {
			t.Fatalf("Lines = %v, not %v", again, p.lines)
		}
		checkPage(t, s, p)
		checkPage(t, c, q)
		popped, e := s.Pop()
		p.lines = p.lines[:len(p.lines)-1]
		if !same(popped, l) || e != api.OK {
			t.Fatalf("Pop = %v, %d", popped, e)
		}
		spoil(popped)
		push(t, s, p, l)
		checkPage(t, s, p)
		checkPage(t, c, q)
		if popped, e = c.Pop(); !same(popped, l) || e != api.OK {
			t.Fatalf("Pop = %v, %d", popped, e)
		}
		spoil(popped)
		checkPage(t, s, p)
	}
}

// P7.1 and P7.2: what a page returned stays as it was, whatever is done with the page.
func TestResultsStay(t *testing.T) {
	s, p := filled(t, 8, 1, 4)
	want := slices.Clone(p.lines)
	got, e := s.Get(3)
	all := s.Lines()
	popped, f := s.Pop()
	if e != api.OK || f != api.OK {
		t.Fatal(e, f)
	}
	p.lines = p.lines[:3]
	for n := range 3 {
		push(t, s, p, numbered(70+n))
	}
	for i := range p.lines {
		set(t, s, p, i, numbered(80+i))
	}
	drop(t, s, p, 2)
	pop(t, s, p)
	checkPage(t, s, p)
	if !same(got, want[3]) || !same(popped, want[3]) || !slices.EqualFunc(all, want, same) {
		t.Fatal(got, popped, all)
	}
}

// P7.3: a page without room has room again only by popping; and no more by it than one place.
func TestRoom(t *testing.T) {
	all := steps(t)
	for places := 1; places <= 4; places++ {
		for gone := range places + 1 {
			for i, step := range all {
				s, p := filled(t, places, gone, places-gone)
				if s.Room() != 0 {
					t.Fatal(s.Room())
				}
				want := 0
				if i == len(all)-1 && gone < places {
					want = 1
				}
				step(s, p, 50)
				if s.Room() != want {
					t.Fatalf("step %d: room %d, not %d", i, s.Room(), want)
				}
				checkPage(t, s, p)
			}
		}
	}
}

// P7.3: what was pushed is either there, in order, or was dropped at the front, or popped at the end, just once.
func TestNoneLost(t *testing.T) {
	random := rand.New(rand.NewSource(7))
	for range 300 {
		places := 1 + random.Intn(30)
		s, _ := made(t, places)
		var there []int
		dropped := 0
		for n := range 100 {
			switch random.Intn(5) {
			case 0, 1, 2:
				if s.Push(numbered(n)) == api.OK {
					there = append(there, n)
				}
			case 3:
				k := random.Intn(3)
				if s.Drop(k) == api.OK {
					there, dropped = there[k:], dropped+k
				}
			case 4:
				l, e := s.Pop()
				if last := len(there) - 1; e == api.OK && same(l, numbered(there[last])) {
					there = there[:last]
				} else if len(there) > 0 {
					t.Fatal(l, e)
				}
			}
			if !slices.IsSorted(there) || s.Len() != len(there) || s.Gone() != dropped || s.Len()+s.Room()+s.Gone() != places {
				t.Fatal(there, s.Len(), s.Room(), s.Gone())
			}
			for i, l := range s.Lines() {
				if !same(l, numbered(there[i])) {
					t.Fatalf("%d is %v, not %d", i, l, there[i])
				}
			}
		}
	}
}

// randomStep does one thing with a page from a random source; what is returned and given is spoiled.
func randomStep(t *testing.T, random *rand.Rand, s *sheet.Sheet, p *plain, n int) {
	t.Helper()
	near := random.Intn(len(p.lines)+3) - 1
	l := numbered(n)
	switch random.Intn(10) {
	case 0, 1, 2, 3, 4:
		push(t, s, p, l)
	case 5:
		set(t, s, p, near, l)
	case 6:
		drop(t, s, p, random.Intn(4)-1)
	case 7:
		pop(t, s, p)
	case 8:
		for _, x := range s.Lines() {
			spoil(x)
		}
	case 9:
		if e := s.Push(of(left)); e != api.ErrArg {
			t.Fatal(e)
		}
	}
	spoil(l)
}

// P7.1 to P7.3: long scripts on pages of all sizes, which go on now and then as copies.
func TestRandom(t *testing.T) {
	for seed, places := range []int{1, 2, 3, 5, 8, 20, 64, 100, 257, 500, 1000, 1023, 1024} {
		t.Run(fmt.Sprint(places), func(t *testing.T) {
			random := rand.New(rand.NewSource(int64(seed)))
			for range 5 + 1000/places {
				s, p := made(t, places)
				for n := range min(3*places+20, 1500) {
					randomStep(t, random, s, p, n)
					checkCounts(t, s, p)
					if n%50 == 0 {
						checkPage(t, s, p)
						c := s.Copy()
						randomStep(t, random, c, p.copied(), n)
						checkPage(t, s, p)
					}
					if n%70 == 0 {
						s = s.Copy()
					}
				}
				checkPage(t, s, p)
			}
		})
	}
}
