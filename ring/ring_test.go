package ring_test

import (
	"fmt"
	"math"
	"math/rand"
	"slices"
	"strconv"
	"testing"

	"scrollback/api"
	"scrollback/ring"
)

// Cells of each kind.
var (
	bold   = api.Pen{Flags: api.FlagBold}
	letter = api.Cell{Rune: 'a', Width: 1}
	marked = api.Cell{Rune: 'e', Marks: [3]rune{0x301, 0x302, 0x303}, Width: 1, Pen: bold}
	empty  = api.Cell{Width: 1}
	void   = api.Cell{Width: 1, Pen: bold}
	left   = api.Cell{Rune: 0x4e00, Width: 2, Pen: bold}
	right  = api.Cell{Pen: bold}
	other  = api.Cell{} // a spacer with another pen
)

// Numbers that no line of the rings of these tests has, and that are no limits: below 0, far above, and such as they become by cutting.
var outside = []int{
	-1, -2, -1024, -1 << 20, 1<<20 + 1, 1<<20 + 2, 1 << 21, 1<<31 - 1, 1 << 31, 1<<32 - 1, 1 << 32, 1<<32 + 1, 1<<32 + 3, 1<<40 + 2, -1 << 32, 1 - 1<<32,
	math.MinInt, math.MinInt + 1, math.MinInt + 3, math.MinInt + 1024, math.MaxInt, math.MaxInt - 1, math.MaxInt - 1024,
}

// of and softOf return lines of cells.
func of(l ...api.Cell) api.Line {
	return api.Line{Cells: l}
}

func softOf(l ...api.Cell) api.Line {
	return api.Line{Cells: l, Soft: true}
}

// long returns a line of just so many equal cells.
func long(n int, c api.Cell) api.Line {
	return of(slices.Repeat([]api.Cell{c}, n)...)
}

// invalid returns lines that are none, each of them soft and not.
func invalid() []api.Line {
	var all []api.Line
	for _, l := range [][]api.Cell{
		{left}, {right}, {right, left}, {left, other}, {letter, left}, {left, right, right}, {left, letter, right}, {left, left, right},
		{{Rune: 'a', Width: 2}, {}}, {{Rune: 0x4e00, Width: 1}}, {{Rune: 'a', Width: 3}}, {{Rune: 'a', Width: -1}}, {{Width: 2}, {}},
		{{Rune: -1, Width: 1}}, {{Rune: 7, Width: 1}}, {{Rune: 0x301, Width: 1}}, {{Width: 1, Marks: [3]rune{0x301}}}, {{Rune: 'a', Width: 1, Marks: [3]rune{0, 0x301}}},
		{{Width: 1, Pen: api.Pen{Fore: api.Color{R: 1}}}}, {letter, {Rune: 'a', Width: 1, Pen: api.Pen{Back: api.Color{Kind: 3}}}},
		long(1001, empty).Cells, long(1001, letter).Cells, append(long(999, letter).Cells, left), append(long(999, letter).Cells, left, right),
	} {
		all = append(all, of(l...), softOf(l...))
	}
	return all
}

// fine returns lines that are valid, each of them soft and not.
func fine() []api.Line {
	var all []api.Line
	for _, l := range [][]api.Cell{
		nil, {empty}, {empty, empty}, {void}, {letter}, {marked}, {left, right}, {empty, letter, empty}, {marked, left, right, void},
		long(999, letter).Cells, long(1000, empty).Cells, long(1000, marked).Cells, append(long(998, letter).Cells, left, right),
	} {
		all = append(all, of(l...), softOf(l...))
	}
	return all
}

// numbered returns a valid line that no other number has; some are soft, and some have wide cells.
func numbered(n int) api.Line {
	l := api.Line{Soft: n%2 == 1}
	for _, r := range strconv.Itoa(n) {
		l.Cells = append(l.Cells, api.Cell{Rune: r, Width: 1})
	}
	if n%3 == 0 {
		l.Cells = append(l.Cells, left, right)
	}
	return l
}

// same reports whether two lines are equal.
func same(a, b api.Line) bool {
	return a.Soft == b.Soft && slices.Equal(a.Cells, b.Cells)
}

// cloned returns an equal line in memory of its own.
func cloned(l api.Line) api.Line {
	return api.Line{Cells: slices.Clone(l.Cells), Soft: l.Soft}
}

// none reports whether a line is a zero one.
func none(l api.Line) bool {
	return len(l.Cells) == 0 && !l.Soft
}

// spoil changes all cells of a line, also those that would be appended to it in the same memory.
func spoil(l api.Line) {
	l.Cells = l.Cells[:cap(l.Cells)]
	for i := range l.Cells {
		l.Cells[i] = api.Cell{Rune: 'z', Width: 1, Pen: bold}
	}
}

// plainPage is a page by the document: how many of its places are gone, and its lines.
type plainPage struct {
	gone  int
	lines []api.Line
}

// plain is what a ring is by the document: a list of pages, of which no memory is ever in the ring.
type plain struct {
	pages        []plainPage
	most, places int
	first, next  int
}

// copied returns an equal one that goes on independently; the lines themselves never change.
func (p *plain) copied() *plain {
	q := *p
	q.pages = slices.Clone(p.pages)
	for i, g := range q.pages {
		q.pages[i].lines = slices.Clone(g.lines)
	}
	return &q
}

// lines returns all lines, in order.
func (p *plain) lines() []api.Line {
	var all []api.Line
	for _, g := range p.pages {
		all = append(all, g.lines...)
	}
	return all
}

func (p *plain) push(l api.Line) {
	last := len(p.pages) - 1
	if last < 0 || p.pages[last].gone+len(p.pages[last].lines) == p.places {
		p.pages = append(p.pages, plainPage{})
		last++
	}
	p.pages[last].lines = append(p.pages[last].lines, cloned(l))
	p.next++
	p.evict()
}

func (p *plain) evict() {
	for p.next-p.first > p.most {
		p.pages[0].lines = p.pages[0].lines[1:]
		p.pages[0].gone++
		p.first++
		if len(p.pages[0].lines) == 0 {
			p.pages = p.pages[1:]
		}
	}
}

func (p *plain) pop() api.Line {
	last := len(p.pages) - 1
	lines := p.pages[last].lines
	l := lines[len(lines)-1]
	p.pages[last].lines = lines[:len(lines)-1]
	if len(lines) == 1 {
		p.pages = p.pages[:last]
	}
	p.next--
	return l
}

func (p *plain) set(n int, l api.Line) {
	n -= p.first
	for i := range p.pages {
		if n < len(p.pages[i].lines) {
			p.pages[i].lines[n] = cloned(l)
			return
		}
		n -= len(p.pages[i].lines)
	}
}

// missing returns the error of a number that no line has.
func (p *plain) missing(n int) api.Errno {
	switch {
	case n < 0 || n >= p.next:
		return api.ErrRange
	case n < p.first:
		return api.ErrGone
	}
	return api.OK
}

// made returns a ring, and what it is by the document.
func made(t *testing.T, most, places int) (*ring.Ring, *plain) {
	t.Helper()
	r, e := ring.New(most, places)
	if r == nil || e != api.OK {
		t.Fatalf("New(%d, %d) = %v, %d", most, places, r, e)
	}
	return r, &plain{most: most, places: places}
}

// filled returns a ring to which so many lines were pushed, which have their numbers, and of which so many were popped then.
func filled(t *testing.T, most, places, pushed, popped int) (*ring.Ring, *plain) {
	t.Helper()
	r, p := made(t, most, places)
	for n := range pushed {
		push(t, r, p, numbered(n))
	}
	for range popped {
		pop(t, r, p)
	}
	checkCounts(t, r, p)
	return r, p
}

// shapes calls a function with rings in many states, which are made anew for each call.
func shapes(t *testing.T, pushed int, call func(r *ring.Ring, p *plain)) {
	t.Helper()
	for places := 1; places <= 3; places++ {
		for most := range 6 {
			for n := range pushed + 1 {
				for popped := range 3 {
					r, p := filled(t, most, places, n, popped)
					call(r, p)
				}
			}
		}
	}
}

// checkCounts checks the numbers of a ring, and its bounds.
func checkCounts(t *testing.T, r *ring.Ring, p *plain) {
	t.Helper()
	if r.First() != p.first || r.Next() != p.next || r.Len() != p.next-p.first || r.Most() != p.most || r.Pages() != len(p.pages) {
		t.Fatalf("First %d, Next %d, Len %d, Most %d, Pages %d, not %d, %d, %d, %d, %d", r.First(), r.Next(), r.Len(), r.Most(), r.Pages(), p.first, p.next, p.next-p.first, p.most, len(p.pages))
	}
	if r.Len() > r.Most() || r.Pages() > p.most/p.places+2 {
		t.Fatalf("%d lines on %d pages of %d, at most %d", r.Len(), r.Pages(), p.places, p.most)
	}
}

// checkLines checks the numbers and the lines of a ring.
func checkLines(t *testing.T, r *ring.Ring, p *plain) {
	t.Helper()
	checkCounts(t, r, p)
	want := p.lines()
	if l, e := r.Range(p.first, p.next); !slices.EqualFunc(l, want, same) || e != api.OK {
		t.Fatalf("Range(%d, %d) = %v, %d, not %v", p.first, p.next, l, e, want)
	}
	for i, x := range want {
		if l, e := r.Get(p.first + i); !same(l, x) || e != api.OK {
			t.Fatalf("Get(%d) = %v, %d, not %v", p.first+i, l, e, x)
		}
	}
}

// checkRing checks all that is asked of a ring, and that asking changes nothing.
func checkRing(t *testing.T, r *ring.Ring, p *plain) {
	t.Helper()
	checkLines(t, r, p)
	for n := -1; n <= p.next+2; n++ {
		if e := p.missing(n); e != api.OK {
			if l, got := r.Get(n); !none(l) || got != e {
				t.Fatalf("Get(%d) of %d to %d = %v, %d, not %d", n, p.first, p.next, l, got, e)
			}
		}
		for to := -1; to <= p.next+2; to++ {
			checkRange(t, r, p, n, to)
		}
	}
	checkLines(t, r, p)
}

// checkRange checks what Range returns.
func checkRange(t *testing.T, r *ring.Ring, p *plain, from, to int) {
	t.Helper()
	var want []api.Line
	errno := api.OK
	switch {
	case from < 0, from > to, to > p.next:
		errno = api.ErrRange
	case from < p.first:
		errno = api.ErrGone
	default:
		want = p.lines()[from-p.first : to-p.first]
	}
	if l, e := r.Range(from, to); !slices.EqualFunc(l, want, same) || e != errno {
		t.Fatalf("Range(%d, %d) of %d to %d = %v, %d, not %v, %d", from, to, p.first, p.next, l, e, want, errno)
	}
}

// push, pop, set and limit call a ring's methods, and check what they return; the ring is checked by the caller.
func push(t *testing.T, r *ring.Ring, p *plain, l api.Line) {
	t.Helper()
	want := p.next
	if n, e := r.Push(l); n != want || e != api.OK {
		t.Fatalf("Push(%v) = %d, %d, not %d", l, n, e, want)
	}
	p.push(l)
}

func pop(t *testing.T, r *ring.Ring, p *plain) {
	t.Helper()
	l, e := r.Pop()
	if p.next == p.first {
		if !none(l) || e != api.ErrNone {
			t.Fatalf("Pop = %v, %d", l, e)
		}
		return
	}
	if want := p.pop(); !same(l, want) || e != api.OK {
		t.Fatalf("Pop = %v, %d, not %v", l, e, want)
	}
}

func set(t *testing.T, r *ring.Ring, p *plain, n int, l api.Line) {
	t.Helper()
	e, want := r.Set(n, l), p.missing(n)
	if e != want {
		t.Fatalf("Set(%d, %v) of %d to %d = %d, not %d", n, l, p.first, p.next, e, want)
	}
	if want == api.OK {
		p.set(n, l)
	}
}

func limit(t *testing.T, r *ring.Ring, p *plain, most int) {
	t.Helper()
	e, want := r.Limit(most), api.OK
	if most < 0 || most > 1<<20 {
		want = api.ErrArg
	} else {
		p.most = most
		p.evict()
	}
	if e != want {
		t.Fatalf("Limit(%d) = %d, not %d", most, e, want)
	}
}

func clearAll(r *ring.Ring, p *plain) {
	r.Clear()
	p.pages, p.first = nil, p.next
}

// P8.1 and P8.4: limits and numbers of places that are allowed, and many that are not, alone and together.
func TestNew(t *testing.T) {
	mosts, places := []int{0, 1, 2, 3, 1023, 1024, 1025, 1<<20 - 1, 1 << 20}, []int{1, 2, 3, 512, 1023, 1024}
	badPlaces := append([]int{0, 1025, 1026, 2048, 1 << 16, 1 << 20}, outside...)
	for _, most := range mosts {
		for _, n := range places {
			r, p := made(t, most, n)
			checkRing(t, r, p)
			push(t, r, p, numbered(5))
			checkRing(t, r, p)
		}
		for _, n := range badPlaces {
			if r, e := ring.New(most, n); r != nil || e != api.ErrArg {
				t.Errorf("New(%d, %d) = %v, %d", most, n, r, e)
			}
		}
	}
	for _, most := range outside {
		for _, n := range append(places, badPlaces...) {
			if r, e := ring.New(most, n); r != nil || e != api.ErrArg {
				t.Errorf("New(%d, %d) = %v, %d", most, n, r, e)
			}
		}
	}
}

// checker returns functions that compare what calls return.
func checker(t *testing.T) (func(name string, got, want any), func(name string, l api.Line, e api.Errno, want api.Line, errno api.Errno), func(name string, n int, e api.Errno, want int)) {
	check := func(name string, got, want any) {
		t.Helper()
		if got != want {
			t.Errorf("%s = %v, not %v", name, got, want)
		}
	}
	checkLine := func(name string, l api.Line, e api.Errno, want api.Line, errno api.Errno) {
		t.Helper()
		if !same(l, want) || e != errno {
			t.Errorf("%s = %v, %d, not %v, %d", name, l, e, want, errno)
		}
	}
	checkPush := func(name string, n int, e api.Errno, want int) {
		t.Helper()
		if n != want || e != api.OK {
			t.Errorf("%s = %d, %d, not %d", name, n, e, want)
		}
	}
	return check, checkLine, checkPush
}

// P8.1 to P8.4: the document's examples.
func TestExamples(t *testing.T) {
	check, checkLine, checkPush := checker(t)
	a, b, c, d, five := of(letter), softOf(marked), of(left, right), of(), softOf(void, letter)
	r, _ := made(t, 3, 2)
	for i, l := range []api.Line{a, b, c} {
		n, e := r.Push(l)
		checkPush("Push", n, e, i)
	}
	check("Pages", r.Pages(), 2)
	n, e := r.Push(d)
	checkPush("Push(d)", n, e, 3)
	check("First", r.First(), 1)
	check("Next", r.Next(), 4)
	check("Pages", r.Pages(), 2)
	l, e := r.Get(0)
	checkLine("Get(0)", l, e, api.Line{}, api.ErrGone)
	l, e = r.Get(1)
	checkLine("Get(1)", l, e, b, api.OK)
	l, e = r.Get(4)
	checkLine("Get(4)", l, e, api.Line{}, api.ErrRange)
	all, e := r.Range(1, 4)
	check("Range(1, 4)", slices.EqualFunc(all, []api.Line{b, c, d}, same) && e == api.OK, true)

	n, e = r.Push(five)
	checkPush("Push(e)", n, e, 4)
	check("Pages", r.Pages(), 2)
	l, e = r.Pop()
	checkLine("Pop", l, e, five, api.OK)
	check("Next", r.Next(), 4)
	n, e = r.Push(a)
	checkPush("Push(a)", n, e, 4)
	check("Limit(1)", r.Limit(1), api.OK)
	check("First", r.First(), 4)
	all, e = r.Range(4, 5)
	check("Range(4, 5)", slices.EqualFunc(all, []api.Line{a}, same) && e == api.OK, true)
	all, e = r.Range(0, 1)
	check("Range(0, 1)", len(all) == 0 && e == api.ErrGone, true)
	all, e = r.Range(3, 2)
	check("Range(3, 2)", len(all) == 0 && e == api.ErrRange, true)

	check("Set(4, b)", r.Set(4, b), api.OK)
	l, e = r.Get(4)
	checkLine("Get(4)", l, e, b, api.OK)
	r.Clear()
	check("Len", r.Len(), 0)
	check("First", r.First(), 5)
	check("Pages", r.Pages(), 0)
	l, e = r.Pop()
	checkLine("Pop", l, e, api.Line{}, api.ErrNone)
	n, e = r.Push(c)
	checkPush("Push(c)", n, e, 5)
	check("Limit(-1)", r.Limit(-1), api.ErrArg)
	for _, x := range [][2]int{{-1, 2}, {0, 0}} {
		none, e := ring.New(x[0], x[1])
		check("New", e, api.ErrArg)
		check("New", none, (*ring.Ring)(nil))
	}
	r, _ = made(t, 0, 4)
	n, e = r.Push(a)
	checkPush("Push(a)", n, e, 0)
	check("Len", r.Len(), 0)
	check("Next", r.Next(), 1)
	check("Pages", r.Pages(), 0)
}

// P8.1: pages that come and go by pushing, with the numbers that the document gives.
func TestPages(t *testing.T) {
	for _, c := range []struct{ most, places, pushed, first, pages int }{
		{5, 2, 0, 0, 0},
		{5, 2, 1, 0, 1}, // the first page
		{5, 2, 2, 0, 1}, // it has room
		{5, 2, 3, 0, 2}, // one more page
		{5, 2, 4, 0, 2},
		{5, 2, 5, 0, 3},
		{5, 2, 6, 1, 3}, // an eviction that empties no page
		{5, 2, 7, 2, 3}, // one that empties a page, and one more page
		{5, 2, 8, 3, 3},
		{4, 2, 5, 1, 3}, // two lines more than pages are full of
		{4, 2, 6, 2, 2}, // a page is emptied, and there is no other one
		{4, 2, 7, 3, 3},
		{1, 3, 3, 2, 1},
		{1, 3, 4, 3, 1}, // one more page, and the other one is emptied
		{2, 1, 9, 7, 2}, // pages of one place
		{1, 1, 9, 8, 1},
		{0, 1, 9, 9, 0}, // what is pushed is gone at once
		{0, 3, 9, 9, 0},
		{3, 9, 9, 6, 1},
		{3, 9, 10, 7, 2},
		{3, 9, 12, 9, 1},
	} {
		r, p := made(t, c.most, c.places)
		for n := range c.pushed {
			push(t, r, p, numbered(n))
		}
		if r.First() != c.first || r.Next() != c.pushed || r.Len() != c.pushed-c.first || r.Pages() != c.pages {
			t.Errorf("%v: First %d, Next %d, Len %d, Pages %d", c, r.First(), r.Next(), r.Len(), r.Pages())
		}
		checkRing(t, r, p)
	}
}

// P8.1: a limit of 0, where what is pushed is gone at once, but has had a number.
func TestNothingKept(t *testing.T) {
	for _, places := range []int{1, 2, 3, 1024} {
		r, p := made(t, 0, places)
		for n := range 5 {
			if i, e := r.Push(numbered(n)); i != n || e != api.OK {
				t.Fatal(i, e)
			}
			p.push(numbered(n))
			if l, e := r.Get(n); !none(l) || e != api.ErrGone {
				t.Fatalf("Get(%d) = %v, %d", n, l, e)
			}
			if l, e := r.Pop(); !none(l) || e != api.ErrNone {
				t.Fatalf("Pop = %v, %d", l, e)
			}
			if r.First() != n+1 || r.Next() != n+1 || r.Len() != 0 || r.Pages() != 0 {
				t.Fatal(r.First(), r.Next(), r.Len(), r.Pages())
			}
			checkRing(t, r, p)
		}
	}
}

// P8.1: popping all lines, the only one of the last page among them, and pushing again, where the numbers are given again.
func TestPopAgain(t *testing.T) {
	r, p := filled(t, 4, 2, 5, 0) // 1, 2 3, 4: the last page has just one line
	pages := r.Pages()
	pop(t, r, p)
	if r.Pages() != pages-1 || r.Next() != 4 {
		t.Fatal(r.Pages(), r.Next())
	}
	if n, e := r.Push(numbered(50)); n != 4 || e != api.OK || r.Pages() != pages {
		t.Fatal(n, e, r.Pages())
	}
	p.push(numbered(50))
	checkRing(t, r, p)
	shapes(t, 8, func(r *ring.Ring, p *plain) {
		for k := range p.next - p.first + 1 {
			for range k {
				pop(t, r, p)
				checkLines(t, r, p)
			}
			for i := range k + 1 {
				push(t, r, p, numbered(100*k+i))
				checkLines(t, r, p)
			}
		}
		for range p.next - p.first + 1 {
			pop(t, r, p)
		}
		checkRing(t, r, p)
		if r.Pages() != 0 || r.First() != r.Next() {
			t.Fatal(r.Pages(), r.First(), r.Next())
		}
	})
}

// P8.3: all limits around the number of lines, the extreme ones, and many that are not allowed; several pages may go at once.
func TestLimit(t *testing.T) {
	r, p := filled(t, 9, 2, 10, 0) // 1, 2 3, 4 5, 6 7, 8 9
	if r.Pages() != 5 {
		t.Fatal(r.Pages())
	}
	limit(t, r, p, 3)
	if r.Pages() != 2 || r.First() != 7 || r.Len() != 3 {
		t.Fatal(r.Pages(), r.First(), r.Len())
	}
	limits := append([]int{0, 1, 2, 3, 4, 5, 6, 7, 1 << 20}, outside...)
	for i := range limits {
		shapes(t, 9, func(r *ring.Ring, p *plain) {
			limit(t, r, p, limits[i])
			checkLines(t, r, p)
			push(t, r, p, numbered(50))
			limit(t, r, p, r.Len())
			checkLines(t, r, p)
			limit(t, r, p, limits[len(limits)-1-i])
			push(t, r, p, numbered(51))
			push(t, r, p, numbered(52))
			checkLines(t, r, p)
			limit(t, r, p, 2)
			checkLines(t, r, p)
		})
	}
}

// P8.3: a limit that becomes greater evicts nothing, and leaves room for as many lines as it says.
func TestGreaterLimit(t *testing.T) {
	for _, most := range []int{0, 1, 2, 5} {
		for more := range 8 {
			r, p := filled(t, most, 2, 7, 0)
			was := r.Len()
			limit(t, r, p, most+more)
			if r.Len() != was {
				t.Fatal(r.Len(), was)
			}
			for n := range more {
				push(t, r, p, numbered(50+n))
				if r.Len() != was+n+1 {
					t.Fatal(r.Len(), was, n)
				}
			}
			checkRing(t, r, p)
			push(t, r, p, numbered(90))
			if r.Len() != most+more {
				t.Fatal(r.Len(), most, more)
			}
			checkRing(t, r, p)
		}
	}
}

// P8.3: clearing rings with lines, and without; what is pushed then has the next number, on a page of its own.
func TestClear(t *testing.T) {
	shapes(t, 9, func(r *ring.Ring, p *plain) {
		for i := range 3 {
			next, most := r.Next(), r.Most()
			clearAll(r, p)
			if r.First() != next || r.Next() != next || r.Len() != 0 || r.Pages() != 0 || r.Most() != most {
				t.Fatal(r.First(), r.Next(), r.Len(), r.Pages(), r.Most())
			}
			checkRing(t, r, p)
			pop(t, r, p)
			clearAll(r, p)
			for n := range 2 * i {
				push(t, r, p, numbered(50+n))
				checkLines(t, r, p)
			}
			checkRing(t, r, p)
		}
	})
}

// P8.2: numbers that are gone, there, not yet there, below 0, and far from all of them, for rings in many states.
func TestNumbers(t *testing.T) {
	shapes(t, 9, func(r *ring.Ring, p *plain) {
		for n := -2; n <= p.next+2; n++ {
			set(t, r, p, n, numbered(50+n))
		}
		checkRing(t, r, p)
		for _, n := range outside {
			if l, e := r.Get(n); !none(l) || e != api.ErrRange {
				t.Fatalf("Get(%d) = %v, %d", n, l, e)
			}
			set(t, r, p, n, numbered(90))
		}
		checkLines(t, r, p)
	})
}

// P8.2: each line is set for itself, and no other one is.
func TestSet(t *testing.T) {
	shapes(t, 9, func(r *ring.Ring, p *plain) {
		for n := p.first; n < p.next; n++ {
			set(t, r, p, n, numbered(200+n))
			checkLines(t, r, p)
			set(t, r, p, n, numbered(300+n))
		}
		for n := p.next - 1; n >= p.first; n-- {
			set(t, r, p, n, numbered(400+n))
			checkLines(t, r, p)
		}
	})
}

// P8.2: ranges of which one end, or both, is far from all numbers; of ErrRange and ErrGone the first one is returned.
func TestRanges(t *testing.T) {
	for _, state := range [][4]int{{3, 2, 0, 0}, {3, 2, 2, 0}, {3, 2, 8, 0}, {3, 2, 8, 3}, {0, 2, 5, 0}, {5, 1, 9, 0}, {5, 9, 9, 1}} {
		r, p := filled(t, state[0], state[1], state[2], state[3])
		numbers := slices.Clone(outside)
		for n := -3; n <= p.next+3; n++ {
			numbers = append(numbers, n)
		}
		for _, from := range numbers {
			for _, to := range numbers {
				checkRange(t, r, p, from, to)
			}
		}
		checkRing(t, r, p)
	}
	r, _ := filled(t, 3, 2, 8, 0) // 5 to 7
	for _, c := range []struct {
		from, to int
		e        api.Errno
	}{
		{0, 0, api.ErrGone}, {4, 4, api.ErrGone}, {4, 8, api.ErrGone}, {0, 3, api.ErrGone},
		{0, 9, api.ErrRange}, {4, 9, api.ErrRange}, {4, 3, api.ErrRange}, {-1, 8, api.ErrRange}, {-1, -1, api.ErrRange}, {9, 9, api.ErrRange}, {8, 7, api.ErrRange},
		{5, 5, api.OK}, {8, 8, api.OK}, {7, 7, api.OK}, {5, 8, api.OK},
	} {
		l, e := r.Range(c.from, c.to)
		if e != c.e || e != api.OK && len(l) != 0 || e == api.OK && len(l) != c.to-c.from {
			t.Errorf("Range(%d, %d) = %v, %d, not %d", c.from, c.to, l, e, c.e)
		}
	}
}

// steps returns functions that each do one thing with a ring, and the same with what it is by the document; n is a number for a line.
func steps(t *testing.T) []func(r *ring.Ring, p *plain, n int) {
	return []func(r *ring.Ring, p *plain, n int){
		func(r *ring.Ring, p *plain, n int) { push(t, r, p, numbered(n)) },
		func(r *ring.Ring, p *plain, n int) { pop(t, r, p) },
		func(r *ring.Ring, p *plain, n int) {
			for i := range 3 {
				push(t, r, p, numbered(10*n+i))
			}
		},
		func(r *ring.Ring, p *plain, n int) { limit(t, r, p, p.most-1) },
		func(r *ring.Ring, p *plain, n int) { limit(t, r, p, p.most+2) },
		func(r *ring.Ring, p *plain, n int) { clearAll(r, p) },
		func(r *ring.Ring, p *plain, n int) { set(t, r, p, p.first, numbered(n)) },
		func(r *ring.Ring, p *plain, n int) { set(t, r, p, p.next-1, numbered(n)) },
		func(r *ring.Ring, p *plain, n int) { set(t, r, p, p.next, numbered(n)) },
		func(r *ring.Ring, p *plain, n int) { set(t, r, p, p.first-1, numbered(n)) },
	}
}

// P8.1 to P8.5: all scripts of a few steps that change a small ring; it goes on as the same one, and as a copy.
func TestScripts(t *testing.T) {
	all := steps(t)[:6]
	for places := 1; places <= 3; places++ {
		for most := range 4 {
			for script := range 6 * 6 * 6 * 6 * 6 {
				r, p := made(t, most, places)
				for i, rest := 0, script; i < 5; i, rest = i+1, rest/6 {
					all[rest%6](r, p, i)
					checkCounts(t, r, p)
					if script%2 == 1 {
						r = r.Copy()
					}
				}
				checkLines(t, r, p)
			}
		}
	}
}

// branch does everything with copies of a ring, so many steps deep; the ring, and copies of what was changed, stay as they were.
func branch(t *testing.T, r *ring.Ring, p *plain, depth int) {
	t.Helper()
	if depth == 0 {
		return
	}
	for _, step := range steps(t) {
		changed, q := r.Copy(), p.copied()
		c := changed.Copy()
		step(changed, q, depth)
		checkLines(t, c, p)
		checkLines(t, changed, q)
		branch(t, changed, q, depth-1)
		checkLines(t, changed, q)
		checkLines(t, c, p)
		checkLines(t, r, p)
	}
}

// P8.4: copies go on independently, whatever is done with the ring, or with the copy.
func TestCopies(t *testing.T) {
	shapes(t, 6, func(r *ring.Ring, p *plain) { branch(t, r, p, 2) })
	for _, state := range [][4]int{{3, 2, 6, 0}, {4, 3, 9, 2}, {2, 1, 3, 1}} {
		r, p := filled(t, state[0], state[1], state[2], state[3])
		branch(t, r, p, 3)
	}
}

// P8.4: a ring goes on after it was copied, and the copies stay.
func TestCopiesStay(t *testing.T) {
	var copies []*ring.Ring
	var wants []*plain
	r, p := made(t, 7, 3)
	for n := range 40 {
		copies, wants = append(copies, r.Copy()), append(wants, p.copied())
		push(t, r, p, numbered(n))
		set(t, r, p, p.first, numbered(100+n))
		set(t, r, p, p.next-1, numbered(200+n))
		if n%3 == 0 {
			pop(t, r, p)
		}
	}
	limit(t, r, p, 2)
	clearAll(r, p)
	for i, c := range copies {
		checkRing(t, c, wants[i])
	}
}

// P8.5: there are at most so many lines and pages, whatever is pushed and popped, and just so many as the greatest number that is possible.
func TestBounds(t *testing.T) {
	for places := 1; places <= 7; places++ {
		for most := range 20 {
			r, p := made(t, most, places)
			greatest := 0
			for n := range 3*places + 2*most {
				push(t, r, p, numbered(n))
				checkCounts(t, r, p)
				greatest = max(greatest, r.Pages())
			}
			checkLines(t, r, p)
			// The first page has at least one line, and so has the last one; those between them are full.
			want := min(most, 2+(most-2)/places)
			if greatest != want {
				t.Fatalf("most %d, places %d: %d pages, not %d", most, places, greatest, want)
			}
			for n := range most {
				pop(t, r, p)
				push(t, r, p, numbered(500+n))
				pop(t, r, p)
				checkCounts(t, r, p)
			}
		}
	}
}

// P8.5: as long as a line is there, its number is the same, and what was pushed is there, in order, but for what was evicted, popped or cleared.
func TestNumbersStay(t *testing.T) {
	random := rand.New(rand.NewSource(8))
	for range 200 {
		most, places := random.Intn(20), 1+random.Intn(6)
		r, _ := made(t, most, places)
		var there []int // which line it is, from First on
		first := 0
		for n := range 150 {
			switch random.Intn(8) {
			default:
				if got, e := r.Push(numbered(n)); got != first+len(there) || e != api.OK {
					t.Fatal(got, e)
				}
				there = append(there, n)
			case 5, 6:
				if _, e := r.Pop(); e == api.OK {
					there = there[:len(there)-1]
				}
			case 7:
				most = random.Intn(20)
				if e := r.Limit(most); e != api.OK {
					t.Fatal(e)
				}
			}
			evicted := max(0, len(there)-most)
			first, there = first+evicted, there[evicted:]
			if r.First() != first || r.Len() != len(there) || !slices.IsSorted(there) {
				t.Fatal(r.First(), r.Len(), first, there)
			}
			for i, want := range there {
				if l, e := r.Get(first + i); !same(l, numbered(want)) || e != api.OK {
					t.Fatalf("%d is %v, %d, not %d", first+i, l, e, want)
				}
			}
		}
	}
}

// P8.1: the greatest limit is kept, on pages of each size, and one line more evicts one.
func TestGreatest(t *testing.T) {
	for _, places := range []int{1, 1023, 1024} {
		r, _ := made(t, 1<<20, places)
		short := func(n int) api.Line {
			return of(api.Cell{Rune: rune(0x700 + n%1000), Width: 1}, api.Cell{Rune: rune(0x700 + n/1000), Width: 1})
		}
		const more = 1500
		for n := range 1<<20 + more {
			if got, e := r.Push(short(n)); got != n || e != api.OK {
				t.Fatal(n, got, e)
			}
			if want := min(n+1, 1<<20); r.Len() != want || r.Next() != n+1 || r.First() != n+1-want || r.Pages() > 1<<20/places+2 {
				t.Fatal(r.Len(), r.First(), r.Next(), r.Pages())
			}
		}
		for _, n := range []int{more, more + 1, more + places, 1<<20 - 1, 1 << 20, 1<<20 + more - 1} {
			if l, e := r.Get(n); !same(l, short(n)) || e != api.OK {
				t.Fatalf("Get(%d) = %v, %d", n, l, e)
			}
		}
		if l, e := r.Get(more - 1); !none(l) || e != api.ErrGone {
			t.Fatalf("Get = %v, %d", l, e)
		}
		all, e := r.Range(more, 1<<20+more)
		if len(all) != 1<<20 || e != api.OK || !same(all[0], short(more)) || !same(all[1<<20-1], short(1<<20+more-1)) {
			t.Fatal(len(all), e)
		}
		if e := r.Limit(1); e != api.OK || r.Len() != 1 || r.Pages() != 1 || r.First() != 1<<20+more-1 {
			t.Fatal(e, r.Len(), r.Pages(), r.First())
		}
	}
}

// P8.1: pages of the greatest number of places, and of just fewer, at the places where they are full.
func TestLargePages(t *testing.T) {
	for _, places := range []int{1022, 1023, 1024} {
		r, p := made(t, places+1, places)
		for n := range 3*places + 2 {
			push(t, r, p, numbered(n))
			checkCounts(t, r, p)
			if k := n % places; k < 2 || k > places-2 {
				checkLines(t, r, p)
				from := max(p.first, p.next-3)
				checkRange(t, r, p, from, p.next)
				checkRange(t, r, p, p.first, min(p.first+3, p.next))
				checkRange(t, r, p, from, from)
			}
		}
		for range 3 {
			pop(t, r, p)
		}
		for n := range 5 {
			push(t, r, p, numbered(9000+n))
			checkLines(t, r, p)
		}
		limit(t, r, p, places)
		checkLines(t, r, p)
		limit(t, r, p, 1)
		checkLines(t, r, p)
	}
}

// P8.1 to P8.3: all kinds of valid lines are kept as they are.
func TestLines(t *testing.T) {
	all := fine()
	for places := 1; places <= 3; places++ {
		r, p := made(t, len(all)-2, places)
		for _, l := range all {
			push(t, r, p, l)
		}
		checkLines(t, r, p)
		for i := range p.next - p.first {
			set(t, r, p, p.first+i, all[i])
		}
		checkLines(t, r, p)
		for range all {
			pop(t, r, p)
		}
		checkRing(t, r, p)
		for _, l := range all {
			push(t, r, p, l)
			pop(t, r, p)
			push(t, r, p, l)
			checkLines(t, r, p)
		}
	}
}

// P8.1 and P8.2: lines that are none are refused before anything else is found, and change nothing.
func TestInvalid(t *testing.T) {
	for _, l := range invalid() {
		kept := cloned(l)
		for _, state := range [][4]int{{3, 2, 0, 0}, {3, 2, 1, 0}, {3, 2, 2, 0}, {3, 2, 3, 0}, {3, 2, 8, 0}, {3, 2, 9, 1}, {0, 1, 2, 0}, {1, 1, 3, 0}, {4, 2, 6, 0}} {
			r, p := filled(t, state[0], state[1], state[2], state[3])
			if n, e := r.Push(l); n != 0 || e != api.ErrArg {
				t.Fatalf("Push(%v) = %d, %d", l, n, e)
			}
			checkLines(t, r, p)
			numbers := outside
			for n := -1; n < p.next+2; n++ {
				numbers = append(numbers, n)
			}
			for _, n := range numbers {
				if e := r.Set(n, l); e != api.ErrArg {
					t.Fatalf("Set(%d, %v) = %d", n, l, e)
				}
			}
			checkRing(t, r, p)
		}
		if !same(l, kept) {
			t.Fatalf("%v became %v", kept, l)
		}
	}
}

// P8.1 to P8.3: calls that return an error change nothing, not even what the next calls return.
func TestErrors(t *testing.T) {
	shapes(t, 8, func(r *ring.Ring, p *plain) {
		for _, l := range invalid()[:4] {
			if n, e := r.Push(l); n != 0 || e != api.ErrArg {
				t.Fatal(n, e)
			}
		}
		for _, n := range []int{-1, p.first - 1, p.next, math.MaxInt} {
			set(t, r, p, n, numbered(70))
			if l, e := r.Range(n, n-1); len(l) != 0 || e != api.ErrRange {
				t.Fatal(l, e)
			}
		}
		for _, n := range outside {
			limit(t, r, p, n)
		}
		if r.Len() == 0 {
			pop(t, r, p)
		}
		checkLines(t, r, p)
		push(t, r, p, numbered(60))
		checkLines(t, r, p)
		pop(t, r, p)
		pop(t, r, p)
		checkLines(t, r, p)
	})
}

// checkUnmade checks all methods of a nil or zero ring.
func checkUnmade(t *testing.T, r *ring.Ring) {
	t.Helper()
	numbers := append([]int{0, 1, 2}, outside...)
	for _, l := range slices.Concat(fine(), invalid()) {
		if n, e := r.Push(l); n != 0 || e != api.ErrNil {
			t.Fatalf("Push(%v) = %d, %d", l, n, e)
		}
		for _, n := range numbers {
			if e := r.Set(n, l); e != api.ErrNil {
				t.Fatalf("Set(%d, %v) = %d", n, l, e)
			}
		}
	}
	for _, n := range numbers {
		if l, e := r.Get(n); !none(l) || e != api.ErrNil {
			t.Fatalf("Get(%d) = %v, %d", n, l, e)
		}
		if e := r.Limit(n); e != api.ErrNil {
			t.Fatalf("Limit(%d) = %d", n, e)
		}
		for _, to := range numbers {
			if l, e := r.Range(n, to); len(l) != 0 || e != api.ErrNil {
				t.Fatalf("Range(%d, %d) = %v, %d", n, to, l, e)
			}
		}
	}
	if l, e := r.Pop(); !none(l) || e != api.ErrNil {
		t.Fatalf("Pop = %v, %d", l, e)
	}
	r.Clear()
	if r.First() != 0 || r.Next() != 0 || r.Len() != 0 || r.Most() != 0 || r.Pages() != 0 {
		t.Fatal(r.First(), r.Next(), r.Len(), r.Most(), r.Pages())
	}
	if c := r.Copy(); c != nil {
		t.Fatalf("Copy = %v", c)
	}
}

// P8.1 to P8.4 and P1: nil and zero rings, before and after all has been asked of them.
func TestUnmade(t *testing.T) {
	var zero ring.Ring
	for _, r := range []*ring.Ring{nil, {}, new(ring.Ring), &zero} {
		checkUnmade(t, r)
		checkUnmade(t, r)
	}
}

// P8.1 to P8.4 and P1: a ring that was made is none of those, also when it has no lines, and may have none.
func TestMade(t *testing.T) {
	for _, most := range []int{0, 1} {
		for _, pushed := range []int{0, 1} {
			r, p := filled(t, most, 1, pushed, pushed)
			if c := r.Copy(); c == nil {
				t.Fatal("Copy = nil")
			}
			clearAll(r, p)
			checkRing(t, r, p)
			limit(t, r, p, -1)
			limit(t, r, p, 0)
			pop(t, r, p)
			set(t, r, p, 2, of())
			push(t, r, p, of())
			checkRing(t, r, p)
		}
	}
}

// withSpare returns a line of cells behind which more of its memory is, and all of the memory.
func withSpare(l api.Line) (api.Line, []api.Cell) {
	memory := append(slices.Clone(l.Cells), letter, left, right, marked, void)
	return api.Line{Cells: memory[:len(l.Cells)], Soft: l.Soft}, memory
}

// P8.1 and P8.2: lines that are pushed and set stay as they were, and changing them afterwards changes no ring.
func TestArguments(t *testing.T) {
	calls := []func(r *ring.Ring, p *plain, l api.Line){
		func(r *ring.Ring, p *plain, l api.Line) { push(t, r, p, l) },
		func(r *ring.Ring, p *plain, l api.Line) { set(t, r, p, p.first, l) },
		func(r *ring.Ring, p *plain, l api.Line) { set(t, r, p, p.next-1, l) },
		func(r *ring.Ring, p *plain, l api.Line) { set(t, r, p, p.next, l) },
	}
	for _, l := range fine() {
		for i, call := range calls {
			for _, state := range [][4]int{{4, 2, 1, 0}, {4, 2, 2, 0}, {4, 2, 5, 0}, {0, 2, 1, 0}, {3, 1, 9, 1}} {
				r, p := filled(t, state[0], state[1], state[2], state[3])
				given, memory := withSpare(l)
				kept := slices.Clone(memory)
				call(r, p, given)
				c := r.Copy()
				// Whatever is done with the ring leaves the argument as it was.
				c.Set(c.First(), numbered(9))
				c.Set(c.Next()-1, numbered(9))
				c.Pop()
				c.Push(numbered(8))
				c.Limit(1)
				c.Clear()
				if !slices.Equal(memory, kept) || !same(given, l) {
					t.Fatalf("call %d: %v became %v", i, kept, memory)
				}
				spoil(given)
				checkLines(t, r, p)
			}
		}
	}
}

// P8.1 and P8.2: the same line may be pushed and set again and again; no two lines of a ring are in the same memory.
func TestSameLine(t *testing.T) {
	r, p := made(t, 5, 2)
	l := of(letter, letter)
	for i := range 5 {
		l.Cells[0].Rune = rune('a' + i)
		push(t, r, p, l)
	}
	checkLines(t, r, p)
	for i := range 5 {
		l.Cells[1].Rune = rune('p' + i)
		set(t, r, p, i, l)
	}
	checkLines(t, r, p)
	for i := range 4 {
		got, e := r.Get(i)
		if e != api.OK {
			t.Fatal(e)
		}
		set(t, r, p, i+1, got)
		spoil(got)
	}
	checkLines(t, r, p)
	got, e := r.Pop()
	p.pop()
	if e != api.OK {
		t.Fatal(e)
	}
	push(t, r, p, got)
	push(t, r, p, got)
	set(t, r, p, 2, got)
	spoil(got)
	checkLines(t, r, p)
}

// P8.1, P8.2 and P8.4: changing what Get, Range and Pop return changes neither the ring, nor its copies, nor other results.
func TestResults(t *testing.T) {
	for _, l := range fine() {
		r, p := filled(t, 6, 2, 7, 1)
		push(t, r, p, l)
		push(t, r, p, l)
		c, q := r.Copy(), p.copied()
		want := p.lines()
		for i := range want {
			first, _ := r.Get(p.first + i)
			second, _ := r.Get(p.first + i)
			spoil(first)
			if !same(second, want[i]) {
				t.Fatalf("Get(%d) = %v, not %v", p.first+i, second, want[i])
			}
		}
		checkLines(t, r, p)
		checkLines(t, c, q)
		all, e := r.Range(p.first, p.next)
		again, f := r.Range(p.first, p.next)
		if e != api.OK || f != api.OK {
			t.Fatal(e, f)
		}
		for i := range all {
			spoil(all[i])
			for n := i + 1; n < len(all); n++ {
				if !same(all[n], want[n]) {
					t.Fatalf("Range: %d changes with %d", n, i)
				}
			}
		}
		all = all[:cap(all)]
		for i := range all {
			all[i] = of(void)
		}
		if !slices.EqualFunc(again, want, same) {
			t.Fatalf("Range = %v, not %v", again, want)
		}
		checkLines(t, r, p)
		checkLines(t, c, q)
		popped, e := r.Pop()
		p.pop()
		if !same(popped, l) || e != api.OK {
			t.Fatalf("Pop = %v, %d", popped, e)
		}
		spoil(popped)
		push(t, r, p, l)
		checkLines(t, r, p)
		checkLines(t, c, q)
		if popped, e = c.Pop(); !same(popped, l) || e != api.OK {
			t.Fatalf("Pop = %v, %d", popped, e)
		}
		spoil(popped)
		checkLines(t, r, p)
	}
}

// P8.1 and P8.2: what a ring returned stays as it was, whatever is done with the ring.
func TestResultsStay(t *testing.T) {
	r, p := filled(t, 5, 2, 8, 0) // 3 to 7
	want := p.lines()
	got, e := r.Get(7)
	all, f := r.Range(3, 8)
	popped, g := r.Pop()
	if e != api.OK || f != api.OK || g != api.OK {
		t.Fatal(e, f, g)
	}
	p.pop()
	for n := range 3 {
		push(t, r, p, numbered(70+n))
	}
	for n := p.first; n < p.next; n++ {
		set(t, r, p, n, numbered(80+n))
	}
	limit(t, r, p, 2)
	pop(t, r, p)
	clearAll(r, p)
	push(t, r, p, numbered(90))
	checkRing(t, r, p)
	if !same(got, want[4]) || !same(popped, want[4]) || !slices.EqualFunc(all, want, same) {
		t.Fatal(got, popped, all)
	}
}

// randomStep does one thing with a ring from a random source; what is returned and given is spoiled.
func randomStep(t *testing.T, random *rand.Rand, r *ring.Ring, p *plain, n int) {
	t.Helper()
	near := p.first + random.Intn(p.next-p.first+3) - 1
	l := numbered(n)
	switch random.Intn(40) {
	default:
		push(t, r, p, l)
	case 0, 1, 2, 3, 4, 5, 6, 7:
		set(t, r, p, near, l)
	case 8, 9, 10, 11, 12, 13:
		pop(t, r, p)
	case 14, 15:
		if from := max(0, near); from <= p.next {
			checkRange(t, r, p, from, from+random.Intn(p.next-from+1))
		}
	case 16:
		limit(t, r, p, max(0, p.most+random.Intn(7)-3))
	case 17:
		if all, e := r.Range(p.first, p.next); e == api.OK {
			for _, x := range all {
				spoil(x)
			}
		}
	case 18:
		if k, e := r.Push(of(left)); k != 0 || e != api.ErrArg {
			t.Fatal(k, e)
		}
	case 19:
		if random.Intn(10) == 0 {
			clearAll(r, p)
		}
	}
	spoil(l)
}

// P8.1 to P8.5: long scripts on rings of many limits and pages, which go on now and then as copies.
func TestRandom(t *testing.T) {
	for seed, size := range [][2]int{{0, 1}, {1, 1}, {1, 5}, {2, 3}, {3, 2}, {7, 1}, {10, 3}, {30, 7}, {64, 16}, {100, 9}, {200, 64}, {300, 1024}, {500, 333}} {
		t.Run(fmt.Sprint(size), func(t *testing.T) {
			random := rand.New(rand.NewSource(int64(seed)))
			for range 5 {
				r, p := made(t, size[0], size[1])
				for n := range 6*size[0] + 500 {
					randomStep(t, random, r, p, n)
					checkCounts(t, r, p)
					if n%50 == 0 {
						checkLines(t, r, p)
						c := r.Copy()
						randomStep(t, random, c, p.copied(), n)
						checkLines(t, r, p)
					}
					if n%70 == 0 {
						r = r.Copy()
					}
				}
				checkLines(t, r, p)
			}
		})
	}
}
