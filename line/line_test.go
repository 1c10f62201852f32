package line_test

import (
	"math"
	"math/rand"
	"slices"
	"testing"

	"scrollback/api"
	"scrollback/cell"
	"scrollback/line"
)

// Pens, and what is none.
var (
	bold    = api.Pen{Flags: api.FlagBold}
	inverse = api.Pen{Flags: api.FlagInverse}
	colored = api.Pen{Fore: api.Color{Kind: api.ColorIndex, Index: 7}, Back: api.Color{Kind: api.ColorTrue, G: 255}, Flags: 255}
	noPen   = api.Pen{Fore: api.Color{R: 1}}
)

// Cells of each kind, and what is none.
var (
	letter = api.Cell{Rune: 'a', Width: 1}
	marked = api.Cell{Rune: 'e', Marks: [3]rune{0x301}, Width: 1, Pen: bold}
	empty  = api.Cell{Width: 1}
	void   = api.Cell{Width: 1, Pen: inverse}
	left   = api.Cell{Rune: 0x4e00, Width: 2}
	right  = api.Cell{}
	thick  = api.Cell{Rune: 0x1f600, Marks: [3]rune{0xfe0f}, Width: 2, Pen: colored}
	half   = api.Cell{Pen: colored}
	torn   = api.Cell{Width: 1, Pen: colored} // what half of a thick one becomes

	valid   = []api.Cell{letter, marked, empty, void, left, right, thick, half}
	invalid = []api.Cell{
		{Rune: 'x', Marks: [3]rune{0, 0x302}, Pen: colored}, {Width: 2, Pen: bold}, {Rune: 0x4e00, Width: 3}, {Rune: 'a', Width: -1},
		{Rune: -1, Width: 1}, {Width: 1, Pen: noPen}, {Width: 1, Marks: [3]rune{0x301}}, {Width: 1<<32 + 1}, {Rune: 0x4e00, Width: 2, Pen: noPen},
	}
)

// Numbers that are neither columns of a line nor how many it has: just outside, far outside, and such as they become by cutting.
var outside = []int{
	-1, -2, -1000, -1001, 1001, 1002, 2000, 1 << 20, 1<<32 - 1, 1 << 32, 1<<32 + 1, 1<<32 + 1000, -1 << 32, 1 - 1<<32,
	math.MinInt, math.MinInt + 1, math.MinInt + 1000, math.MaxInt, math.MaxInt - 1, math.MaxInt - 1000,
}

// isRow, usedOf, part and textOf are the document's definitions; part is that of a row.
func isRow(l []api.Cell) bool {
	for i, c := range l {
		if !cell.Valid(c) {
			return false
		}
		if c.Width == 2 && (i == len(l)-1 || l[i+1].Width != 0 || l[i+1].Pen != c.Pen) {
			return false
		}
		if c.Width == 0 && (i == 0 || l[i-1].Width != 2) {
			return false
		}
	}
	return true
}

func usedOf(l []api.Cell) int {
	n := 0
	for i, c := range l {
		if c != empty {
			n = i + 1
		}
	}
	return n
}

// part returns the cells of a row from a column up to another one; halves at both ends have lost the other one.
func part(l []api.Cell, from, to int) []api.Cell {
	l = slices.Clone(l[from:to])
	if n := len(l); n > 0 && l[n-1].Width == 2 {
		l[n-1] = api.Cell{Width: 1, Pen: l[n-1].Pen}
	}
	if len(l) > 0 && l[0].Width == 0 {
		l[0] = api.Cell{Width: 1, Pen: l[0].Pen}
	}
	return l
}

func textOf(l []api.Cell) string {
	s := ""
	for _, c := range l[:usedOf(l)] {
		s += cell.Text(c)
	}
	return s
}

// fitOf and putOf return what Fit and Put return of valid lines and of what is allowed.
func fitOf(l api.Line, columns int) api.Line {
	if columns < len(l.Cells) {
		return api.Line{Cells: part(l.Cells, 0, columns), Soft: l.Soft}
	}
	return api.Line{Cells: slices.Concat(l.Cells, slices.Repeat([]api.Cell{empty}, columns-len(l.Cells))), Soft: l.Soft}
}

func putOf(l api.Line, at int, cells []api.Cell) api.Line {
	before, behind := part(l.Cells, 0, at), part(l.Cells, at+len(cells), len(l.Cells))
	return api.Line{Cells: slices.Concat(before, cells, behind), Soft: l.Soft}
}

// of and softOf return lines of cells.
func of(l ...api.Cell) api.Line {
	return api.Line{Cells: l}
}

func softOf(l ...api.Cell) api.Line {
	return api.Line{Cells: l, Soft: true}
}

// same reports whether two lines are equal.
func same(a, b api.Line) bool {
	return a.Soft == b.Soft && slices.Equal(a.Cells, b.Cells)
}

// none reports whether a line and an error are those of a call that has failed so.
func none(l api.Line, e, errno api.Errno) bool {
	return len(l.Cells) == 0 && !l.Soft && e == errno
}

// repeated returns so many times the same cells, one behind the other.
func repeated(n int, l ...api.Cell) []api.Cell {
	return slices.Repeat(l, n)
}

// lists returns all lists of at most so many cells, each one of some.
func lists(length int, some []api.Cell) [][]api.Cell {
	all := [][]api.Cell{nil}
	for from, n := 0, 0; n < length; n++ {
		to := len(all)
		for _, l := range all[from:to] {
			for _, c := range some {
				all = append(all, append(slices.Clone(l), c))
			}
		}
		from = to
	}
	return all
}

// rows returns all lists of some valid cells that are rows.
func rows(length int, some []api.Cell) [][]api.Cell {
	return slices.DeleteFunc(lists(length, some), func(l []api.Cell) bool { return !isRow(l) })
}

// rowOf returns a row of some columns from a random source.
func rowOf(random *rand.Rand, columns int) []api.Cell {
	var l []api.Cell
	for len(l) < columns {
		switch n := random.Intn(8); {
		case n < 2 && len(l)+2 <= columns:
			l = append(l, left, right)
		case n == 2 && len(l)+2 <= columns:
			l = append(l, thick, half)
		default:
			l = append(l, valid[n%4])
		}
	}
	return l
}

// checkAny checks what takes any line: Valid, Used, Text, Copy, and Equal with itself; and Of and Trim of it.
func checkAny(t *testing.T, l api.Line) {
	t.Helper()
	kept := api.Line{Cells: slices.Clone(l.Cells), Soft: l.Soft}
	isLine := len(l.Cells) <= 1000 && isRow(l.Cells)
	if line.Valid(l) != isLine {
		t.Fatalf("Valid(%v) = %t", l, !isLine)
	}
	used := usedOf(l.Cells)
	if n := line.Used(l); n != used {
		t.Fatalf("Used(%v) = %d, not %d", l, n, used)
	}
	if s, want := line.Text(l), textOf(l.Cells); s != want {
		t.Fatalf("Text(%v) = %q, not %q", l, s, want)
	}
	c := line.Copy(l)
	if !same(c, l) || !line.Equal(c, l) || !line.Equal(l, l) {
		t.Fatalf("Copy(%v) = %v", l, c)
	}
	made, e := line.Of(l.Cells, l.Soft)
	trimmed, f := line.Trim(l)
	if isLine {
		if !same(made, l) || e != api.OK {
			t.Fatalf("Of(%v) = %v, %d", l, made, e)
		}
		if want := (api.Line{Cells: l.Cells[:used], Soft: l.Soft}); !same(trimmed, want) || f != api.OK {
			t.Fatalf("Trim(%v) = %v, %d, not %v", l, trimmed, f, want)
		}
	} else {
		if !none(made, e, api.ErrArg) {
			t.Fatalf("Of(%v) = %v, %d", l, made, e)
		}
		if !none(trimmed, f, api.ErrArg) {
			t.Fatalf("Trim(%v) = %v, %d", l, trimmed, f)
		}
	}
	if !same(l, kept) {
		t.Fatalf("%v became %v", kept, l)
	}
}

// checkFit checks Fit of a line, which need not be valid, to a number of columns, which need not be allowed.
func checkFit(t *testing.T, l api.Line, columns int) {
	t.Helper()
	kept := api.Line{Cells: slices.Clone(l.Cells), Soft: l.Soft}
	x, e := line.Fit(l, columns)
	if len(l.Cells) > 1000 || !isRow(l.Cells) || columns < 0 || columns > 1000 {
		if !none(x, e, api.ErrArg) {
			t.Fatalf("Fit(%v, %d) = %v, %d", l, columns, x, e)
		}
	} else if want := fitOf(l, columns); !same(x, want) || e != api.OK {
		t.Fatalf("Fit(%v, %d) = %v, %d, not %v", l, columns, x, e, want)
	}
	if !same(l, kept) {
		t.Fatalf("%v became %v", kept, l)
	}
}

// checkPut checks Put into a line, of cells that need not be a row, at a column at which there need not be room.
func checkPut(t *testing.T, l api.Line, at int, cells []api.Cell) {
	t.Helper()
	kept, keptCells := api.Line{Cells: slices.Clone(l.Cells), Soft: l.Soft}, slices.Clone(cells)
	x, e := line.Put(l, at, cells)
	switch {
	case len(l.Cells) > 1000 || !isRow(l.Cells) || !isRow(cells):
		if !none(x, e, api.ErrArg) {
			t.Fatalf("Put(%v, %d, %v) = %v, %d", l, at, cells, x, e)
		}
	case at < 0 || at > len(l.Cells) || len(cells) > len(l.Cells) || at+len(cells) > len(l.Cells):
		if !none(x, e, api.ErrRange) {
			t.Fatalf("Put(%v, %d, %v) = %v, %d", l, at, cells, x, e)
		}
	default:
		if want := putOf(l, at, cells); !same(x, want) || e != api.OK {
			t.Fatalf("Put(%v, %d, %v) = %v, %d, not %v", l, at, cells, x, e, want)
		}
	}
	if !same(l, kept) || !slices.Equal(cells, keptCells) {
		t.Fatalf("%v and %v became %v and %v", kept, keptCells, l, cells)
	}
}

// checkBoth checks a list of cells as a line that is soft, and as one that is not, also fitted to all numbers around its own.
func checkBoth(t *testing.T, l []api.Cell) {
	t.Helper()
	for _, x := range []api.Line{of(l...), softOf(l...)} {
		checkAny(t, x)
		for n := -1; n <= len(l)+2; n++ {
			checkFit(t, x, n)
		}
	}
}

// P6.1: all numbers that are allowed, and many that are not.
func TestNew(t *testing.T) {
	for n := 0; n <= 1000; n++ {
		l, e := line.New(n)
		if len(l.Cells) != n || l.Soft || e != api.OK || !line.Valid(l) {
			t.Fatalf("New(%d) = %v, %d", n, l, e)
		}
		for _, c := range l.Cells {
			if c != empty {
				t.Fatalf("New(%d) has %v", n, c)
			}
		}
	}
	for _, n := range outside {
		if l, e := line.New(n); !none(l, e, api.ErrArg) {
			t.Errorf("New(%d) = %v, %d", n, l, e)
		}
	}
}

// P6.1 to P6.4: the document's examples.
func TestExamples(t *testing.T) {
	check := func(name string, l api.Line, e api.Errno, want api.Line, errno api.Errno) {
		t.Helper()
		if !same(l, want) || e != errno {
			t.Errorf("%s = %v, %d, not %v, %d", name, l, e, want, errno)
		}
	}
	a, w, s, e, r := letter, left, right, empty, void
	l, f := line.New(2)
	check("New(2)", l, f, of(e, e), api.OK)
	l, f = line.New(1001)
	check("New(1001)", l, f, of(), api.ErrArg)
	l, f = line.Of([]api.Cell{a, w, s}, true)
	check("Of(a w s, true)", l, f, softOf(a, w, s), api.OK)
	l, f = line.Of([]api.Cell{a, w}, false)
	check("Of(a w, false)", l, f, of(), api.ErrArg)
	l, f = line.Trim(of(a, e, e))
	check("Trim(a e e)", l, f, of(a), api.OK)
	l, f = line.Trim(of(e, e))
	check("Trim(e e)", l, f, of(), api.OK)
	l, f = line.Fit(of(a, w, s), 2)
	check("Fit(a w s, 2)", l, f, of(a, e), api.OK)
	l, f = line.Fit(of(a, w, s), 5)
	check("Fit(a w s, 5)", l, f, of(a, w, s, e, e), api.OK)
	l, f = line.Fit(of(a, w, s), -1)
	check("Fit(a w s, -1)", l, f, of(), api.ErrArg)
	l, f = line.Put(of(a, w, s, e), 2, []api.Cell{a})
	check("Put(a w s e, 2, a)", l, f, of(a, e, a, e), api.OK)
	l, f = line.Put(of(w, s, w, s), 1, []api.Cell{a, a})
	check("Put(w s w s, 1, a a)", l, f, of(e, a, a, e), api.OK)
	l, f = line.Put(of(a, e), 1, []api.Cell{w, s})
	check("Put(a e, 1, w s)", l, f, of(), api.ErrRange)
	l, f = line.Put(of(a, e), 2, nil)
	check("Put(a e, 2, none)", l, f, of(a, e), api.OK)
	l, f = line.Put(of(a, e), 0, []api.Cell{s})
	check("Put(a e, 0, s)", l, f, of(), api.ErrArg)
	check("Copy(a w s)", line.Copy(of(a, w, s)), api.OK, of(a, w, s), api.OK)
	if n, s := line.Used(of(a, e, r, e)), line.Text(of(e, a, e, e)); n != 3 || s != " a" {
		t.Errorf("Used = %d, Text = %q", n, s)
	}
	if !line.Valid(of(w, s, e)) || line.Equal(of(a), softOf(a)) || line.Equal(of(a), of(a, e)) {
		t.Error("Valid or Equal")
	}
}

// P6.1, P6.2 and P6.4: all lists of a few cells, some of which are none, soft and not.
func TestLists(t *testing.T) {
	for _, l := range lists(3, slices.Concat(valid, invalid)) {
		checkBoth(t, l)
	}
	for _, l := range lists(5, valid) {
		checkBoth(t, l)
	}
}

// P6.1 and P6.2: what is no valid line, for one reason alone, at each place of a row.
func TestInvalid(t *testing.T) {
	row := []api.Cell{letter, left, right, marked, thick, half, empty}
	for at := range row {
		l := slices.Delete(slices.Clone(row), at, at+1)
		if line.Valid(of(l...)) != isRow(l) || isRow(l) != (row[at].Width == 1) {
			t.Fatalf("Valid(%v) = %t", l, line.Valid(of(l...)))
		}
		checkBoth(t, l)
		for _, c := range slices.Concat(invalid, []api.Cell{left, right, half}) {
			l := slices.Clone(row)
			l[at] = c
			checkBoth(t, l)
			checkBoth(t, slices.Insert(slices.Clone(row), at, c))
			if slices.Contains(invalid, c) && line.Valid(of(l...)) {
				t.Fatalf("Valid(%v) = true", l)
			}
		}
	}
	// A spacer whose pen is not that of the wide cell before it.
	checkBoth(t, []api.Cell{left, half})
	checkBoth(t, []api.Cell{letter, thick, right})
}

// longs returns rows of just so many cells, narrow and wide ones, written and empty; columns are at least 3.
func longs(columns int) [][]api.Cell {
	odd := columns % 2
	return [][]api.Cell{
		repeated(columns, empty), repeated(columns, letter), repeated(columns, void),
		append(repeated(columns-1, empty), marked), append(repeated(columns-2, empty), thick, half),
		slices.Concat(repeated(odd, letter), repeated(columns/2, thick, half)),
		slices.Concat(repeated(columns/2, left, right), repeated(odd, empty)),
		slices.Concat([]api.Cell{thick, half}, repeated(columns-2, empty)),
	}
}

// P6.1 to P6.4: just as many cells as may be, and more; with 1001 cells nothing is a valid line, also if it would be one when it was trimmed or fitted.
func TestLong(t *testing.T) {
	for _, columns := range []int{998, 999, 1000, 1001, 1002, 2000} {
		for _, l := range longs(columns) {
			if !isRow(l) || len(l) != columns || line.Valid(of(l...)) != (columns <= 1000) {
				t.Fatalf("Valid of %d cells = %t", columns, line.Valid(of(l...)))
			}
			for _, x := range []api.Line{of(l...), softOf(l...)} {
				checkAny(t, x)
				for _, n := range []int{0, 1, 2, 3, 500, 501, 997, 998, 999, 1000, 1001} {
					checkFit(t, x, n)
				}
				for _, at := range []int{0, 1, 2, 499, 500, columns - 2, columns - 1, columns} {
					checkPut(t, x, at, nil)
					checkPut(t, x, at, []api.Cell{letter})
					checkPut(t, x, at, []api.Cell{thick, half})
				}
			}
		}
	}
}

// P6.2: numbers of columns that are not allowed, for lines that are valid and for such as are not.
func TestFitOutside(t *testing.T) {
	for _, l := range [][]api.Cell{nil, {letter}, {left, right}, {left}, {right}, {invalid[0]}, repeated(1000, empty), repeated(1001, empty)} {
		for _, n := range outside {
			checkFit(t, of(l...), n)
			checkFit(t, softOf(l...), n)
		}
	}
}

// P6.2: one cell, with all that makes it other than the empty one, alone and before empty cells.
func TestUsed(t *testing.T) {
	others := slices.Concat(valid, invalid, []api.Cell{{Rune: ' ', Width: 1}, {Rune: 0xa0, Width: 1}, {Rune: 1, Width: 1}})
	for _, w := range []int{0, 2, 3, -1, 257, 1<<32 + 1, math.MinInt + 1, math.MaxInt} {
		others = append(others, api.Cell{Width: w})
	}
	for i := range 3 {
		c := empty
		c.Marks[i] = 0x301
		others = append(others, c)
	}
	for i := range 8 {
		others = append(others, api.Cell{Width: 1, Pen: api.Pen{Flags: 1 << i}})
	}
	for _, c := range []api.Color{{Kind: 1}, {Kind: 2}, {Kind: -1}, {Index: 1}, {R: 1}, {G: 1}, {B: 1}, {Kind: 2, B: 255}} {
		others = append(others, api.Cell{Width: 1, Pen: api.Pen{Fore: c}}, api.Cell{Width: 1, Pen: api.Pen{Back: c}})
	}
	for _, c := range others {
		for n := range 5 {
			want := 0
			if c != empty {
				want = 1
			}
			l := append([]api.Cell{c}, repeated(n, empty)...)
			if got := line.Used(of(l...)); got != want {
				t.Errorf("Used(%v and %d empty ones) = %d", c, n, got)
			}
			if got := line.Used(of(slices.Concat(repeated(n, empty), l)...)); got != want*(n+1) {
				t.Errorf("Used(%v between %d empty ones) = %d", c, n, got)
			}
			checkBoth(t, l)
		}
	}
}

// P6.3: all rows of a few cells into all others, at all columns, also where there is no room.
func TestPut(t *testing.T) {
	some := []api.Cell{letter, empty, void, left, right, thick, half}
	for _, l := range rows(5, some) {
		for _, cells := range rows(2, some) {
			for at := -1; at <= len(l)+1; at++ {
				checkPut(t, of(l...), at, cells)
				checkPut(t, softOf(l...), at, cells)
			}
		}
	}
	for _, l := range rows(4, []api.Cell{letter, left, right, thick, half}) {
		for _, cells := range rows(5, []api.Cell{empty, left, right}) {
			for at := range 5 {
				checkPut(t, softOf(l...), at, cells)
			}
		}
	}
}

// P6.3: over one half or both of a wide cell, from either side, and over the halves of two.
func TestPutHalves(t *testing.T) {
	l := softOf(letter, thick, half, left, right, marked)
	for _, c := range []struct {
		at    int
		cells []api.Cell
		want  []api.Cell
	}{
		{0, []api.Cell{void}, []api.Cell{void, thick, half, left, right, marked}},
		{1, []api.Cell{letter}, []api.Cell{letter, letter, torn, left, right, marked}},
		{2, []api.Cell{letter}, []api.Cell{letter, torn, letter, left, right, marked}},
		{1, []api.Cell{letter, void}, []api.Cell{letter, letter, void, left, right, marked}},
		{0, []api.Cell{left, right}, []api.Cell{left, right, torn, left, right, marked}},
		{1, []api.Cell{left, right}, []api.Cell{letter, left, right, left, right, marked}},
		{2, []api.Cell{left, right}, []api.Cell{letter, torn, left, right, empty, marked}},
		{2, []api.Cell{thick, half}, []api.Cell{letter, torn, thick, half, empty, marked}},
		{4, []api.Cell{thick, half}, []api.Cell{letter, thick, half, empty, thick, half}},
		{5, []api.Cell{void}, []api.Cell{letter, thick, half, left, right, void}},
		{2, nil, []api.Cell{letter, torn, torn, left, right, marked}},
		{4, nil, []api.Cell{letter, thick, half, empty, empty, marked}},
		{3, nil, []api.Cell{letter, thick, half, left, right, marked}},
		{0, nil, l.Cells},
		{6, nil, l.Cells},
		{0, []api.Cell{left, right, left, right, left, right}, []api.Cell{left, right, left, right, left, right}},
	} {
		if x, e := line.Put(l, c.at, c.cells); !same(x, softOf(c.want...)) || e != api.OK {
			t.Errorf("Put(%v, %d, %v) = %v, %d, not %v", l, c.at, c.cells, x, e, c.want)
		}
		checkPut(t, l, c.at, c.cells)
		checkPut(t, of(l.Cells...), c.at, c.cells)
	}
}

// P6.3: which of several errors is returned, for columns that are in the line and for such as are not.
func TestPutErrors(t *testing.T) {
	lines := [][]api.Cell{nil, {letter}, {left, right}, repeated(1000, empty), {left}, {right}, {invalid[0]}, {left, half}, repeated(1001, empty)}
	puts := [][]api.Cell{
		nil, {letter}, {left, right}, repeated(999, letter), repeated(1000, letter), repeated(1001, letter), repeated(600, left, right),
		{left}, {right}, {left, half}, append(repeated(1000, letter), left), {invalid[1]}, append(repeated(1000, letter), invalid[5]),
	}
	for _, l := range lines {
		for _, cells := range puts {
			for _, at := range append([]int{0, 1, 2, 998, 999, 1000}, outside...) {
				checkPut(t, of(l...), at, cells)
				checkPut(t, softOf(l...), at, cells)
			}
			// A sum with the number of cells that is in the range of the line again, or just out of that of ints.
			for _, n := range []int{math.MinInt, math.MaxInt} {
				for i := -3; i <= 3; i++ {
					checkPut(t, of(l...), n-len(cells)+i, cells)
					checkPut(t, of(l...), n+len(l)-len(cells)+i, cells)
				}
			}
		}
		for _, c := range invalid {
			checkPut(t, of(l...), 0, []api.Cell{c})
			checkPut(t, of(l...), 5000, []api.Cell{letter, c})
			checkPut(t, of(append(slices.Clone(l), c)...), 0, []api.Cell{letter})
		}
	}
}

// P6.4: texts with marks, spacers and spaces, also of what is no valid line; and what no rune becomes.
func TestText(t *testing.T) {
	for _, c := range []struct {
		l    []api.Cell
		text string
	}{
		{nil, ""}, {[]api.Cell{empty, empty}, ""}, {[]api.Cell{void, empty}, " "}, {[]api.Cell{empty, void}, "  "},
		{[]api.Cell{letter, empty, marked, empty}, "a e\u0301"}, {[]api.Cell{left, right, empty, letter}, "\u4e00 a"},
		{[]api.Cell{thick, half, empty}, "\U0001f600\ufe0f"}, {[]api.Cell{{Rune: ' ', Width: 1}, empty}, " "},
		{[]api.Cell{right, half}, ""}, {[]api.Cell{empty, right}, " "}, {[]api.Cell{left}, "\u4e00"},
		{[]api.Cell{{Rune: -1, Width: 5}, {Rune: 0xd800, Marks: [3]rune{0, 'b'}, Width: 1}}, "\ufffd\ufffdb"},
		{[]api.Cell{{Rune: 0x110000, Width: 1, Pen: noPen}, {Rune: 'x'}, {Width: -1}}, "\ufffd "},
		{append(repeated(1500, letter), empty), string(slices.Repeat([]rune{'a'}, 1500))},
	} {
		for _, soft := range []bool{false, true} {
			if s := line.Text(api.Line{Cells: c.l, Soft: soft}); s != c.text {
				t.Errorf("Text(%v) = %q, not %q", c.l, s, c.text)
			}
		}
	}
}

// P6.4: all pairs of short lines, some of which are not valid.
func TestEqual(t *testing.T) {
	var all []api.Line
	for _, l := range lists(2, slices.Concat(valid, invalid)) {
		all = append(all, of(l...), softOf(l...))
	}
	for i, a := range all {
		for j, b := range all {
			if line.Equal(a, b) != (i == j) || line.Equal(a, line.Copy(b)) != (i == j) {
				t.Fatalf("Equal(%v, %v) = %t", a, b, i != j)
			}
		}
	}
	if !line.Equal(api.Line{}, of([]api.Cell{}...)) || !line.Equal(softOf([]api.Cell{}...), softOf()) || line.Equal(api.Line{}, softOf()) {
		t.Error("lines without cells")
	}
}

// P6.4: lines of which one cell differs in one part, at each place, also of long ones.
func TestEqualParts(t *testing.T) {
	changes := []func(c *api.Cell){
		func(c *api.Cell) { c.Rune++ }, func(c *api.Cell) { c.Width++ }, func(c *api.Cell) { c.Width += 1 << 32 },
		func(c *api.Cell) { c.Marks[0]++ }, func(c *api.Cell) { c.Marks[1]++ }, func(c *api.Cell) { c.Marks[2]++ },
		func(c *api.Cell) { c.Pen.Flags ^= api.FlagStruck }, func(c *api.Cell) { c.Pen.Flags ^= api.FlagBold },
		func(c *api.Cell) { c.Pen.Fore.Kind++ }, func(c *api.Cell) { c.Pen.Fore.Index++ }, func(c *api.Cell) { c.Pen.Fore.B++ },
		func(c *api.Cell) { c.Pen.Back.Kind++ }, func(c *api.Cell) { c.Pen.Back.R++ }, func(c *api.Cell) { c.Pen.Back.G++ },
	}
	for _, l := range [][]api.Cell{slices.Concat(valid, invalid), repeated(1000, empty), repeated(1200, left, right)} {
		for _, at := range []int{0, 1, len(l) / 2, len(l) - 2, len(l) - 1} {
			for i, change := range changes {
				other := slices.Clone(l)
				change(&other[at])
				if line.Equal(of(l...), of(other...)) || line.Equal(of(other...), of(l...)) {
					t.Fatalf("Equal with the change %d at %d of %d cells", i, at, len(l))
				}
			}
		}
		if !line.Equal(of(l...), of(slices.Clone(l)...)) || line.Equal(of(l...), of(l[:len(l)-1]...)) || line.Equal(of(l[:len(l)-1]...), of(l...)) {
			t.Fatalf("Equal of %d cells", len(l))
		}
	}
}

// checkConsequences checks what follows from the other promises, of a valid line.
func checkConsequences(t *testing.T, l api.Line) {
	t.Helper()
	n := len(l.Cells)
	trimmed, e := line.Trim(l)
	again, f := line.Trim(trimmed)
	if e != api.OK || f != api.OK || !line.Valid(trimmed) || !line.Equal(again, trimmed) || line.Used(l) != len(trimmed.Cells) {
		t.Fatalf("Trim(%v) = %v, trimmed again %v", l, trimmed, again)
	}
	if fitted, e := line.Fit(l, n); e != api.OK || !line.Equal(fitted, l) {
		t.Fatalf("Fit(%v, %d) = %v, %d", l, n, fitted, e)
	}
	for columns := max(0, n-3); columns <= min(n+3, 1000); columns++ {
		fitted, e := line.Fit(l, columns)
		if e != api.OK || !line.Valid(fitted) || len(fitted.Cells) != columns {
			t.Fatalf("Fit(%v, %d) = %v, %d", l, columns, fitted, e)
		}
		if columns > n && (line.Text(fitted) != line.Text(l) || line.Used(fitted) != line.Used(l)) {
			t.Fatalf("Fit(%v, %d) has the text %q", l, columns, line.Text(fitted))
		}
	}
	if line.Text(trimmed) != line.Text(l) {
		t.Fatalf("Trim(%v) has the text %q", l, line.Text(trimmed))
	}
}

// P6.5: all short rows, soft and not; what is put is there, and nothing is longer or shorter.
func TestConsequences(t *testing.T) {
	puts := rows(3, []api.Cell{marked, left, right, empty})
	for _, l := range rows(5, []api.Cell{letter, empty, void, left, right, thick, half}) {
		checkConsequences(t, of(l...))
		checkConsequences(t, softOf(l...))
		for _, cells := range puts {
			for at := range len(l) - len(cells) + 1 {
				x, e := line.Put(softOf(l...), at, cells)
				if e != api.OK || !line.Valid(x) || len(x.Cells) != len(l) || !slices.Equal(x.Cells[at:at+len(cells)], cells) {
					t.Fatalf("Put(%v, %d, %v) = %v, %d", l, at, cells, x, e)
				}
			}
		}
	}
}

// P6.1 to P6.5: rows of all lengths, with what is put into them anywhere.
func TestRandom(t *testing.T) {
	random := rand.New(rand.NewSource(6))
	for range 2000 {
		columns := random.Intn(1001)
		if random.Intn(2) == 0 {
			columns = random.Intn(12)
		}
		l := api.Line{Cells: rowOf(random, columns), Soft: random.Intn(2) == 0}
		checkAny(t, l)
		checkConsequences(t, l)
		checkFit(t, l, random.Intn(1001))
		checkFit(t, l, columns/2)
		cells := rowOf(random, random.Intn(columns+1))
		checkPut(t, l, random.Intn(columns-len(cells)+1), cells)
		checkPut(t, l, columns-len(cells)+1, cells)
	}
}

// spoil changes cells, and what is behind them in the same memory.
func spoil(l []api.Cell) {
	x := api.Cell{Rune: 0x2620, Width: 7}
	for i := range l {
		l[i] = x
	}
	_ = append(l, x)
	_ = append(l[:0], repeated(cap(l), x)...)
}

// checkShared checks that what a function returned of some cells shares no memory with them, nor with what it returns next.
func checkShared(t *testing.T, name string, l []api.Cell, f func(l []api.Cell) api.Line) {
	t.Helper()
	want := line.Copy(f(slices.Clone(l)))
	// There is more memory behind the cells, which is not to be written to, either.
	whole := slices.Concat(l, repeated(6, marked))
	kept := slices.Clone(whole)
	first, second := f(whole[:len(l)]), f(whole[:len(l)])
	spoil(first.Cells)
	if !slices.Equal(whole, kept) {
		t.Fatalf("%s: %v became %v", name, kept, whole)
	}
	spoil(whole)
	if !same(second, want) {
		t.Fatalf("%s of %v = %v after a change, not %v", name, l, second, want)
	}
}

// The document's rules: arguments stay as they were, and results share no memory with them, nor with other results.
func TestShared(t *testing.T) {
	for _, l := range rows(4, []api.Cell{letter, empty, left, right, thick, half}) {
		checkShared(t, "Of", l, func(l []api.Cell) api.Line { x, _ := line.Of(l, true); return x })
		checkShared(t, "Trim", l, func(l []api.Cell) api.Line { x, _ := line.Trim(softOf(l...)); return x })
		checkShared(t, "Copy", l, func(l []api.Cell) api.Line { return line.Copy(softOf(l...)) })
		for n := range 7 {
			checkShared(t, "Fit", l, func(l []api.Cell) api.Line { x, _ := line.Fit(softOf(l...), n); return x })
		}
		for at := range len(l) + 1 {
			checkShared(t, "Put", l, func(l []api.Cell) api.Line { x, _ := line.Put(softOf(l...), at, nil); return x })
			for n := range len(l) - at + 1 {
				// What is put comes from the line itself, or is all that is there.
				checkShared(t, "Put", l, func(l []api.Cell) api.Line { x, _ := line.Put(softOf(l...), at, l[:n]); return x })
			}
		}
		others := rowOf(rand.New(rand.NewSource(7)), 6)
		for at := range 7 - len(l) {
			checkShared(t, "Put", l, func(l []api.Cell) api.Line { x, _ := line.Put(of(others...), at, l); return x })
		}
	}
	for _, l := range lists(2, slices.Concat(valid, invalid)) {
		checkShared(t, "Copy", l, func(l []api.Cell) api.Line { return line.Copy(of(l...)) })
	}
	for n := range 5 {
		checkShared(t, "New", nil, func([]api.Cell) api.Line { x, _ := line.New(n); return x })
	}
}
