package cell_test

import (
	"math"
	"math/rand"
	"slices"
	"testing"
	"unicode/utf8"

	"scrollback/api"
	"scrollback/cell"
	"scrollback/pen"
	"scrollback/width"
)

// Runes of each number of columns, at ends of the ranges of layer 2, and numbers that are not printed.
var (
	narrow = []rune{0x20, 'a', 'e', 'x', 0x7e, 0xa0, 0x2ff, 0x303f, 0xd7ff, 0xe000, 0xfffd, 0x10ffff}
	wide   = []rune{0x1100, 0x3029, 0x4e00, 0xd7a3, 0x1f600, 0x3fffd}
	marks  = []rune{0x300, 0x301, 0x36f, 0x200b, 0x302a, 0xfe0f, 0xe01ef}
	others = []rune{1, 7, 0x1b, 0x1f, 0x7f, 0x9f, 0xd800, 0xdfff, 0x110000, -1, -0x301, -0x4e00, -'a', math.MinInt32, math.MaxInt32}
)

// Pens, and what is none.
var (
	bold    = api.Pen{Flags: api.FlagBold}
	colored = api.Pen{Fore: api.Color{Kind: api.ColorIndex, Index: 7}, Back: api.Color{Kind: api.ColorTrue, G: 255}, Flags: 255}
	pens    = []api.Pen{{}, bold, colored, {Back: api.Color{Kind: api.ColorIndex}}}
	noPens  = []api.Pen{
		{Fore: api.Color{R: 1}}, {Back: api.Color{Index: 1}, Flags: api.FlagBold},
		{Fore: api.Color{Kind: 3}}, {Fore: api.Color{Kind: 1}, Back: api.Color{Kind: math.MinInt}},
	}
)

// Widths, of which only those from 0 to 2 are allowed: the others are such as they become by cutting, or by a sign.
var widths = []int{
	0, 1, 2, 3, 4, 6, -1, -2, 255, 256, 257, 258, 1 << 32, 1<<32 + 1, 1<<32 + 2, -1 << 32,
	math.MinInt, math.MinInt + 1, math.MinInt + 2, math.MaxInt, math.MaxInt - 1,
}

// columnsOf returns how many columns one of the runes above has.
func columnsOf(r rune) int {
	switch {
	case slices.Contains(narrow, r):
		return 1
	case slices.Contains(wide, r):
		return 2
	case slices.Contains(marks, r):
		return 0
	}
	return -1
}

// runes returns all of the runes above, and 0.
func runes() []rune {
	return slices.Concat([]rune{0}, narrow, wide, marks, others)
}

// allMarks returns three runes, each one of a few, in all ways.
func allMarks() [][3]rune {
	var l [][3]rune
	some := []rune{0, 0x301, 0xfe0f, 'b', 0x4e00, 7, -1}
	for _, a := range some {
		for _, b := range some {
			for _, c := range some {
				l = append(l, [3]rune{a, b, c})
			}
		}
	}
	return l
}

// eachCell calls a function with cells, and what is none, put together from the parts above in all ways.
func eachCell(f func(c api.Cell)) {
	some, penOrNot, n := allMarks(), slices.Concat(pens, noPens), 0
	for _, r := range runes() {
		for _, w := range widths {
			for _, m := range some {
				// Pens take turns, and so do pens and what is none: all of them with each would be too many.
				f(api.Cell{Rune: r, Marks: m, Width: w, Pen: pens[n%len(pens)]})
				f(api.Cell{Rune: r, Marks: m, Width: w, Pen: penOrNot[n%len(penOrNot)]})
				n++
			}
		}
	}
}

// isCell, isRow, textOf and fixed are the document's definitions.
func isCell(c api.Cell) bool {
	if slices.Contains(noPens, c.Pen) {
		return false
	}
	blank := c.Rune == 0 && c.Width == 1 && c.Marks[0] == 0 && c.Marks[1] == 0 && c.Marks[2] == 0
	spacer := c.Rune == 0 && c.Width == 0 && c.Marks[0] == 0 && c.Marks[1] == 0 && c.Marks[2] == 0
	written := (columnsOf(c.Rune) == 1 && c.Width == 1) || (columnsOf(c.Rune) == 2 && c.Width == 2)
	for n := 0; n < 3; n++ {
		if c.Marks[n] != 0 && columnsOf(c.Marks[n]) != 0 {
			written = false
		}
		if n > 0 && c.Marks[n] != 0 && c.Marks[n-1] == 0 {
			written = false
		}
	}
	return blank || spacer || written
}

func isRow(l []api.Cell) bool {
	for i, c := range l {
		if !isCell(c) {
			return false
		}
		if c.Width == 2 && (i == len(l)-1 || l[i+1].Width != 0 || l[i+1].Pen != c.Pen) {
			return false
		}
		if c.Width == 0 && (i == 0 || l[i-1].Width != 2) {
			return false
		}
	}
	return true
}

func textOf(l ...api.Cell) string {
	var b []byte
	for _, c := range l {
		if c.Width == 0 {
			continue
		}
		if c.Rune == 0 {
			b = append(b, ' ')
			continue
		}
		for _, r := range []rune{c.Rune, c.Marks[0], c.Marks[1], c.Marks[2]} {
			switch {
			case r == 0:
			case utf8.ValidRune(r):
				b = utf8.AppendRune(b, r)
			default:
				b = append(b, 0xef, 0xbf, 0xbd)
			}
		}
	}
	return string(b)
}

func fixed(l []api.Cell) []api.Cell {
	l = slices.Clone(l)
	for i := range l {
		switch {
		case l[i].Width == 0 && (i == 0 || l[i-1].Width != 2):
			l[i] = api.Cell{Width: 1, Pen: l[i].Pen}
		case l[i].Width == 0:
			l[i] = api.Cell{Pen: l[i-1].Pen}
		case l[i].Width == 2 && (i == len(l)-1 || l[i+1].Width != 0):
			l[i] = api.Cell{Width: 1, Pen: l[i].Pen}
		}
	}
	return l
}

// Cells of lists.
var (
	letter = api.Cell{Rune: 'a', Width: 1}
	marked = api.Cell{Rune: 'e', Marks: [3]rune{0x301}, Width: 1, Pen: bold}
	blank  = api.Cell{Width: 1}
	void   = api.Cell{Width: 1, Pen: bold}
	left   = api.Cell{Rune: 0x4e00, Width: 2}
	right  = api.Cell{}
	thick  = api.Cell{Rune: 0x1f600, Marks: [3]rune{0xfe0f}, Width: 2, Pen: bold}
	half   = api.Cell{Pen: bold}
	// What is no cell: a spacer with a rune and a mark, a wide one without a rune, one of another width, and two without a pen.
	full  = api.Cell{Rune: 'x', Marks: [3]rune{0, 0x302}, Pen: colored}
	bare  = api.Cell{Width: 2, Pen: colored}
	huge  = api.Cell{Rune: 0x4e00, Width: 3}
	under = api.Cell{Rune: 0x4e00, Width: -1, Pen: bold}
	wrong = api.Cell{Rune: 0x4e00, Width: 2, Pen: noPens[0]}
	lost  = api.Cell{Pen: noPens[1]}
)

// lists returns all lists of at most so many cells, each one of some.
func lists(length int, some []api.Cell) [][]api.Cell {
	all := [][]api.Cell{nil}
	for from, n := 0, 0; n < length; n++ {
		to := len(all)
		for _, l := range all[from:to] {
			for _, c := range some {
				all = append(all, append(slices.Clone(l), c))
			}
		}
		from = to
	}
	return all
}

// valid returns the cells above that are valid, mixed also those that are not.
func valid() []api.Cell {
	return []api.Cell{letter, marked, blank, void, left, right, thick, half}
}

func mixed() []api.Cell {
	return append(valid(), full, bare, huge, under, wrong, lost)
}

// listOf returns a list of some cells from a random source; halves often stand where they belong.
func listOf(random *rand.Rand, some []api.Cell) []api.Cell {
	var l []api.Cell
	for range random.Intn(30) {
		if random.Intn(2) == 0 {
			l = append(l, left, right)
		}
		if random.Intn(2) == 0 {
			l = append(l, thick, half)
		}
		if random.Intn(2) == 0 {
			l = append(l, some[random.Intn(len(some))])
		}
	}
	return l
}

// The runes of these tests are what layer 2 says.
func TestColumns(t *testing.T) {
	for _, r := range runes() {
		if n := width.Of(r); n != columnsOf(r) {
			t.Errorf("width.Of(%x) = %d, not %d", r, n, columnsOf(r))
		}
	}
	for _, p := range slices.Concat(pens, noPens) {
		if pen.Valid(p) == slices.Contains(noPens, p) {
			t.Errorf("pen.Valid(%v) = %t", p, pen.Valid(p))
		}
	}
}

// P4.1: blank cells and spacers with pens, and with what is none.
func TestBlankSpacer(t *testing.T) {
	for _, p := range slices.Concat(pens, noPens) {
		for f := range 256 {
			p.Flags = api.Flags(f)
			if c, want := cell.Blank(p), (api.Cell{Width: 1, Pen: p}); c != want {
				t.Fatalf("Blank(%v) = %v", p, c)
			}
			if c, want := cell.Spacer(p), (api.Cell{Width: 0, Pen: p}); c != want {
				t.Fatalf("Spacer(%v) = %v", p, c)
			}
		}
	}
}

// P4.1: the runes above with pens, and with what is none, and the document's examples.
func TestOf(t *testing.T) {
	check := func(r rune, p api.Pen, errno api.Errno, want ...api.Cell) {
		if l, e := cell.Of(r, p); !slices.Equal(l, want) || e != errno {
			t.Errorf("Of(%x, %v) = %v, %d, not %v, %d", r, p, l, e, want, errno)
		}
	}
	for _, r := range runes() {
		for _, p := range pens {
			switch columnsOf(r) {
			case 1:
				check(r, p, api.OK, api.Cell{Rune: r, Width: 1, Pen: p})
			case 2:
				check(r, p, api.OK, api.Cell{Rune: r, Width: 2, Pen: p}, api.Cell{Pen: p})
			default:
				check(r, p, api.ErrArg)
			}
		}
		for _, p := range noPens {
			check(r, p, api.ErrArg)
		}
	}
	check('a', api.Pen{}, api.OK, letter)
	check(0x4e00, bold, api.OK, api.Cell{Rune: 0x4e00, Width: 2, Pen: bold}, half)
	check(0x301, api.Pen{}, api.ErrArg)
	check(7, api.Pen{}, api.ErrArg)
	check(0, api.Pen{}, api.ErrArg)
}

// P4.1: every number from below 0 to above 10FFFF has as many cells as columns, or is an error.
func TestOfAll(t *testing.T) {
	for r := rune(-0x1000); r <= 0x111000; r++ {
		columns := width.Of(r)
		l, e := cell.Of(r, bold)
		if columns < 1 {
			if len(l) != 0 || e != api.ErrArg {
				t.Fatalf("Of(%x) = %v, %d", r, l, e)
			}
			continue
		}
		if len(l) != columns || e != api.OK || l[0] != (api.Cell{Rune: r, Width: columns, Pen: bold}) {
			t.Fatalf("Of(%x) = %v, %d", r, l, e)
		}
		if columns == 2 && l[1] != half {
			t.Fatalf("Of(%x) = %v", r, l)
		}
	}
}

// P4.1 and the document's rules: what Of returned may be changed, and shares nothing with what it returns next.
func TestOfChanged(t *testing.T) {
	for _, r := range []rune{'a', 0x4e00} {
		first, _ := cell.Of(r, bold)
		second, _ := cell.Of(r, bold)
		want := slices.Clone(first)
		for i := range first {
			first[i] = marked
		}
		_ = append(first[:0], slices.Repeat([]api.Cell{full}, cap(first))...)
		third, _ := cell.Of(r, bold)
		for _, l := range [][]api.Cell{second, third} {
			if !slices.Equal(l, want) {
				t.Errorf("Of(%x) = %v after a change, not %v", r, l, want)
			}
		}
	}
}

// P4.2: no marks, one, two, three and one more, on narrow and wide cells with all pens.
func TestMark(t *testing.T) {
	for _, r := range slices.Concat(narrow, wide) {
		for i, p := range pens {
			want := api.Cell{Rune: r, Width: columnsOf(r), Pen: p}
			c := want
			for n := range want.Marks {
				m := marks[(i+n)%len(marks)]
				want.Marks[n] = m
				before := c
				next, e := cell.Mark(c, m)
				if next != want || e != api.OK {
					t.Fatalf("Mark(%v, %x) = %v, %d, not %v", c, m, next, e, want)
				}
				if c != before {
					t.Fatalf("Mark(%v, %x) left %v", before, m, c)
				}
				c = next
			}
			for _, m := range marks {
				if next, e := cell.Mark(c, m); next != (api.Cell{}) || e != api.ErrFull {
					t.Fatalf("Mark(%v, %x) = %v, %d", c, m, next, e)
				}
			}
		}
	}
}

// P4.2: the document's examples, the same mark again, and which one of several errors is returned.
func TestMarkSome(t *testing.T) {
	one, two := letter, letter
	one.Marks = [3]rune{0x301}
	two.Marks = [3]rune{0x301, 0x302}
	three := letter
	three.Marks = [3]rune{0x301, 0x302, 0x303}
	same := letter
	same.Marks = [3]rune{0x301, 0x301}
	for _, c := range []struct {
		c     api.Cell
		r     rune
		want  api.Cell
		errno api.Errno
	}{
		{letter, 0x301, one, api.OK}, {one, 0x302, two, api.OK}, {two, 0x303, three, api.OK}, {one, 0x301, same, api.OK},
		{three, 0x304, api.Cell{}, api.ErrFull}, {three, 0x301, api.Cell{}, api.ErrFull},
		{blank, 0x301, api.Cell{}, api.ErrState}, {right, 0x301, api.Cell{}, api.ErrState}, {half, 0x301, api.Cell{}, api.ErrState},
		{letter, 'b', api.Cell{}, api.ErrArg}, {letter, 0, api.Cell{}, api.ErrArg}, {letter, 0x4e00, api.Cell{}, api.ErrArg},
		// Not written, and no mark; full, and no mark; not written, and no cell; full, and no cell.
		{blank, 'b', api.Cell{}, api.ErrArg}, {half, -1, api.Cell{}, api.ErrArg}, {three, 'b', api.Cell{}, api.ErrArg},
		{api.Cell{Width: 2}, 0x301, api.Cell{}, api.ErrArg}, {lost, 0x301, api.Cell{}, api.ErrArg},
		{api.Cell{Width: 1, Marks: three.Marks}, 0x301, api.Cell{}, api.ErrArg},
		{api.Cell{Rune: 'a', Width: 2, Marks: three.Marks}, 0x301, api.Cell{}, api.ErrArg},
		{api.Cell{Rune: 'a', Width: 1, Marks: three.Marks, Pen: noPens[0]}, 0x301, api.Cell{}, api.ErrArg},
		// A 0 before a mark is no free place.
		{api.Cell{Rune: 'a', Width: 1, Marks: [3]rune{0, 0x301}}, 0x301, api.Cell{}, api.ErrArg},
		{api.Cell{Rune: 'a', Width: 1, Marks: [3]rune{0x301, 0, 0x301}}, 0x301, api.Cell{}, api.ErrArg},
	} {
		if next, e := cell.Mark(c.c, c.r); next != c.want || e != c.errno {
			t.Errorf("Mark(%v, %x) = %v, %d, not %v, %d", c.c, c.r, next, e, c.want, c.errno)
		}
	}
}

// P4.2: every number from below 0 to above 10FFFF on a letter, on a blank cell, and on a full one.
func TestMarkAll(t *testing.T) {
	three := letter
	three.Marks = [3]rune{0x301, 0x302, 0x303}
	for r := rune(-0x1000); r <= 0x111000; r++ {
		want, errnos := api.Cell{}, []api.Errno{api.ErrArg, api.ErrArg, api.ErrArg}
		if width.Of(r) == 0 {
			want, errnos = letter, []api.Errno{api.OK, api.ErrState, api.ErrFull}
			want.Marks[0] = r
		}
		for i, c := range []api.Cell{letter, blank, three} {
			if i > 0 {
				want = api.Cell{}
			}
			if next, e := cell.Mark(c, r); next != want || e != errnos[i] {
				t.Fatalf("Mark(%v, %x) = %v, %d, not %v, %d", c, r, next, e, want, errnos[i])
			}
		}
	}
}

// P4.2 and P4.6: cells of all parts, with runes that are marks and with others; what is marked is valid.
func TestMarkCells(t *testing.T) {
	some, i := runes(), 0
	eachCell(func(c api.Cell) {
		r := some[i%len(some)]
		i++
		want, errno := api.Cell{}, api.OK
		switch {
		case !isCell(c), columnsOf(r) != 0:
			errno = api.ErrArg
		case c.Rune == 0:
			errno = api.ErrState
		case c.Marks[2] != 0:
			errno = api.ErrFull
		case c.Marks[1] != 0:
			want = api.Cell{Rune: c.Rune, Marks: [3]rune{c.Marks[0], c.Marks[1], r}, Width: c.Width, Pen: c.Pen}
		case c.Marks[0] != 0:
			want = api.Cell{Rune: c.Rune, Marks: [3]rune{c.Marks[0], r}, Width: c.Width, Pen: c.Pen}
		default:
			want = api.Cell{Rune: c.Rune, Marks: [3]rune{r}, Width: c.Width, Pen: c.Pen}
		}
		next, e := cell.Mark(c, r)
		if next != want || e != errno {
			t.Fatalf("Mark(%v, %x) = %v, %d, not %v, %d", c, r, next, e, want, errno)
		}
		if e == api.OK && !cell.Valid(next) {
			t.Fatalf("Mark(%v, %x) = %v", c, r, next)
		}
	})
}

// P4.3: cells of all parts.
func TestValidCells(t *testing.T) {
	count, written := 0, 0
	eachCell(func(c api.Cell) {
		want := isCell(c)
		if cell.Valid(c) != want {
			t.Fatalf("Valid(%v) = %t", c, !want)
		}
		if cell.Written(c) != (c.Rune != 0) {
			t.Fatalf("Written(%v) = %t", c, c.Rune == 0)
		}
		if empty := c == (api.Cell{Width: 1}); cell.Empty(c) != empty {
			t.Fatalf("Empty(%v) = %t", c, !empty)
		}
		if want {
			count++
		}
		if want && c.Rune != 0 {
			written++
		}
	})
	if written == 0 || count == written {
		t.Errorf("%d cells, %d of them written", count, written)
	}
}

// P4.3: the document's examples, and cells that are blank, spacers, written and wide, with each part that may not be so.
func TestValidSome(t *testing.T) {
	for _, c := range []struct {
		c    api.Cell
		want bool
	}{
		{api.Cell{Rune: 'a', Width: 2}, false}, {api.Cell{Width: 2}, false}, {api.Cell{}, true},
		{api.Cell{Rune: 'a', Marks: [3]rune{0, 0x301}, Width: 1}, false},
		{blank, true}, {void, true}, {half, true}, {letter, true}, {marked, true}, {left, true}, {thick, true},
		{full, false}, {bare, false}, {huge, false}, {under, false}, {wrong, false}, {lost, false},
		// A blank cell and a spacer with a mark at each place.
		{api.Cell{Width: 1, Marks: [3]rune{0x301}}, false}, {api.Cell{Width: 1, Marks: [3]rune{0, 0x301}}, false},
		{api.Cell{Width: 1, Marks: [3]rune{0, 0, 0x301}}, false}, {api.Cell{Marks: [3]rune{0x301}}, false},
		{api.Cell{Marks: [3]rune{0, 0x301}}, false}, {api.Cell{Marks: [3]rune{0, 0, 0x301}}, false},
		// Runes of the other width, without a column, and such as are not printed.
		{api.Cell{Rune: 'a'}, false}, {api.Cell{Rune: 0x4e00}, false}, {api.Cell{Rune: 0x4e00, Width: 1}, false},
		{api.Cell{Rune: 0x301}, false}, {api.Cell{Rune: 0x301, Width: 1}, false},
		{api.Cell{Rune: 7, Width: -1}, false}, {api.Cell{Rune: 7, Width: 1}, false}, {api.Cell{Rune: -1, Width: -1}, false},
		{api.Cell{Width: -1}, false}, {api.Cell{Width: 3}, false}, {api.Cell{Width: math.MinInt}, false},
		// One, two and three marks, and a gap or what is no mark among them.
		{api.Cell{Rune: 'a', Marks: [3]rune{0x301, 0xfe0f}, Width: 1}, true},
		{api.Cell{Rune: 'a', Marks: [3]rune{0x301, 0xfe0f, 0x301}, Width: 1}, true},
		{api.Cell{Rune: 0x4e00, Marks: [3]rune{0x301, 0xfe0f, 0x301}, Width: 2}, true},
		{api.Cell{Rune: 'a', Marks: [3]rune{0, 0, 0x301}, Width: 1}, false},
		{api.Cell{Rune: 'a', Marks: [3]rune{0x301, 0, 0x301}, Width: 1}, false},
		{api.Cell{Rune: 'a', Marks: [3]rune{'b'}, Width: 1}, false},
		{api.Cell{Rune: 'a', Marks: [3]rune{0x301, 'b'}, Width: 1}, false},
		{api.Cell{Rune: 'a', Marks: [3]rune{0x301, 0x301, 'b'}, Width: 1}, false},
		{api.Cell{Rune: 'a', Marks: [3]rune{0x301, 0x301, -1}, Width: 1}, false},
		// Pens, and what is none, of each kind of cells.
		{api.Cell{Rune: 'a', Width: 1, Pen: colored}, true}, {api.Cell{Rune: 'a', Width: 1, Pen: noPens[0]}, false},
		{api.Cell{Width: 1, Pen: colored}, true}, {api.Cell{Width: 1, Pen: noPens[0]}, false},
		{api.Cell{Pen: colored}, true}, {api.Cell{Pen: noPens[0]}, false},
	} {
		if cell.Valid(c.c) != c.want {
			t.Errorf("Valid(%v) = %t", c.c, !c.want)
		}
	}
}

// P4.3: a cell of every number from below 0 to above 10FFFF is valid with the width of its rune.
func TestValidAll(t *testing.T) {
	for r := rune(-0x1000); r <= 0x111000; r++ {
		for w := -1; w <= 3; w++ {
			c := api.Cell{Rune: r, Width: w}
			want := w == width.Of(r) && (w == 1 || w == 2)
			if r == 0 {
				want = w == 0 || w == 1
			}
			if cell.Valid(c) != want {
				t.Fatalf("Valid(%v) = %t", c, !want)
			}
		}
		c := api.Cell{Rune: 'a', Marks: [3]rune{r}, Width: 1}
		if want := r == 0 || width.Of(r) == 0; cell.Valid(c) != want {
			t.Fatalf("Valid(%v) = %t", c, !want)
		}
	}
}

// P4.3: cells that are the empty one but for one part.
func TestWrittenEmpty(t *testing.T) {
	for _, c := range []struct {
		c              api.Cell
		written, empty bool
	}{
		{blank, false, true}, {right, false, false}, {void, false, false}, {letter, true, false},
		{api.Cell{Rune: ' ', Width: 1}, true, false}, {api.Cell{Width: 2}, false, false},
		{api.Cell{Width: 1, Marks: [3]rune{0, 0, 0x301}}, false, false}, {api.Cell{Rune: -1, Width: 1}, true, false},
		{api.Cell{Width: 1, Pen: api.Pen{Back: api.Color{Kind: api.ColorIndex}}}, false, false},
		{full, true, false}, {bare, false, false}, {lost, false, false}, {wrong, true, false},
	} {
		if cell.Written(c.c) != c.written || cell.Empty(c.c) != c.empty {
			t.Errorf("Written(%v) = %t, Empty = %t", c.c, cell.Written(c.c), cell.Empty(c.c))
		}
	}
}

// P4.3 to P4.5: the document's examples, and rows and what is none; halves at the ends, and with other pens.
func TestRowTextsFix(t *testing.T) {
	spare := api.Cell{Pen: colored}
	for _, c := range []struct {
		l    []api.Cell
		row  bool
		text string
		want []api.Cell
	}{
		{nil, true, "", nil},
		{[]api.Cell{}, true, "", nil},
		{[]api.Cell{blank}, true, " ", []api.Cell{blank}},
		{[]api.Cell{left, right, blank, letter}, true, "\u4e00 a", []api.Cell{left, right, blank, letter}},
		{[]api.Cell{left, right, thick, half, left, right}, true, "\u4e00\U0001f600\ufe0f\u4e00", []api.Cell{left, right, thick, half, left, right}},
		{[]api.Cell{letter, marked, void}, true, "ae\u0301 ", []api.Cell{letter, marked, void}},
		// A spacer that is the first one, that is behind a narrow cell, or behind a spacer.
		{[]api.Cell{right}, false, "", []api.Cell{blank}},
		{[]api.Cell{half, letter}, false, "a", []api.Cell{void, letter}},
		{[]api.Cell{half, half}, false, "", []api.Cell{void, void}},
		{[]api.Cell{letter, half}, false, "a", []api.Cell{letter, void}},
		{[]api.Cell{left, right, half}, false, "\u4e00", []api.Cell{left, right, void}},
		{[]api.Cell{left, right, right, right, letter}, false, "\u4e00a", []api.Cell{left, right, blank, blank, letter}},
		// A wide cell that is the last one, or before what is no spacer.
		{[]api.Cell{left}, false, "\u4e00", []api.Cell{blank}},
		{[]api.Cell{letter, thick}, false, "a\U0001f600\ufe0f", []api.Cell{letter, void}},
		{[]api.Cell{thick, letter}, false, "\U0001f600\ufe0fa", []api.Cell{void, letter}},
		{[]api.Cell{left, left, right}, false, "\u4e00\u4e00", []api.Cell{blank, left, right}},
		{[]api.Cell{left, thick, left}, false, "\u4e00\U0001f600\ufe0f\u4e00", []api.Cell{blank, void, blank}},
		{[]api.Cell{left, blank, right}, false, "\u4e00 ", []api.Cell{blank, blank, blank}},
		{[]api.Cell{left, right, thick}, false, "\u4e00\U0001f600\ufe0f", []api.Cell{left, right, void}},
		{[]api.Cell{half, thick, half}, false, "\U0001f600\ufe0f", []api.Cell{void, thick, half}},
		{[]api.Cell{half, thick}, false, "\U0001f600\ufe0f", []api.Cell{void, void}},
		// A spacer with another pen than the wide cell before it, and one with a rune and a mark.
		{[]api.Cell{thick, right}, false, "\U0001f600\ufe0f", []api.Cell{thick, half}},
		{[]api.Cell{left, spare, spare}, false, "\u4e00", []api.Cell{left, right, {Width: 1, Pen: colored}}},
		{[]api.Cell{thick, full, letter}, false, "\U0001f600\ufe0fa", []api.Cell{thick, half, letter}},
		{[]api.Cell{full, letter}, false, "a", []api.Cell{{Width: 1, Pen: colored}, letter}},
		{[]api.Cell{wrong, right}, false, "\u4e00", []api.Cell{wrong, {Pen: wrong.Pen}}},
		// What is no cell, alone and in a row: a wide one without a rune, and others, are left as they are.
		{[]api.Cell{bare, spare}, false, " ", []api.Cell{bare, spare}},
		{[]api.Cell{bare}, false, " ", []api.Cell{{Width: 1, Pen: colored}}},
		{[]api.Cell{huge, right}, false, "\u4e00", []api.Cell{huge, blank}},
		{[]api.Cell{under, half}, false, "\u4e00", []api.Cell{under, void}},
		{[]api.Cell{wrong}, false, "\u4e00", []api.Cell{{Width: 1, Pen: wrong.Pen}}},
		{[]api.Cell{lost}, false, "", []api.Cell{{Width: 1, Pen: lost.Pen}}},
		{[]api.Cell{left, lost}, false, "\u4e00", []api.Cell{left, right}},
		{[]api.Cell{letter, {Rune: 'a', Width: 1, Pen: noPens[0]}}, false, "aa", []api.Cell{letter, {Rune: 'a', Width: 1, Pen: noPens[0]}}},
	} {
		if row := cell.Row(c.l); row != c.row {
			t.Errorf("Row(%v) = %t", c.l, row)
		}
		if s := cell.Texts(c.l); s != c.text {
			t.Errorf("Texts(%v) = %q, not %q", c.l, s, c.text)
		}
		if l := cell.Fix(c.l); !slices.Equal(l, c.want) {
			t.Errorf("Fix(%v) = %v, not %v", c.l, l, c.want)
		}
	}
}

// P4.3: a row is one only together with the spacer's pen, in both colors and in the flags.
func TestRowPens(t *testing.T) {
	for _, p := range pens {
		for _, q := range pens {
			l := []api.Cell{letter, {Rune: 0x4e00, Width: 2, Pen: p}, {Pen: q}}
			if cell.Row(l) != (p == q) {
				t.Errorf("Row(%v) = %t", l, p != q)
			}
		}
	}
}

// P4.4: cells of all parts.
func TestTextCells(t *testing.T) {
	eachCell(func(c api.Cell) {
		want := textOf(c)
		if s := cell.Text(c); s != want {
			t.Fatalf("Text(%v) = %q, not %q", c, s, want)
		}
		if s := cell.Texts([]api.Cell{c}); s != want {
			t.Fatalf("Texts(%v) = %q, not %q", c, s, want)
		}
	})
}

// P4.4: the document's examples, and runes and marks that are no runes.
func TestTextSome(t *testing.T) {
	for _, c := range []struct {
		c    api.Cell
		want string
	}{
		{api.Cell{Rune: 'a', Marks: [3]rune{0x301}, Width: 1}, "a\u0301"}, {blank, " "}, {void, " "}, {right, ""}, {full, ""},
		{api.Cell{Rune: ' ', Width: 1}, " "}, {bare, " "}, {api.Cell{Width: 1, Marks: [3]rune{0x301, 'b', -1}}, " "},
		{api.Cell{Width: -1}, " "}, {api.Cell{Width: math.MinInt}, " "}, {huge, "\u4e00"}, {under, "\u4e00"},
		{api.Cell{Rune: 'a', Marks: [3]rune{0x301, 0x302, 0x303}, Width: 1}, "a\u0301\u0302\u0303"},
		{api.Cell{Rune: 'a', Marks: [3]rune{0, 0x301}, Width: 1}, "a\u0301"},
		{api.Cell{Rune: 'a', Marks: [3]rune{0x301, 0, 'b'}, Width: 1}, "a\u0301b"},
		{api.Cell{Rune: 0xd800, Width: 1}, "\xef\xbf\xbd"}, {api.Cell{Rune: 0xdfff, Width: 1}, "\xef\xbf\xbd"},
		{api.Cell{Rune: -1, Width: 1}, "\xef\xbf\xbd"}, {api.Cell{Rune: 0x110000, Width: 1}, "\xef\xbf\xbd"},
		{api.Cell{Rune: math.MinInt32, Width: 2}, "\xef\xbf\xbd"}, {api.Cell{Rune: math.MaxInt32, Width: 2}, "\xef\xbf\xbd"},
		{api.Cell{Rune: 0xfffd, Width: 1}, "\xef\xbf\xbd"}, {api.Cell{Rune: 0x10ffff, Width: 1}, "\xf4\x8f\xbf\xbf"},
		{api.Cell{Rune: 0x80, Width: 1}, "\xc2\x80"}, {api.Cell{Rune: 7, Width: 1}, "\a"}, {api.Cell{Rune: 0x7ff, Width: 1}, "\xdf\xbf"},
		{api.Cell{Rune: 'a', Marks: [3]rune{-1, 0xd800, 0x110000}, Width: 1}, "a\xef\xbf\xbd\xef\xbf\xbd\xef\xbf\xbd"},
		{api.Cell{Rune: -1, Marks: [3]rune{0x301, 0, math.MinInt32}, Width: 1}, "\xef\xbf\xbd\u0301\xef\xbf\xbd"},
		{api.Cell{Rune: -1, Marks: [3]rune{-1}}, ""},
	} {
		if s := cell.Text(c.c); s != c.want {
			t.Errorf("Text(%v) = %q, not %q", c.c, s, c.want)
		}
	}
}

// checkList checks one list against the definitions, and that it stays as it was.
func checkList(t *testing.T, l []api.Cell) {
	t.Helper()
	kept := slices.Clone(l)
	if want := isRow(l); cell.Row(l) != want {
		t.Fatalf("Row(%v) = %t", l, !want)
	}
	if s, want := cell.Texts(l), textOf(l...); s != want {
		t.Fatalf("Texts(%v) = %q, not %q", l, s, want)
	}
	if f, want := cell.Fix(l), fixed(l); !slices.Equal(f, want) {
		t.Fatalf("Fix(%v) = %v, not %v", l, f, want)
	}
	if !slices.Equal(l, kept) {
		t.Fatalf("%v became %v", kept, l)
	}
}

// P4.3 to P4.5: all lists of a few cells and of what is none, against the definitions.
func TestLists(t *testing.T) {
	for _, l := range lists(4, mixed()) {
		checkList(t, l)
	}
}

// P4.3 to P4.5: cells of all widths alone, and before, behind and between halves.
func TestListsWidths(t *testing.T) {
	for _, c := range mixed() {
		for _, w := range widths {
			c.Width = w
			for _, l := range [][]api.Cell{{c}, {c, right}, {left, c}, {c, c}, {left, c, right}, {left, right, c, half, letter}} {
				checkList(t, l)
			}
		}
	}
}

// P4.5 and P4.3: what is behind a list in the same memory is not looked at.
func TestParts(t *testing.T) {
	whole := []api.Cell{left, right, letter}
	if f := cell.Fix(whole[:1]); !slices.Equal(f, []api.Cell{blank}) {
		t.Errorf("Fix(%v) = %v", whole[:1], f)
	}
	if f := cell.Fix(whole[1:]); !slices.Equal(f, []api.Cell{blank, letter}) {
		t.Errorf("Fix(%v) = %v", whole[1:], f)
	}
	if cell.Row(whole[:1]) || cell.Row(whole[1:]) || !cell.Row(whole[:2]) || !cell.Row(whole[2:]) || !cell.Row(whole[:0]) {
		t.Error("Row of a part")
	}
}

// P4.5 and the document's rules: Fix leaves its argument as it was, and what it returned shares no memory with it, nor with what it returns next.
func TestFixChanged(t *testing.T) {
	for _, l := range lists(3, mixed()) {
		whole := append(slices.Clone(l), full, full, full)
		kept := slices.Clone(whole)
		part := whole[:len(l)]
		first, second := cell.Fix(part), cell.Fix(part)
		want := fixed(l)
		for i := range first {
			first[i] = marked
		}
		_ = append(first, marked)
		_ = append(first[:0], slices.Repeat([]api.Cell{marked}, cap(first))...)
		if !slices.Equal(whole, kept) || !slices.Equal(second, want) {
			t.Fatalf("%v, Fix = %v after a change", whole, second)
		}
		for i := range whole {
			whole[i] = letter
		}
		if !slices.Equal(second, want) {
			t.Fatalf("Fix(%v) = %v after a change", kept, second)
		}
	}
}

// P4.6: cells of a rune are a row, and stay one when they are marked.
func TestOfRow(t *testing.T) {
	for _, r := range slices.Concat(narrow, wide) {
		for _, p := range pens {
			l, _ := cell.Of(r, p)
			for n := 0; n <= 3; n++ {
				if !cell.Row(l) || !slices.Equal(cell.Fix(l), l) {
					t.Fatalf("Row(%v) = %t", l, cell.Row(l))
				}
				c, e := cell.Mark(l[0], 0x301)
				if (e == api.OK) != (n < 3) {
					t.Fatalf("Mark(%v) = %d", l[0], e)
				}
				if e == api.OK {
					l[0] = c
				}
			}
		}
	}
}

// P4.6: every cell of a rune from below 0 to above 10FFFF is a row.
func TestOfRowAll(t *testing.T) {
	for r := rune(-0x1000); r <= 0x111000; r++ {
		if l, e := cell.Of(r, colored); !cell.Row(l) || e == api.OK && cell.Text(l[0]) != string(r) {
			t.Fatalf("Of(%x) = %v", r, l)
		}
	}
}

// checkFixed checks what P4.6 says of one list.
func checkFixed(t *testing.T, l []api.Cell) {
	t.Helper()
	f := cell.Fix(l)
	if cell.Row(l) && !slices.Equal(f, l) {
		t.Fatalf("Fix(%v) = %v, which was a row", l, f)
	}
	if !slices.ContainsFunc(l, func(c api.Cell) bool { return !cell.Valid(c) }) {
		if !cell.Row(f) {
			t.Fatalf("Fix(%v) = %v, which is no row", l, f)
		}
		if slices.Equal(f, l) != cell.Row(l) {
			t.Fatalf("Fix(%v) = %v, Row = %t", l, f, cell.Row(l))
		}
	}
	if g := cell.Fix(f); !slices.Equal(g, f) {
		t.Fatalf("Fix(%v) = %v, fixed again %v", l, f, g)
	}
	if len(f) != len(l) {
		t.Fatalf("Fix(%v) = %v", l, f)
	}
}

// P4.6: all lists of a few cells, and of what is none.
func TestFixed(t *testing.T) {
	for _, l := range lists(4, mixed()) {
		checkFixed(t, l)
	}
	for _, l := range lists(5, valid()) {
		checkFixed(t, l)
	}
}

// P4.6: long lists, and rows behind one another.
func TestJoined(t *testing.T) {
	random := rand.New(rand.NewSource(4))
	rows := 0
	for range 5000 {
		a, b := listOf(random, valid()), listOf(random, mixed())
		for _, l := range [][]api.Cell{a, b, slices.Concat(a, b)} {
			checkList(t, l)
			checkFixed(t, l)
		}
		if s, want := cell.Texts(slices.Concat(a, b)), cell.Texts(a)+cell.Texts(b); s != want {
			t.Fatalf("Texts(%v, %v) = %q, not %q", a, b, s, want)
		}
		a, b = cell.Fix(a), cell.Fix(b)
		if cell.Row(b) {
			rows++
		}
		if want := cell.Row(b); !cell.Row(a) || cell.Row(slices.Concat(a, b)) != want || cell.Row(slices.Concat(b, a)) != want {
			t.Fatalf("Row(%v, %v)", a, b)
		}
	}
	if rows < 100 || rows > 4900 {
		t.Errorf("%d of 5000 are rows", rows)
	}
}
