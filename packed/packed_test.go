package packed_test

import (
	"math"
	"math/big"
	"math/rand"
	"slices"
	"testing"

	"scrollback/api"
	"scrollback/cell"
	"scrollback/packed"
	"scrollback/pen"
	"scrollback/width"
)

// Pens of each kind, and what is none.
var (
	bold    = api.Pen{Flags: api.FlagBold}
	colored = api.Pen{Fore: api.Color{Kind: api.ColorIndex, Index: 7}, Back: api.Color{Kind: api.ColorTrue, R: 1, G: 2, B: 3}, Flags: 255}
	full    = api.Pen{
		Fore: api.Color{Kind: api.ColorTrue, R: 255, G: 255, B: 255}, Back: api.Color{Kind: api.ColorTrue, R: 255, G: 255, B: 255}, Flags: 255,
	}
	pens   = []api.Pen{{}, bold, colored, full, {Back: api.Color{Kind: api.ColorIndex}}, {Fore: api.Color{Kind: api.ColorIndex, Index: 255}}}
	noPens = []api.Pen{
		{Fore: api.Color{R: 1}}, {Back: api.Color{Index: 1}, Flags: api.FlagBold}, {Fore: api.Color{Kind: 3}}, {Back: api.Color{Kind: math.MinInt}},
	}
)

// Cells of each kind, and what is none: by the width, the rune, the marks or the pen.
var (
	letter = api.Cell{Rune: 'a', Width: 1}
	empty  = api.Cell{Width: 1}
	left   = api.Cell{Rune: 0x4e00, Width: 2}
	right  = api.Cell{}
	marked = api.Cell{Rune: 'a', Marks: [3]rune{0x301}, Width: 1}
	thick  = api.Cell{Rune: 'a', Width: 1, Pen: bold}
	void   = api.Cell{Width: 1, Pen: bold}
	half   = api.Cell{Pen: bold}
	last   = api.Cell{Rune: 0x10ffff, Marks: [3]rune{0xe01ef, 0xe01ee, 0xe01ed}, Width: 1, Pen: full}

	valid   = []api.Cell{letter, empty, left, right, marked, thick, void, half, last}
	invalid = []api.Cell{
		{Rune: 'a', Width: 2}, {Rune: 'a'}, {Rune: 0x4e00, Width: 1}, {Width: 2}, {Width: -1}, {Rune: 7, Width: 1}, {Rune: 0x301, Width: 1},
		{Rune: -1, Width: 1}, {Rune: 0x110000, Width: 1}, {Width: 1, Marks: [3]rune{0x301}}, {Marks: [3]rune{0x301}},
		{Rune: 'a', Width: 1, Marks: [3]rune{0, 0x301}}, {Rune: 'a', Width: 1, Marks: [3]rune{0x301, 'b'}},
		{Rune: 'a', Width: 1, Pen: noPens[0]}, {Width: 1, Pen: noPens[1]}, {Pen: noPens[2]}, {Rune: 0x4e00, Width: 2, Pen: noPens[3]},
	}
)

// wordsOf is the document's definition, of a valid cell.
func wordsOf(c api.Cell) [3]uint64 {
	p, _ := pen.Pack(c.Pen)
	return [3]uint64{
		p,
		uint64(c.Rune) + 2097152*uint64(c.Width),
		uint64(c.Marks[0]) + 2097152*uint64(c.Marks[1]) + 2097152*2097152*uint64(c.Marks[2]),
	}
}

// cellOf looks for the cell with some words; which of its parts are which follows from the definition.
func cellOf(w [3]uint64) (api.Cell, bool) {
	p, e := pen.Unpack(w[0])
	c := api.Cell{
		Rune:  rune(w[1] % 2097152),
		Marks: [3]rune{rune(w[2] % 2097152), rune(w[2] / 2097152 % 2097152), rune(w[2] / 2097152 / 2097152 % 2097152)},
		Width: int(w[1] / 2097152),
		Pen:   p,
	}
	if e != api.OK || !cell.Valid(c) || wordsOf(c) != w {
		return api.Cell{}, false
	}
	return c, true
}

// runsOf is the document's definition, of valid cells.
func runsOf(l []api.Cell) []api.Run {
	var runs []api.Run
	for from := 0; from < len(l); {
		to := from
		for to < len(l) && l[to] == l[from] {
			to++
		}
		runs = append(runs, api.Run{Count: to - from, Words: wordsOf(l[from])})
		from = to
	}
	return runs
}

// areRight is the document's definition, with a sum of any size.
func areRight(l []api.Run) bool {
	sum := big.NewInt(0)
	for i, r := range l {
		sum.Add(sum, big.NewInt(int64(r.Count)))
		if _, there := cellOf(r.Words); !there || r.Count < 1 {
			return false
		}
		if i > 0 && r.Words == l[i-1].Words {
			return false
		}
	}
	return sum.Cmp(big.NewInt(100000)) <= 0
}

// cellsOf returns the cells of runs that are right.
func cellsOf(l []api.Run) []api.Cell {
	var cells []api.Cell
	for _, r := range l {
		c, _ := cellOf(r.Words)
		cells = append(cells, slices.Repeat([]api.Cell{c}, r.Count)...)
	}
	return cells
}

// lists returns all lists of at most so many elements, each one of some.
func lists[T any](length int, some []T) [][]T {
	all := [][]T{nil}
	for from, n := 0, 0; n < length; n++ {
		to := len(all)
		for _, l := range all[from:to] {
			for _, x := range some {
				all = append(all, append(slices.Clone(l), x))
			}
		}
		from = to
	}
	return all
}

// eachCell calls a function with cells, and what is none, put together from some parts in all ways.
func eachCell(f func(c api.Cell)) {
	some := []rune{0, 0x300, 0x301, 0xfe0f, 0xe01ef, 'b', 0x4e00, 7, -1}
	for _, r := range []rune{0, 'a', 0x20, 0x7e, 0xfffd, 0x10ffff, 0x4e00, 0x1f600, 0x3fffd, 0x301, 7, 0xd800, 0x110000, -1, math.MinInt32} {
		for _, w := range []int{0, 1, 2, 3, -1, 1 << 32, 1<<32 + 1, 1 << 43, 1<<43 + 1, math.MinInt, math.MaxInt} {
			for i := range len(some) * len(some) * len(some) {
				m := [3]rune{some[i%9], some[i/9%9], some[i/81]}
				// Pens take turns, as all of them with each would be too many.
				f(api.Cell{Rune: r, Marks: m, Width: w, Pen: pens[i%len(pens)]})
				f(api.Cell{Rune: r, Marks: m, Width: w, Pen: noPens[i%len(noPens)]})
			}
		}
	}
}

// checkWords checks Words of one cell, and Cell of what it returned.
func checkWords(t *testing.T, c api.Cell) {
	t.Helper()
	want, errno := [3]uint64{}, api.ErrArg
	if cell.Valid(c) {
		want, errno = wordsOf(c), api.OK
	}
	w, e := packed.Words(c)
	if w != want || e != errno {
		t.Fatalf("Words(%v) = %x, %d, not %x, %d", c, w, e, want, errno)
	}
	if e != api.OK {
		return
	}
	if d, e := packed.Cell(w); d != c || e != api.OK {
		t.Fatalf("Cell(%x) = %v, %d, not %v", w, d, e, c)
	}
}

// checkCell checks Cell of some words, and Words of what it returned.
func checkCell(t *testing.T, w [3]uint64) {
	t.Helper()
	want, there := cellOf(w)
	errno := api.OK
	if !there {
		errno = api.ErrMalformed
	}
	c, e := packed.Cell(w)
	if c != want || e != errno {
		t.Fatalf("Cell(%x) = %v, %d, not %v, %d", w, c, e, want, errno)
	}
	if e != api.OK {
		return
	}
	if v, e := packed.Words(c); v != w || e != api.OK {
		t.Fatalf("Words(%v) = %x, %d, not %x", c, v, e, w)
	}
}

// P5.1: the document's examples; cells that are blank, spacers, written and wide; no mark, one, two and three; pens of each kind.
func TestWordsSome(t *testing.T) {
	for _, c := range []struct {
		c api.Cell
		w [3]uint64
	}{
		{letter, [3]uint64{0, 97 + 1<<21, 0}}, {empty, [3]uint64{0, 1 << 21, 0}}, {left, [3]uint64{0, 19968 + 1<<22, 0}}, {right, [3]uint64{}},
		{marked, [3]uint64{0, 97 + 1<<21, 769}}, {thick, [3]uint64{1 << 52, 97 + 1<<21, 0}},
		{void, [3]uint64{1 << 52, 1 << 21, 0}}, {half, [3]uint64{1 << 52, 0, 0}},
		{api.Cell{Rune: 'a', Marks: [3]rune{0x301, 0x302}, Width: 1}, [3]uint64{0, 97 + 1<<21, 769 + 770<<21}},
		{api.Cell{Rune: 'a', Marks: [3]rune{0x301, 0x302, 0x303}, Width: 1}, [3]uint64{0, 97 + 1<<21, 769 + 770<<21 + 771<<42}},
		{api.Cell{Rune: 0x4e00, Marks: [3]rune{0x301}, Width: 2, Pen: bold}, [3]uint64{1 << 52, 19968 + 1<<22, 769}},
		{last, [3]uint64{255<<52 + (1<<25+0xffffff)<<26 + 1<<25 + 0xffffff, 0x10ffff + 1<<21, 0xe01ef + 0xe01ee<<21 + 0xe01ed<<42}},
		{api.Cell{Width: 1, Pen: colored}, [3]uint64{255<<52 + (1<<25+0x10203)<<26 + 1<<24 + 7, 1 << 21, 0}},
		{api.Cell{Pen: pens[4]}, [3]uint64{1 << 50, 0, 0}},
		{api.Cell{Rune: 0x3fffd, Width: 2, Pen: pens[5]}, [3]uint64{1<<24 + 255, 0x3fffd + 1<<22, 0}},
	} {
		if w, e := packed.Words(c.c); w != c.w || e != api.OK {
			t.Errorf("Words(%v) = %x, %d, not %x", c.c, w, e, c.w)
		}
		if d, e := packed.Cell(c.w); d != c.c || e != api.OK {
			t.Errorf("Cell(%x) = %v, %d, not %v", c.w, d, e, c.c)
		}
	}
	for _, c := range invalid {
		if w, e := packed.Words(c); w != [3]uint64{} || e != api.ErrArg {
			t.Errorf("Words(%v) = %x, %d", c, w, e)
		}
	}
}

// P5.1 and P5.4: cells of all parts, and what is none; different cells have different words.
func TestWords(t *testing.T) {
	seen := map[[3]uint64]api.Cell{}
	count := 0
	eachCell(func(c api.Cell) {
		checkWords(t, c)
		w, e := packed.Words(c)
		if e != api.OK {
			return
		}
		count++
		if d, ok := seen[w]; ok && d != c {
			t.Fatalf("Words(%v) = Words(%v) = %x", c, d, w)
		}
		seen[w] = c
	})
	// Eight runes with no mark, or one, two or three of four; blank cells and spacers.
	if count != 8*(1+4+16+64)+2 {
		t.Errorf("%d cells", count)
	}
}

// P5.1: words of which just one part is that of no cell.
func TestCellMalformed(t *testing.T) {
	a, b := uint64('a'+1<<21), uint64(0x4e00+2<<21)
	for _, w := range [][3]uint64{
		// The word of no pen, of each kind of cells.
		{1, a}, {3 << 24, a}, {1<<24 + 256, a}, {1 << 60, a}, {math.MaxUint64, a}, {1, 1 << 21}, {1, 0}, {1, b}, {1 << 63, b},
		// A width above 2, by little and by much.
		{0, 'a' + 3<<21}, {0, 0x4e00 + 3<<21}, {0, 3 << 21}, {0, 1 << 23}, {0, 'a' + 4<<21}, {0, 'a' + 5<<21}, {0, 0x4e00 + 6<<21},
		{0, 1 << 63}, {0, a + 1<<63}, {0, a + 1<<32}, {0, 1<<21 + 1<<53}, {0, a + 1<<53}, {0, b + 1<<53}, {0, 1 << 53}, {0, math.MaxUint64},
		// A rune that has not that width, or that has none.
		{0, 'a'}, {0, 'a' + 2<<21}, {0, 0x4e00}, {0, 0x4e00 + 1<<21}, {0, 2 << 21}, {0, 0x301}, {0, 0x301 + 1<<21}, {0, 7}, {0, 7 + 1<<21},
		{0, 0x7f + 1<<21}, {0, 0xd800 + 1<<21}, {0, 0x110000}, {0, 0x110000 + 1<<21}, {0, 0x1fffff}, {0, 0x1fffff + 1<<21}, {0, 0x1fffff + 2<<21},
		// Marks that are none, at each place.
		{0, a, 'b'}, {0, a, 0x4e00}, {0, a, 7}, {0, a, 0x110301}, {0, a, 0x301 + 'b'<<21}, {0, a, 0x301 + 0x4e00<<21}, {0, a, 0x301 + 0x1fffff<<21},
		{0, a, 0x301 + 0x302<<21 + 'b'<<42}, {0, a, 0x301 + 0x302<<21 + 7<<42}, {0, b, 0x301 + 0x302<<21 + 0x1fffff<<42}, {0, b, 'b'},
		// Marks behind a 0, and above all marks.
		{0, a, 0x301 << 21}, {0, a, 0x301 << 42}, {0, a, 0x301<<21 + 0x301<<42}, {0, a, 0x301 + 0x301<<42}, {0, b, 0x301 << 21}, {0, b, 0x301 << 42},
		{0, a, 1 << 63}, {0, b, 0x301 + 1<<63}, {0, a, 0x301 + 0x302<<21 + 0x303<<42 + 1<<63}, {0, 0, 1 << 63}, {0, 1 << 21, 1 << 63},
		// Marks of what is not written.
		{0, 1 << 21, 0x301}, {0, 0, 0x301}, {0, 1 << 21, 0x301 << 21}, {0, 0, 0x301 << 42}, {1 << 52, 0, 0x301},
	} {
		if c, e := packed.Cell(w); c != (api.Cell{}) || e != api.ErrMalformed {
			t.Errorf("Cell(%x) = %v, %d", w, c, e)
		}
	}
}

// P5.1: all numbers as runes, of all widths, and as marks at each place, against the columns of layer 2.
func TestCellAll(t *testing.T) {
	check := func(w [3]uint64, want api.Cell, there bool) {
		errno := api.OK
		if !there {
			want, errno = api.Cell{}, api.ErrMalformed
		}
		if c, e := packed.Cell(w); c != want || e != errno {
			t.Fatalf("Cell(%x) = %v, %d, not %v, %d", w, c, e, want, errno)
		}
	}
	for r := rune(0); r < 1<<21; r++ {
		n, columns := uint64(r), width.Of(r)
		for w := range 5 {
			there := (w == 1 || w == 2) && w == columns || r == 0 && w < 2
			check([3]uint64{1 << 52, n + uint64(w)<<21, 0}, api.Cell{Rune: r, Width: w, Pen: bold}, there)
		}
		mark := columns == 0
		check([3]uint64{0, 'a' + 1<<21, n}, api.Cell{Rune: 'a', Width: 1, Marks: [3]rune{r}}, mark || r == 0)
		check([3]uint64{0, 'a' + 1<<21, 0x301 + n<<21}, api.Cell{Rune: 'a', Width: 1, Marks: [3]rune{0x301, r}}, mark || r == 0)
		check([3]uint64{0, 'a' + 1<<21, 0x301 + n<<42}, api.Cell{Rune: 'a', Width: 1, Marks: [3]rune{0x301, 0, r}}, r == 0)
		check([3]uint64{0, 'a' + 1<<21, 0x301 + 0x302<<21 + n<<42}, api.Cell{Rune: 'a', Width: 1, Marks: [3]rune{0x301, 0x302, r}}, mark || r == 0)
	}
}

// P5.1 and P5.4: words of cells of which up to two bits are others, so that they are those of a cell or of none.
func TestCellBits(t *testing.T) {
	for _, c := range valid {
		for i := range 192 {
			for j := range i + 1 {
				w := wordsOf(c)
				w[i/64] ^= 1 << (i % 64)
				checkCell(t, w)
				if j != i {
					w[j/64] ^= 1 << (j % 64)
					checkCell(t, w)
				}
			}
		}
	}
}

// checkPack checks Pack of one list, what Unpack, Valid and Count make of the runs, and that nothing else changes.
func checkPack(t *testing.T, l []api.Cell) {
	t.Helper()
	kept := slices.Clone(l)
	runs, e := packed.Pack(l)
	switch {
	case slices.ContainsFunc(l, func(c api.Cell) bool { return !cell.Valid(c) }):
		if len(runs) != 0 || e != api.ErrArg {
			t.Fatalf("Pack(%v) = %v, %d", l, runs, e)
		}
	case !slices.Equal(runs, runsOf(l)) || e != api.OK:
		t.Fatalf("Pack(%v) = %v, %d, not %v", l, runs, e, runsOf(l))
	default:
		if !packed.Valid(runs) || packed.Count(runs) != len(l) || len(runs) > len(l) {
			t.Fatalf("Pack(%v) = %v, Valid = %t, Count = %d", l, runs, packed.Valid(runs), packed.Count(runs))
		}
		if cells, e := packed.Unpack(runs); !slices.Equal(cells, l) || e != api.OK {
			t.Fatalf("Unpack(%v) = %v, %d, not %v", runs, cells, e, l)
		}
	}
	if !slices.Equal(l, kept) {
		t.Fatalf("%v became %v", kept, l)
	}
}

// P5.2 to P5.4: the document's examples.
func TestPackSome(t *testing.T) {
	a, e, w, s := [3]uint64{0, 97 + 1<<21}, [3]uint64{0, 1 << 21}, [3]uint64{0, 19968 + 1<<22}, [3]uint64{}
	for _, c := range []struct {
		l    []api.Cell
		runs []api.Run
	}{
		{nil, nil}, {[]api.Cell{}, []api.Run{}}, {[]api.Cell{right}, []api.Run{{Count: 1, Words: s}}},
		{[]api.Cell{letter, letter, empty, left, right}, []api.Run{{Count: 2, Words: a}, {Count: 1, Words: e}, {Count: 1, Words: w}, {Count: 1, Words: s}}},
		{[]api.Cell{letter, letter, empty}, []api.Run{{Count: 2, Words: a}, {Count: 1, Words: e}}},
		{[]api.Cell{letter, empty, letter}, []api.Run{{Count: 1, Words: a}, {Count: 1, Words: e}, {Count: 1, Words: a}}},
		{[]api.Cell{right, right, left, left}, []api.Run{{Count: 2, Words: s}, {Count: 2, Words: w}}},
	} {
		if runs, errno := packed.Pack(c.l); !slices.Equal(runs, c.runs) || errno != api.OK {
			t.Errorf("Pack(%v) = %v, %d, not %v", c.l, runs, errno, c.runs)
		}
		if l, errno := packed.Unpack(c.runs); !slices.Equal(l, c.l) || errno != api.OK {
			t.Errorf("Unpack(%v) = %v, %d, not %v", c.runs, l, errno, c.l)
		}
		if !packed.Valid(c.runs) || packed.Count(c.runs) != len(c.l) {
			t.Errorf("Valid(%v) = %t, Count = %d", c.runs, packed.Valid(c.runs), packed.Count(c.runs))
		}
	}
	runs, errno := packed.Join([]api.Run{{Count: 1, Words: a}, {Count: 1, Words: e}}, []api.Run{{Count: 2, Words: e}, {Count: 1, Words: a}})
	if want := []api.Run{{Count: 1, Words: a}, {Count: 3, Words: e}, {Count: 1, Words: a}}; !slices.Equal(runs, want) || errno != api.OK {
		t.Errorf("Join = %v, %d, not %v", runs, errno, want)
	}
	if packed.MaxCells != 100000 {
		t.Errorf("MaxCells = %d", packed.MaxCells)
	}
}

// P5.2 and P5.4: all lists of a few cells, some of which are none.
func TestPackLists(t *testing.T) {
	for _, l := range lists(4, valid) {
		checkPack(t, l)
	}
	for _, l := range lists(7, []api.Cell{letter, empty, thick}) {
		checkPack(t, l)
	}
	for _, l := range lists(3, append(slices.Clone(valid), invalid...)) {
		checkPack(t, l)
	}
}

// P5.2: every cell that is not valid, at each place of a list.
func TestPackInvalid(t *testing.T) {
	for _, c := range invalid {
		for at := range 20 {
			l := slices.Repeat([]api.Cell{letter, letter, left, right}, 5)
			l[at] = c
			checkPack(t, l)
		}
		for _, at := range []int{0, 1, 49999, 99998, 99999} {
			l := make([]api.Cell, packed.MaxCells)
			l[at] = c
			if runs, e := packed.Pack(l); len(runs) != 0 || e != api.ErrArg {
				t.Fatalf("Pack with %v at %d = %d runs, %d", c, at, len(runs), e)
			}
		}
	}
}

// P5.2: just as many cells as may be, and more; also such that each is a run of its own, and with what is no cell.
func TestPackLong(t *testing.T) {
	equal, other := slices.Repeat([]api.Cell{marked}, 100002), slices.Repeat([]api.Cell{letter, thick}, 50001)
	for _, l := range [][]api.Cell{equal, other} {
		for n := 99998; n <= 100000; n++ {
			runs, e := packed.Pack(l[:n])
			if !slices.Equal(runs, runsOf(l[:n])) || e != api.OK {
				t.Fatalf("Pack of %d cells = %d runs, %d", n, len(runs), e)
			}
			cells, e := packed.Unpack(runs)
			if !slices.Equal(cells, l[:n]) || e != api.OK || !packed.Valid(runs) || packed.Count(runs) != n {
				t.Fatalf("Unpack = %d cells, not %d, %d; Count = %d", len(cells), n, e, packed.Count(runs))
			}
		}
		for n := 100001; n <= 100002; n++ {
			for _, c := range append(slices.Clone(invalid), letter) {
				for _, at := range []int{0, n - 1} {
					long := slices.Clone(l[:n])
					long[at] = c
					if runs, e := packed.Pack(long); len(runs) != 0 || e != api.ErrLong {
						t.Fatalf("Pack of %d cells = %d runs, %d", n, len(runs), e)
					}
				}
			}
		}
	}
}

// Counts of runs: none, few, as many as may be, more, and such whose sum is out of range.
var counts = []int{
	1, 2, 49999, 50000, 50001, 99998, 99999, 100000, 100001, 1 << 31, 1 << 32, 1<<32 + 1, 1 << 62, math.MaxInt - 1, math.MaxInt,
	0, -1, -2, -99999, -100000, -1 << 32, 1 - 1<<32, -1 << 62, math.MinInt, math.MinInt + 1,
}

// someRuns returns runs of some counts, of two cells and of no cell.
func someRuns(counts []int) []api.Run {
	var l []api.Run
	for _, w := range [][3]uint64{{0, 'a' + 1<<21}, {0, 1 << 21}, {1 << 60, 1 << 21}} {
		for _, n := range counts {
			l = append(l, api.Run{Count: n, Words: w})
		}
	}
	return l
}

// checkRuns checks Valid, Count and Unpack of runs, Join of them with others, and that they stay as they were.
func checkRuns(t *testing.T, l []api.Run) {
	t.Helper()
	kept := slices.Clone(l)
	want := areRight(l)
	if packed.Valid(l) != want {
		t.Fatalf("Valid(%v) = %t", l, !want)
	}
	var cells []api.Cell
	errno := api.ErrMalformed
	if want {
		cells, errno = cellsOf(l), api.OK
	}
	if n := packed.Count(l); n != len(cells) {
		t.Fatalf("Count(%v) = %d, not %d", l, n, len(cells))
	}
	unpacked, e := packed.Unpack(l)
	if !slices.Equal(unpacked, cells) || e != errno {
		t.Fatalf("Unpack(%v) = %d cells, %d, not %d, %d", l, len(unpacked), e, len(cells), errno)
	}
	if want {
		if runs, e := packed.Pack(unpacked); !slices.Equal(runs, l) || e != api.OK {
			t.Fatalf("Pack(Unpack(%v)) = %v, %d", l, runs, e)
		}
	}
	if !want {
		checkMalformed(t, l)
	}
	if !slices.Equal(l, kept) {
		t.Fatalf("%v became %v", kept, l)
	}
}

// checkMalformed checks Join of runs that are not right with others, also with so many cells that both would be too long.
func checkMalformed(t *testing.T, l []api.Run) {
	t.Helper()
	for _, other := range [][]api.Run{nil, l, {{Count: 100000, Words: [3]uint64{0, 'x' + 1<<21}}}} {
		if runs, e := packed.Join(l, other); len(runs) != 0 || e != api.ErrMalformed {
			t.Fatalf("Join(%v, %v) = %v, %d", l, other, runs, e)
		}
		if runs, e := packed.Join(other, l); len(runs) != 0 || e != api.ErrMalformed {
			t.Fatalf("Join(%v, %v) = %v, %d", other, l, runs, e)
		}
	}
}

// P5.2 to P5.4: all lists of at most two runs of many counts, and of more runs of fewer counts.
func TestRuns(t *testing.T) {
	for _, l := range lists(2, someRuns(counts)) {
		checkRuns(t, l)
	}
	for _, l := range lists(3, someRuns([]int{1, 49999, 50000, 100000, 1 << 62, math.MaxInt, 0, -1, math.MinInt})) {
		checkRuns(t, l)
	}
	for _, l := range lists(5, someRuns([]int{1, 3})) {
		checkRuns(t, l)
	}
}

// P5.3: runs that are not right, by one reason alone, at each place.
func TestRunsNotRight(t *testing.T) {
	a, e, w, none := [3]uint64{0, 97 + 1<<21}, [3]uint64{0, 1 << 21}, [3]uint64{0, 0x4e00 + 1<<22}, [3]uint64{1, 1 << 21}
	good := []api.Run{{Count: 2, Words: a}, {Count: 1, Words: e}, {Count: 3, Words: w}, {Count: 1, Words: a}, {Count: 5, Words: e}}
	check := func(l []api.Run) {
		checkRuns(t, l)
		if areRight(l) {
			t.Fatalf("%v is right", l)
		}
	}
	for at := range good {
		for _, n := range counts {
			if n < 1 || n > 100000-12+good[at].Count {
				l := slices.Clone(good)
				l[at].Count = n
				check(l)
			}
		}
		for _, x := range [][3]uint64{none, {0, 'a'}, {0, 3 << 21}, {0, 97 + 1<<21, 'b'}, {0, 97 + 1<<21, 1 << 63}} {
			l := slices.Clone(good)
			l[at].Words = x
			check(l)
		}
		// The same words twice, with the same count and with another one, also those of no cell.
		check(slices.Insert(slices.Clone(good), at, good[at]))
		check(slices.Insert(slices.Clone(good), at, api.Run{Count: 7, Words: good[at].Words}))
		check(slices.Insert(slices.Clone(good), at, api.Run{Count: 1, Words: none}, api.Run{Count: 1, Words: none}))
		// Together just as many as may be, and one more.
		l := slices.Clone(good)
		l[at].Count += 100000 - 12
		checkRuns(t, l)
		if !packed.Valid(l) || packed.Count(l) != 100000 {
			t.Fatalf("Valid(%v) = %t, Count = %d", l, packed.Valid(l), packed.Count(l))
		}
		l[at].Count++
		check(l)
	}
}

// P5.3: counts whose sum is one that may be again, once it has left the range of ints.
func TestRunsOverflow(t *testing.T) {
	for _, l := range [][]int{
		{math.MaxInt, math.MaxInt, 2}, {math.MaxInt, math.MaxInt, 3}, {1 << 62, 1 << 62, 1 << 62, 1 << 62}, {1 << 62, 1 << 62, 1 << 62, 1 << 62, 5},
		{math.MaxInt, 1}, {1, math.MaxInt}, {100000, math.MaxInt}, {math.MaxInt, math.MaxInt}, {100000, math.MaxInt - 99999, math.MaxInt, 1, 1},
		{math.MaxInt, math.MinInt + 2}, {math.MinInt, math.MaxInt, 2}, {math.MinInt, math.MinInt}, {math.MinInt, math.MinInt, 1},
		{-1, 2}, {2, -1}, {100001, -1}, {-5, 100005}, {1 << 32, -1<<32 + 1}, {1, 1 << 32}, {100000, 1, -1}, {0, 1}, {1, 0}, {1, 0, 1},
	} {
		var runs []api.Run
		for i, n := range l {
			runs = append(runs, api.Run{Count: n, Words: [3]uint64{0, uint64('a' + i%2 + 1<<21)}})
		}
		checkRuns(t, runs)
		if packed.Valid(runs) {
			t.Errorf("Valid(%v) = true", runs)
		}
	}
}

// P5.3: as many runs as there may be cells, and one more.
func TestRunsMany(t *testing.T) {
	var l []api.Run
	for i := range 100001 {
		l = append(l, api.Run{Count: 1, Words: [3]uint64{0, uint64('a' + i%2 + 1<<21)}})
	}
	checkRuns(t, l[:100000])
	checkRuns(t, l)
	if packed.Count(l[:100000]) != 100000 || packed.Count(l) != 0 || !packed.Valid(l[:100000]) || packed.Valid(l) {
		t.Errorf("Count = %d, %d", packed.Count(l[:100000]), packed.Count(l))
	}
	for _, at := range []int{1, 50000, 99999, 100000} {
		if runs, e := packed.Join(l[:at], l[at:100000]); !slices.Equal(runs, l[:100000]) || e != api.OK {
			t.Fatalf("Join at %d = %d runs, %d", at, len(runs), e)
		}
		if runs, e := packed.Join(l[:at], l[at:]); len(runs) != 0 || e != api.ErrLong {
			t.Fatalf("Join at %d = %d runs, %d", at, len(runs), e)
		}
	}
}

// joined returns what Join returns of runs, as the document says.
func joined(a, b []api.Run) ([]api.Run, api.Errno) {
	if !areRight(a) || !areRight(b) {
		return nil, api.ErrMalformed
	}
	n := 0
	for _, r := range slices.Concat(a, b) {
		n += r.Count
	}
	if n > 100000 {
		return nil, api.ErrLong
	}
	return runsOf(append(cellsOf(a), cellsOf(b)...)), api.OK
}

// checkJoin checks Join of two lists of runs, and that they stay as they were.
func checkJoin(t *testing.T, a, b []api.Run) {
	t.Helper()
	keptA, keptB := slices.Clone(a), slices.Clone(b)
	want, errno := joined(a, b)
	runs, e := packed.Join(a, b)
	if !slices.Equal(runs, want) || e != errno {
		t.Fatalf("Join(%v, %v) = %v, %d, not %v, %d", a, b, runs, e, want, errno)
	}
	if !slices.Equal(a, keptA) || !slices.Equal(b, keptB) {
		t.Fatalf("%v, %v became %v, %v", keptA, keptB, a, b)
	}
}

// P5.3: all pairs of short lists of runs, some of which are not right, with few cells.
func TestJoin(t *testing.T) {
	l := lists(3, someRuns([]int{1, 3}))
	for _, a := range l {
		for _, b := range l {
			checkJoin(t, a, b)
		}
	}
}

// P5.3: runs that are together just as many cells as may be, and more, whether or not they become one run.
func TestJoinLong(t *testing.T) {
	l := lists(1, someRuns([]int{0, 1, 2, 49999, 50000, 50001, 99998, 99999, 100000, 100001, math.MaxInt, math.MinInt}))
	x, y, none := [3]uint64{0, 'a' + 1<<21}, [3]uint64{0, 1 << 21}, [3]uint64{0, 'a'}
	l = append(l,
		[]api.Run{{Count: 1, Words: x}, {Count: 99998, Words: y}}, []api.Run{{Count: 99998, Words: x}, {Count: 1, Words: y}},
		[]api.Run{{Count: 1, Words: x}, {Count: 99999, Words: y}}, []api.Run{{Count: 1, Words: x}, {Count: 100000, Words: y}},
		[]api.Run{{Count: 50000, Words: x}, {Count: 50000, Words: x}}, []api.Run{{Count: 1, Words: x}, {Count: 1, Words: none}},
		[]api.Run{{Count: 1, Words: y}, {Count: 1, Words: x}, {Count: 99997, Words: y}},
	)
	for _, a := range l {
		for _, b := range l {
			checkJoin(t, a, b)
		}
	}
}

// P5.4: the runs of two lists, one behind the other, are those of both joined.
func TestPackJoin(t *testing.T) {
	l := append(lists(3, []api.Cell{letter, thick, right, last}), slices.Repeat([]api.Cell{void}, 1000))
	for _, a := range l {
		for _, b := range l {
			p, _ := packed.Pack(a)
			q, _ := packed.Pack(b)
			want, _ := packed.Pack(slices.Concat(a, b))
			if runs, e := packed.Join(p, q); !slices.Equal(runs, want) || e != api.OK {
				t.Fatalf("Join(%v, %v) = %v, %d, not %v", p, q, runs, e, want)
			}
		}
	}
}

// P5.2 to P5.4: long lists with runs of all lengths, cut in two.
func TestRandom(t *testing.T) {
	random := rand.New(rand.NewSource(5))
	for range 300 {
		var l []api.Cell
		for range random.Intn(40) {
			l = append(l, slices.Repeat([]api.Cell{valid[random.Intn(len(valid))]}, random.Intn(50))...)
		}
		checkPack(t, l)
		at := random.Intn(len(l) + 1)
		p, _ := packed.Pack(l[:at])
		q, _ := packed.Pack(l[at:])
		checkRuns(t, p)
		checkJoin(t, p, q)
		if runs, e := packed.Join(p, q); !slices.Equal(runs, runsOf(l)) || e != api.OK {
			t.Fatalf("Join(%v, %v) = %v, %d", p, q, runs, e)
		}
	}
}

// spoil changes a list, and what is behind it in the same memory.
func spoil[T any](l []T, x T) {
	for i := range l {
		l[i] = x
	}
	_ = append(l, x)
	_ = append(l[:0], slices.Repeat([]T{x}, cap(l))...)
}

// P5.2 and the document's rules: what Pack and Unpack returned shares no memory with what was passed in, nor with what they return next.
func TestPackChanged(t *testing.T) {
	for _, l := range lists(3, []api.Cell{letter, empty, last}) {
		whole := append(slices.Clone(l), void, void)
		runs := append(runsOf(l), api.Run{Count: 9}, api.Run{Count: 9})
		kept, keptRuns := slices.Clone(whole), slices.Clone(runs)
		part, partRuns := whole[:len(l)], runs[:len(runs)-2]
		p, _ := packed.Pack(part)
		q, _ := packed.Pack(part)
		c, _ := packed.Unpack(partRuns)
		d, _ := packed.Unpack(partRuns)
		spoil(p, api.Run{Count: -7})
		spoil(c, marked)
		if !slices.Equal(whole, kept) || !slices.Equal(runs, keptRuns) {
			t.Fatalf("%v and %v became %v and %v", kept, keptRuns, whole, runs)
		}
		spoil(whole, thick)
		spoil(runs, api.Run{Count: -8})
		if !slices.Equal(q, runsOf(l)) || !slices.Equal(d, l) {
			t.Fatalf("Pack(%v) = %v and Unpack = %v after a change", l, q, d)
		}
	}
}

// P5.3 and the document's rules: the same of Join, also where runs become one, and where one list is empty, or both are the same.
func TestJoinChanged(t *testing.T) {
	l := lists(3, []api.Cell{letter, empty})
	for _, a := range l {
		for _, b := range l {
			wholeA := append(runsOf(a), api.Run{Count: 9}, api.Run{Count: 9})
			wholeB := append(runsOf(b), api.Run{Count: 9}, api.Run{Count: 9})
			keptA, keptB := slices.Clone(wholeA), slices.Clone(wholeB)
			partA, partB := wholeA[:len(wholeA)-2], wholeB[:len(wholeB)-2]
			first, _ := packed.Join(partA, partB)
			second, _ := packed.Join(partA, partB)
			twice, _ := packed.Join(partA, partA)
			spoil(first, api.Run{Count: -7})
			if !slices.Equal(wholeA, keptA) || !slices.Equal(wholeB, keptB) {
				t.Fatalf("%v and %v became %v and %v", keptA, keptB, wholeA, wholeB)
			}
			spoil(wholeA, api.Run{Count: -8})
			spoil(wholeB, api.Run{Count: -9})
			if !slices.Equal(second, runsOf(slices.Concat(a, b))) || !slices.Equal(twice, runsOf(slices.Concat(a, a))) {
				t.Fatalf("Join(%v, %v) = %v after a change, and %v", keptA, keptB, second, twice)
			}
		}
	}
}
