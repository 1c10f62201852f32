package width_test

import (
	"math"
	"math/rand"
	"slices"
	"strconv"
	"strings"
	"testing"

	"scrollback/width"
)

// The ranges, as the document writes them.
const (
	marksText   = "300-36F, 483-489, 591-5BD, 610-61A, 64B-65F, 6D6-6DC, E31, E34-E3A, E47-E4E, 1AB0-1AFF, 1DC0-1DFF, 200B-200F, 20D0-20FF, 302A-302F, 3099-309A, FE00-FE0F, FE20-FE2F, E0100-E01EF"
	wideText    = "1100-115F, 2329-232A, 2E80-3029, 3030-303E, 3041-3098, 309B-33FF, 3400-4DBF, 4E00-A4CF, A960-A97F, AC00-D7A3, F900-FAFF, FE30-FE6F, FF00-FF60, FFE0-FFE6, 1F300-1F64F, 1F680-1F6FF, 1F900-1F9FF, 20000-2FFFD, 30000-3FFFD"
	unprintText = "0-1F, 7F-9F, D800-DFFF"
)

// rangesOf reads ranges as the document writes them.
func rangesOf(t *testing.T, text string) [][2]rune {
	t.Helper()
	var l [][2]rune
	for _, s := range strings.Split(text, ", ") {
		first, last, both := strings.Cut(s, "-")
		if !both {
			last = first
		}
		a, err1 := strconv.ParseInt(first, 16, 32)
		b, err2 := strconv.ParseInt(last, 16, 32)
		if err1 != nil || err2 != nil {
			t.Fatal(s)
		}
		l = append(l, [2]rune{rune(a), rune(b)})
	}
	return l
}

// columnsOf holds the columns of the numbers from 0 to 10FFFF, set range by range.
func columnsOf(t *testing.T) []int {
	t.Helper()
	l := slices.Repeat([]int{1}, 0x110000)
	set := func(text string, n int) {
		for _, p := range rangesOf(t, text) {
			for r := p[0]; r <= p[1]; r++ {
				l[r] = n
			}
		}
	}
	set(marksText, 0)
	set(wideText, 2)
	set(unprintText, -1)
	return l
}

// P2.1: every number from 0 to 10FFFF.
func TestOfAll(t *testing.T) {
	for r, want := range columnsOf(t) {
		if n := width.Of(rune(r)); n != want {
			t.Errorf("Of(%x) = %d, not %d", r, n, want)
		}
	}
}

// P2.1: numbers that are no runes.
func TestOfInvalid(t *testing.T) {
	check := func(r rune) {
		if n := width.Of(r); n != -1 {
			t.Errorf("Of(%x) = %d, not -1", r, n)
		}
	}
	for k := rune(1); k < 0x20000; k++ {
		check(-k)
		check(0x10ffff + k)
		check(math.MinInt32 + k - 1)
		check(math.MaxInt32 - k + 1)
	}
	for r := rune(0xd800); r <= 0xdfff; r++ {
		check(r)
		// No range that is looked up is as it is below 0.
		check(-r)
	}
}

// P2.1: both ends of each range of both tables, and the numbers next to them.
func TestOfEnds(t *testing.T) {
	within := func(l [][2]rune, r rune) bool {
		return slices.ContainsFunc(l, func(p [2]rune) bool { return p[0] <= r && r <= p[1] })
	}
	marks, wide := rangesOf(t, marksText), rangesOf(t, wideText)
	for _, p := range slices.Concat(marks, wide) {
		for _, r := range []rune{p[0] - 1, p[0], p[0] + 1, p[1] - 1, p[1], p[1] + 1} {
			want := 1
			switch {
			case within(marks, r):
				want = 0
			case within(wide, r):
				want = 2
			}
			if n := width.Of(r); n != want {
				t.Errorf("Of(%x) = %d, not %d", r, n, want)
			}
		}
	}
}

// P2.1: the ends of what is not printed, and the document's examples.
func TestOfSome(t *testing.T) {
	for _, c := range []struct {
		r    rune
		want int
	}{
		{-1, -1}, {0, -1}, {0x1f, -1}, {0x20, 1}, {0x41, 1}, {0x7e, 1}, {0x7f, -1}, {0x80, -1}, {0x9f, -1}, {0xa0, 1},
		{0x301, 0}, {0x4e00, 2}, {0x1f600, 2}, {0xfffd, 1}, {0xd7ff, 1}, {0xd800, -1}, {0xdfff, -1}, {0xe000, 1},
		{0x302a, 0}, {0x3029, 2}, {0x3030, 2}, {0x303f, 1}, {0x200b, 0}, {0x2fffe, 1}, {0x10ffff, 1}, {0x110000, -1},
	} {
		if n := width.Of(c.r); n != c.want {
			t.Errorf("Of(%x) = %d, not %d", c.r, n, c.want)
		}
	}
}

// P2.2: the tables, in their order.
func TestTables(t *testing.T) {
	if l, want := width.Marks(), rangesOf(t, marksText); !slices.Equal(l, want) {
		t.Errorf("Marks() = %x, not %x", l, want)
	}
	if l, want := width.Wide(), rangesOf(t, wideText); !slices.Equal(l, want) {
		t.Errorf("Wide() = %x, not %x", l, want)
	}
}

// P2.2 and the document's rules: what was returned may be changed, and shares nothing with what is returned next.
func TestTablesChanged(t *testing.T) {
	for name, c := range map[string]struct {
		table   func() [][2]rune
		text    string
		columns int
	}{
		"Marks": {width.Marks, marksText, 0},
		"Wide":  {width.Wide, wideText, 2},
	} {
		want := rangesOf(t, c.text)
		first, second := c.table(), c.table()
		for i := range first {
			first[i] = [2]rune{0x41, 0x5a}
		}
		_ = append(first[:0], [2]rune{0x61, 0x7a})
		for _, l := range [][][2]rune{second, c.table()} {
			if !slices.Equal(l, want) {
				t.Errorf("%s() = %x after a change, not %x", name, l, want)
			}
		}
		for _, p := range want {
			if a, b := width.Of(p[0]), width.Of(p[1]); a != c.columns || b != c.columns {
				t.Errorf("%s: Of(%x) = %d, Of(%x) = %d after a change, not %d", name, p[0], a, p[1], b, c.columns)
			}
		}
	}
}

// P2.3: the document's examples, and lists that are just as wide as a number of columns, narrower and wider.
func TestTextFits(t *testing.T) {
	some := []rune{0x61, 0x301, 0x4e00, 0x62}
	for _, c := range []struct {
		l                   []rune
		columns, text, fits int
	}{
		{nil, -1, 0, 0}, {nil, 0, 0, 0}, {nil, 9, 0, 0},
		{[]rune{}, -1, 0, 0}, {[]rune{}, 0, 0, 0}, {[]rune{}, 9, 0, 0},
		{[]rune{0x61, 0x301, 0x4e00, 7}, 3, 3, 4},
		{some, 0, 4, 0}, {some, 1, 4, 2}, {some, 2, 4, 2}, {some, 3, 4, 3}, {some, 4, 4, 4}, {some, 5, 4, 4},
		{[]rune{0x4e00}, 0, 2, 0}, {[]rune{0x4e00}, 1, 2, 0}, {[]rune{0x4e00}, 2, 2, 1}, {[]rune{0x4e00}, 3, 2, 1},
		{[]rune{0x301}, -1, 0, 0}, {[]rune{0x301}, 0, 0, 1}, {[]rune{7}, -1, 0, 0}, {[]rune{7}, 0, 0, 1},
		// A mark, and what is not printed, behind the last rune that fits.
		{[]rune{0x61, 0x301, 0x302, 0x62}, 1, 2, 3}, {[]rune{0x4e00, 0x301, 0x4e00}, 2, 4, 2},
		{[]rune{0x61, 0x1b, -1, 0xd800, 0x110000, 0x62}, 1, 2, 5}, {[]rune{0x61, 0x301}, 1, 1, 2},
		// What comes behind one that does not fit does not count, even if it would.
		{[]rune{0x4e00, 0x61, 0x301}, 1, 3, 0}, {[]rune{0x61, 0x4e00, 0x62}, 2, 4, 1},
		{[]rune{0x61, 0x4e00, 0x301}, 2, 3, 1},
		// The numbers of columns that are as great or small as an int can be.
		{some, math.MaxInt, 4, 4}, {some, math.MaxInt - 1, 4, 4}, {some, math.MinInt, 4, 0}, {some, math.MinInt + 1, 4, 0},
		{[]rune{0x4e00}, math.MinInt, 2, 0}, {[]rune{0x4e00}, math.MinInt + 1, 2, 0}, {[]rune{0x301}, math.MinInt, 0, 0},
		{[]rune{math.MinInt32, math.MaxInt32}, 0, 0, 2},
	} {
		if n := width.Text(c.l); n != c.text {
			t.Errorf("Text(%x) = %d, not %d", c.l, n, c.text)
		}
		if n := width.Fits(c.l, c.columns); n != c.fits {
			t.Errorf("Fits(%x, %d) = %d, not %d", c.l, c.columns, n, c.fits)
		}
	}
}

// P2.3: one rune of every number is as wide as it is alone, 0 if it is not printed.
func TestTextOne(t *testing.T) {
	for r, want := range columnsOf(t) {
		want = max(want, 0)
		l := []rune{rune(r)}
		if n := width.Text(l); n != want {
			t.Errorf("Text(%x) = %d, not %d", l, n, want)
		}
		if n := width.Fits(l, want); n != 1 {
			t.Errorf("Fits(%x, %d) = %d, not 1", l, want, n)
		}
		if n := width.Fits(l, want-1); n != 0 {
			t.Errorf("Fits(%x, %d) = %d, not 0", l, want-1, n)
		}
	}
}

// lists returns all lists of at most so many runes of each number of columns, with some that are no runes.
func lists(length int) [][]rune {
	all := [][]rune{nil}
	for from, n := 0, 0; n < length; n++ {
		to := len(all)
		for _, l := range all[from:to] {
			for _, r := range []rune{0x61, 0x301, 0x4e00, 0x1b, -1} {
				all = append(all, append(slices.Clone(l), r))
			}
		}
		from = to
	}
	return all
}

// columnsOfList returns the sum of the columns of runes of those lists.
func columnsOfList(l []rune) int {
	n := 0
	for _, r := range l {
		switch r {
		case 0x61:
			n++
		case 0x4e00:
			n += 2
		}
	}
	return n
}

// P2.3: all lists of a few runes, at all numbers of columns around theirs, against the definitions.
func TestTextFitsAll(t *testing.T) {
	for _, l := range lists(5) {
		if n, want := width.Text(l), columnsOfList(l); n != want {
			t.Fatalf("Text(%x) = %d, not %d", l, n, want)
		}
		for columns := -3; columns <= 2*len(l)+2; columns++ {
			want := 0
			for n := 1; n <= len(l); n++ {
				if columns >= 0 && columnsOfList(l[:n]) <= columns {
					want = n
				}
			}
			if n := width.Fits(l, columns); n != want {
				t.Fatalf("Fits(%x, %d) = %d, not %d", l, columns, n, want)
			}
		}
	}
}

// P2.4: the ranges of both tables are in increasing order, and no rune is in two of them.
func TestTablesOrder(t *testing.T) {
	increasing := func(l [][2]rune) {
		for i, p := range l {
			if p[0] > p[1] || i > 0 && l[i-1][1] >= p[0] {
				t.Errorf("%x is not in order in %x", p, l)
			}
		}
	}
	increasing(width.Marks())
	increasing(width.Wide())
	both := slices.Concat(width.Marks(), width.Wide())
	slices.SortFunc(both, func(p, q [2]rune) int { return int(p[0] - q[0]) })
	increasing(both)
}

// listOf returns a list of numbers of all kinds, of runes and of others.
func listOf(random *rand.Rand) []rune {
	l := make([]rune, random.Intn(40))
	ends := slices.Concat(width.Marks(), width.Wide())
	for i := range l {
		switch random.Intn(4) {
		case 0:
			l[i] = rune(random.Intn(0x120)) - 0x10
		case 1:
			l[i] = rune(random.Intn(0x110000))
		case 2:
			l[i] = ends[random.Intn(len(ends))][random.Intn(2)] + rune(random.Intn(3)) - 1
		case 3:
			l[i] = rune(random.Uint32())
		}
	}
	return l
}

// P2.4: the columns of two lists, and what Fits counts, with one rune more, and for a greater number.
func TestConsequences(t *testing.T) {
	random := rand.New(rand.NewSource(2))
	for range 5000 {
		a, b := listOf(random), listOf(random)
		l := slices.Concat(a, b)
		if n, want := width.Text(l), width.Text(a)+width.Text(b); n != want {
			t.Fatalf("Text(%x) = %d, not %d", l, n, want)
		}
		before := 0
		for columns := -2; columns <= 2*len(l)+1; columns++ {
			n := width.Fits(l, columns)
			if n < before || n > len(l) {
				t.Fatalf("Fits(%x, %d) = %d behind %d", l, columns, n, before)
			}
			before = n
			if columns < 0 {
				if n != 0 {
					t.Fatalf("Fits(%x, %d) = %d, not 0", l, columns, n)
				}
				continue
			}
			if width.Text(l[:n]) > columns || n < len(l) && width.Text(l[:n+1]) <= columns {
				t.Fatalf("Fits(%x, %d) = %d", l, columns, n)
			}
		}
	}
}

// The document's rules: arguments are not modified, and equal calls have equal results.
func TestArguments(t *testing.T) {
	random := rand.New(rand.NewSource(3))
	for range 1000 {
		whole := listOf(random)
		kept := slices.Clone(whole)
		// A part, so that what is behind it in the same memory is looked at, too.
		l := whole[:len(whole)/2]
		text, fits := width.Text(l), width.Fits(l, len(l))
		if !slices.Equal(whole, kept) {
			t.Fatalf("%x became %x", kept, whole)
		}
		if n, k := width.Text(l), width.Fits(l, len(l)); n != text || k != fits {
			t.Fatalf("%x: %d and %d, before %d and %d", l, n, k, text, fits)
		}
	}
}
