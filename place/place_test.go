package place_test

import (
	"math"
	"math/big"
	"math/rand"
	"regexp"
	"slices"
	"strconv"
	"strings"
	"testing"

	"scrollback/api"
	"scrollback/place"
)

// The bounds, as the document has them.
const (
	lastLine   = 1 << 40
	lastColumn = 1000
)

// What may stand as the number of a line, of a column, or of columns: what is allowed, just outside, far outside, and such as becomes something allowed by cutting.
var (
	lines = []int{
		math.MinInt, math.MinInt + 1, -1 << 40, -1 << 32, -2, -1, 0, 1, 2, 3, 1000, 1<<32 - 1, 1 << 32, 1<<40 - 2, 1<<40 - 1, 1 << 40,
		1<<40 + 1, 1<<40 + 2, 1 << 41, 1 << 62, math.MaxInt - 1, math.MaxInt,
	}
	columns = []int{math.MinInt, 1 - 1<<32, -1000, -1, 0, 1, 2, 3, 4, 998, 999, 1000, 1001, 1002, 1<<32 + 1, 1<<40 + 4, math.MaxInt}
)

// at returns a place.
func at(line, column int) api.Place {
	return api.Place{Line: line, Column: column}
}

// places returns all places with such lines and columns, valid and not, each of them before the next one.
func places() []api.Place {
	var all []api.Place
	for _, l := range lines {
		for _, c := range columns {
			all = append(all, at(l, c))
		}
	}
	return all
}

// isValid, isBefore, isAllowed and isInside are the document's definitions.
func isValid(p api.Place) bool {
	return 0 <= p.Line && p.Line <= lastLine && 0 <= p.Column && p.Column <= lastColumn
}

func isBefore(a, b api.Place) bool {
	return a.Line < b.Line || a.Line == b.Line && a.Column < b.Column
}

func isAllowed(columns int) bool {
	return 1 <= columns && columns <= 1000
}

func isInside(p api.Place, columns int) bool {
	return isAllowed(columns) && isValid(p) && p.Column < columns
}

// clampOf returns what Clamp must return.
func clampOf(p api.Place, first, next, columns int) (api.Place, api.Errno) {
	if first < 0 || next <= first || next > lastLine+1 || !isAllowed(columns) {
		return api.Place{}, api.ErrArg
	}
	if p.Line < first {
		return at(first, 0), api.OK
	}
	if p.Line >= next {
		return at(next-1, columns-1), api.OK
	}
	if p.Column < 0 {
		return at(p.Line, 0), api.OK
	}
	if p.Column >= columns {
		return at(p.Line, columns-1), api.OK
	}
	return p, api.OK
}

// cellOf returns how many cells are before a place, as a number that is never cut.
func cellOf(p api.Place, columns int) *big.Int {
	n := new(big.Int).Mul(big.NewInt(int64(p.Line)), big.NewInt(int64(columns)))
	return n.Add(n, big.NewInt(int64(p.Column)))
}

// stepOf returns what Step must return.
func stepOf(p api.Place, n, columns int) (api.Place, api.Errno) {
	if !isInside(p, columns) {
		return api.Place{}, api.ErrArg
	}
	cell := cellOf(p, columns)
	cell.Add(cell, big.NewInt(int64(n)))
	if cell.Sign() < 0 || cell.Cmp(cellOf(at(lastLine, columns-1), columns)) > 0 {
		return api.Place{}, api.ErrRange
	}
	line, column := new(big.Int).DivMod(cell, big.NewInt(int64(columns)), new(big.Int))
	return at(int(line.Int64()), int(column.Int64())), api.OK
}

// distanceOf returns what Distance must return.
func distanceOf(a, b api.Place, columns int) (int, api.Errno) {
	if !isInside(a, columns) || !isInside(b, columns) {
		return 0, api.ErrArg
	}
	n := cellOf(b, columns)
	return int(n.Sub(n, cellOf(a, columns)).Int64()), api.OK
}

// written is how the texts of places look, but for the bounds.
var written = regexp.MustCompile(`\A(0|[1-9][0-9]*):(0|[1-9][0-9]*)\z`)

// parseOf returns what Parse must return.
func parseOf(s string) (api.Place, api.Errno) {
	parts := written.FindStringSubmatch(s)
	if parts == nil {
		return api.Place{}, api.ErrFormat
	}
	line, _ := new(big.Int).SetString(parts[1], 10)
	column, _ := new(big.Int).SetString(parts[2], 10)
	if line.Cmp(big.NewInt(lastLine)) > 0 || column.Cmp(big.NewInt(lastColumn)) > 0 {
		return api.Place{}, api.ErrFormat
	}
	return at(int(line.Int64()), int(column.Int64())), api.OK
}

// placeOf returns a valid place from a random source, with one of so many columns; lines come near, far, and at the end.
func placeOf(random *rand.Rand, columns int) api.Place {
	p := at(0, random.Intn(columns))
	switch random.Intn(3) {
	case 0:
		p.Line = random.Intn(5)
	case 1:
		p.Line = random.Intn(lastLine + 1)
	default:
		p.Line = lastLine - random.Intn(5)
	}
	return p
}

func checkClamp(t *testing.T, p api.Place, first, next, columns int) {
	t.Helper()
	want, errno := clampOf(p, first, next, columns)
	if q, e := place.Clamp(p, first, next, columns); q != want || e != errno {
		t.Fatalf("Clamp(%v, %d, %d, %d) = %v, %d, not %v, %d", p, first, next, columns, q, e, want, errno)
	}
}

func checkStep(t *testing.T, p api.Place, n, columns int) {
	t.Helper()
	want, errno := stepOf(p, n, columns)
	if q, e := place.Step(p, n, columns); q != want || e != errno {
		t.Fatalf("Step(%v, %d, %d) = %v, %d, not %v, %d", p, n, columns, q, e, want, errno)
	}
}

func checkDistance(t *testing.T, a, b api.Place, columns int) {
	t.Helper()
	want, errno := distanceOf(a, b, columns)
	if n, e := place.Distance(a, b, columns); n != want || e != errno {
		t.Fatalf("Distance(%v, %v, %d) = %d, %d, not %d, %d", a, b, columns, n, e, want, errno)
	}
}

func checkParse(t *testing.T, s string) {
	t.Helper()
	want, errno := parseOf(s)
	if p, e := place.Parse(s); p != want || e != errno {
		t.Fatalf("Parse(%q) = %v, %d, not %v, %d", s, p, e, want, errno)
	}
}

// P9.1: the bounds have the document's values, as constants that any type of number takes which has room for them.
func TestBounds(t *testing.T) {
	var line int64 = place.MaxLine
	var column int16 = place.MaxColumn
	if line != 1099511627776 || column != 1000 {
		t.Errorf("MaxLine = %d, MaxColumn = %d", line, column)
	}
}

// P9.1: what is just inside, just outside, and far outside of the bounds, on both sides of each part.
func TestValid(t *testing.T) {
	for _, c := range []struct {
		p    api.Place
		want bool
	}{
		{at(0, 0), true}, {at(lastLine, 0), true}, {at(0, lastColumn), true}, {at(lastLine, lastColumn), true}, {at(12, 345), true},
		{at(-1, 0), false}, {at(0, -1), false}, {at(-1, -1), false}, {at(lastLine+1, 0), false}, {at(0, lastColumn+1), false},
		{at(lastLine+1, lastColumn+1), false}, {at(lastLine, lastColumn+1), false}, {at(lastLine+1, lastColumn), false}, {at(-1, lastColumn), false}, {at(lastLine, -1), false},
	} {
		if place.Valid(c.p) != c.want {
			t.Errorf("Valid(%v) = %t", c.p, !c.want)
		}
	}
	count := 0
	for _, p := range places() {
		if place.Valid(p) != isValid(p) {
			t.Errorf("Valid(%v) = %t", p, !isValid(p))
		}
		if isValid(p) {
			count++
		}
	}
	// Ten lines, each with eight columns.
	if count != 80 {
		t.Errorf("%d valid places", count)
	}
}

// P9.1 to P9.4: the document's examples.
func TestExamples(t *testing.T) {
	if n := place.Compare(at(2, 5), at(2, 6)); n != -1 {
		t.Error(n)
	}
	if n := place.Compare(at(3, 0), at(2, 9)); n != 1 {
		t.Error(n)
	}
	if n := place.Compare(at(2, 5), at(2, 5)); n != 0 {
		t.Error(n)
	}
	if a, b := place.Order(at(3, 0), at(2, 9)); a != at(2, 9) || b != at(3, 0) {
		t.Error(a, b)
	}
	if !place.Within(at(2, 5), at(2, 5), at(2, 6)) || place.Within(at(2, 6), at(2, 5), at(2, 6)) {
		t.Error("Within")
	}
	for i, c := range []struct {
		p                    api.Place
		first, next, columns int
		want                 api.Place
		errno                api.Errno
	}{
		{at(1, 7), 2, 5, 4, at(2, 0), 0}, {at(3, 7), 2, 5, 4, at(3, 3), 0}, {at(5, 0), 2, 5, 4, at(4, 3), 0}, {at(3, -1), 2, 5, 4, at(3, 0), 0},
		{at(0, 0), 2, 2, 4, at(0, 0), api.ErrArg}, {at(0, 0), 0, 1, 0, at(0, 0), api.ErrArg},
	} {
		if p, e := place.Clamp(c.p, c.first, c.next, c.columns); p != c.want || e != c.errno {
			t.Error(i, p, e)
		}
	}
	for i, c := range []struct {
		p          api.Place
		n, columns int
		want       api.Place
		errno      api.Errno
	}{
		{at(2, 3), 1, 4, at(3, 0), 0}, {at(2, 3), -12, 4, at(0, 0), api.ErrRange}, {at(2, 3), 9, 4, at(5, 0), 0},
		{at(0, 0), -1, 4, at(0, 0), api.ErrRange}, {at(2, 4), 0, 4, at(0, 0), api.ErrArg}, {at(1<<40, 3), 1, 4, at(0, 0), api.ErrRange},
	} {
		if p, e := place.Step(c.p, c.n, c.columns); p != c.want || e != c.errno {
			t.Error(i, p, e)
		}
	}
	for _, c := range []struct {
		a, b api.Place
		want int
	}{{at(2, 3), at(3, 0), 1}, {at(3, 0), at(2, 3), -1}} {
		if n, e := place.Distance(c.a, c.b, 4); n != c.want || e != api.OK {
			t.Error(c, n, e)
		}
	}
	if s, e := place.Text(at(12, 0)); s != "12:0" || e != api.OK {
		t.Error(s, e)
	}
	if s, e := place.Text(at(-1, 0)); s != "" || e != api.ErrArg {
		t.Error(s, e)
	}
	if p, e := place.Parse("7:3"); p != at(7, 3) || e != api.OK {
		t.Error(p, e)
	}
	for _, s := range []string{"07:3", "7", "7:1001"} {
		if p, e := place.Parse(s); p != (api.Place{}) || e != api.ErrFormat {
			t.Error(s, p, e)
		}
	}
}

// P9.1: places that are equal, and that differ in the line, in the column, or in both, in the same or in opposite ways.
func TestCompareSome(t *testing.T) {
	for _, c := range []struct {
		a, b api.Place
		want int
	}{
		{at(0, 0), at(0, 0), 0}, {at(7, 3), at(7, 3), 0}, {at(lastLine, lastColumn), at(lastLine, lastColumn), 0}, {at(-1, 2000), at(-1, 2000), 0},
		{at(7, 3), at(8, 3), -1}, {at(7, 3), at(7, 4), -1}, {at(7, 3), at(8, 4), -1}, {at(7, 4), at(8, 3), -1}, {at(7, 1000), at(8, 0), -1},
		{at(0, 0), at(lastLine, lastColumn), -1}, {at(-1, 0), at(0, 0), -1}, {at(0, -1), at(0, 0), -1}, {at(-1, 2000), at(0, -2000), -1},
		{at(math.MinInt, 0), at(math.MaxInt, 0), -1}, {at(0, math.MinInt), at(0, math.MaxInt), -1}, {at(math.MinInt, math.MaxInt), at(math.MaxInt, math.MinInt), -1},
	} {
		if n := place.Compare(c.a, c.b); n != c.want {
			t.Errorf("Compare(%v, %v) = %d, not %d", c.a, c.b, n, c.want)
		}
		if n := place.Compare(c.b, c.a); n != -c.want {
			t.Errorf("Compare(%v, %v) = %d, not %d", c.b, c.a, n, -c.want)
		}
	}
}

// P9.1 and P9.5: every two places, valid or not, of a list in which each is before the next one; so Compare is the order of a list.
func TestCompareOrder(t *testing.T) {
	l := places()
	for i, a := range l {
		for k, b := range l {
			want := 0
			if i < k {
				want = -1
			} else if i > k {
				want = 1
			}
			if n := place.Compare(a, b); n != want {
				t.Fatalf("Compare(%v, %v) = %d, not %d", a, b, n, want)
			}
			if is := isBefore(a, b); is != (want < 0) {
				t.Fatalf("%v before %v: %t", a, b, is)
			}
			first, second := place.Order(a, b)
			if first != l[min(i, k)] || second != l[max(i, k)] {
				t.Fatalf("Order(%v, %v) = %v, %v", a, b, first, second)
			}
		}
	}
}

// P9.5: a list that is sorted by Compare, however it was before, is in the order of lines, and in each of columns.
func TestSort(t *testing.T) {
	random := rand.New(rand.NewSource(9))
	want := places()
	for range 20 {
		l := slices.Clone(want)
		random.Shuffle(len(l), func(i, j int) { l[i], l[j] = l[j], l[i] })
		slices.SortFunc(l, place.Compare)
		if !slices.Equal(l, want) {
			t.Fatalf("%v", l)
		}
	}
}

// P9.1: every three places of some; also between a place and itself, and between two in the wrong order, where nothing is.
func TestWithin(t *testing.T) {
	var l []api.Place
	for _, n := range []int{math.MinInt, -1, 0, 1, 2, lastLine, lastLine + 1, math.MaxInt} {
		for _, c := range []int{math.MinInt, -1, 0, 3, 1000, 1001, math.MaxInt} {
			l = append(l, at(n, c))
		}
	}
	for i, p := range l {
		for j, from := range l {
			for k, to := range l {
				if is := place.Within(p, from, to); is != (j <= i && i < k) {
					t.Fatalf("Within(%v, %v, %v) = %t", p, from, to, is)
				}
			}
		}
	}
	for _, c := range []struct {
		p, from, to api.Place
		want        bool
	}{
		{at(2, 5), at(2, 5), at(2, 5), false}, {at(2, 5), at(2, 6), at(2, 4), false}, {at(2, 5), at(2, 5), at(2, 4), false}, {at(2, 5), at(3, 0), at(2, 0), false},
		{at(2, 5), at(1, 9), at(3, 0), true}, {at(2, 5), at(2, 4), at(2, 5), false}, {at(2, 5), at(2, 6), at(3, 0), false}, {at(2, -5), at(1, 1001), at(2, 0), true},
	} {
		if is := place.Within(c.p, c.from, c.to); is != c.want {
			t.Errorf("Within(%v, %v, %v) = %t", c.p, c.from, c.to, is)
		}
	}
}

// P9.2: places before, among and behind the lines, with columns on all sides; one line, one column, and the last line of all.
func TestClampSome(t *testing.T) {
	for _, c := range []struct {
		p                    api.Place
		first, next, columns int
		want                 api.Place
	}{
		{at(2, 500), 3, 9, 80, at(3, 0)}, {at(2, -1), 3, 9, 80, at(3, 0)}, {at(math.MinInt, math.MaxInt), 3, 9, 80, at(3, 0)},
		{at(9, 0), 3, 9, 80, at(8, 79)}, {at(9, -1), 3, 9, 80, at(8, 79)}, {at(10, 79), 3, 9, 80, at(8, 79)}, {at(math.MaxInt, math.MinInt), 3, 9, 80, at(8, 79)},
		{at(3, 0), 3, 9, 80, at(3, 0)}, {at(8, 79), 3, 9, 80, at(8, 79)}, {at(5, 40), 3, 9, 80, at(5, 40)}, {at(5, 80), 3, 9, 80, at(5, 79)}, {at(5, -1), 3, 9, 80, at(5, 0)},
		{at(3, -1), 3, 9, 80, at(3, 0)}, {at(8, 80), 3, 9, 80, at(8, 79)}, {at(5, math.MinInt), 3, 9, 80, at(5, 0)}, {at(5, math.MaxInt), 3, 9, 80, at(5, 79)},
		{at(6, 3), 7, 8, 4, at(7, 0)}, {at(7, 3), 7, 8, 4, at(7, 3)}, {at(7, 4), 7, 8, 4, at(7, 3)}, {at(8, 0), 7, 8, 4, at(7, 3)},
		{at(6, 3), 7, 9, 1, at(7, 0)}, {at(7, 3), 7, 9, 1, at(7, 0)}, {at(8, -3), 7, 9, 1, at(8, 0)}, {at(9, 0), 7, 9, 1, at(8, 0)},
		{at(-1, 9), 0, 1, 1, at(0, 0)}, {at(0, 9), 0, 1, 1, at(0, 0)}, {at(1, 9), 0, 1, 1, at(0, 0)},
		{at(lastLine, 1000), 0, lastLine + 1, 1000, at(lastLine, 999)}, {at(lastLine+1, 0), 0, lastLine + 1, 1000, at(lastLine, 999)},
		{at(lastLine, 5), lastLine, lastLine + 1, 1000, at(lastLine, 5)}, {at(lastLine-1, 5), lastLine, lastLine + 1, 1000, at(lastLine, 0)}, {at(lastLine, 5), 0, lastLine, 1000, at(lastLine-1, 999)},
	} {
		if p, e := place.Clamp(c.p, c.first, c.next, c.columns); p != c.want || e != api.OK {
			t.Errorf("Clamp(%v, %d, %d, %d) = %v, %d, not %v", c.p, c.first, c.next, c.columns, p, e, c.want)
		}
	}
}

// P9.2: lines and numbers of columns that are not allowed, each of them alone.
func TestClampErrors(t *testing.T) {
	for _, c := range []struct{ first, next, columns int }{
		{-1, 9, 80}, {-1, 0, 80}, {-2, -1, 80}, {math.MinInt, 9, 80}, {math.MinInt, math.MaxInt, 80},
		{3, 3, 80}, {3, 2, 80}, {0, 0, 80}, {0, -1, 80}, {3, math.MinInt, 80}, {lastLine, lastLine, 80}, {lastLine + 1, lastLine + 1, 80},
		{0, lastLine + 2, 80}, {lastLine + 1, lastLine + 2, 80}, {lastLine, lastLine + 2, 80}, {3, math.MaxInt, 80}, {math.MaxInt - 1, math.MaxInt, 80}, {math.MaxInt, math.MinInt, 80},
		{3, 9, 0}, {3, 9, -1}, {3, 9, 1001}, {3, 9, math.MinInt}, {3, 9, math.MaxInt}, {3, 9, 1<<32 + 80}, {-1, 0, 0}, {3, 3, 1001},
	} {
		for _, p := range []api.Place{at(5, 5), at(2, 5), at(9, 5), at(0, 0), at(-1, -1), at(lastLine+1, 1001)} {
			if q, e := place.Clamp(p, c.first, c.next, c.columns); q != (api.Place{}) || e != api.ErrArg {
				t.Errorf("Clamp(%v, %d, %d, %d) = %v, %d", p, c.first, c.next, c.columns, q, e)
			}
		}
	}
}

// P9.2 and P9.5: any places, lines and numbers of columns together; what is one of the cells stays, and what is returned is one of them.
func TestClampAll(t *testing.T) {
	all := places()
	for _, first := range lines {
		for _, next := range lines {
			for _, n := range columns {
				for _, p := range all {
					checkClamp(t, p, first, next, n)
				}
			}
		}
	}
}

// P9.2 and P9.5: every cell of small ranges and what is around them: cells stay, others become cells, and no two of them change their order.
func TestClampSmall(t *testing.T) {
	var all []api.Place
	for line := -2; line <= 6; line++ {
		for column := -2; column <= 5; column++ {
			all = append(all, at(line, column))
		}
	}
	for first := range 4 {
		for next := first + 1; next <= 5; next++ {
			for n := 1; n <= 4; n++ {
				last := at(first, 0)
				for _, p := range all {
					q, e := place.Clamp(p, first, next, n)
					if e != api.OK || q.Line < first || q.Line >= next || q.Column < 0 || q.Column >= n {
						t.Fatalf("Clamp(%v, %d, %d, %d) = %v, %d", p, first, next, n, q, e)
					}
					cell := p.Line >= first && p.Line < next && p.Column >= 0 && p.Column < n
					if cell != (q == p) {
						t.Fatalf("Clamp(%v, %d, %d, %d) = %v", p, first, next, n, q)
					}
					// The places come in order, so that what they become must do so, too.
					if isBefore(q, last) {
						t.Fatalf("Clamp(%v, %d, %d, %d) = %v, which is before %v", p, first, next, n, q, last)
					}
					last = q
				}
			}
		}
	}
}

// P9.5: of two places, valid or not, the one that is not after the other one is not after it after Clamp.
func TestClampOrder(t *testing.T) {
	l := places()
	for _, c := range []struct{ first, next, columns int }{{0, 1, 1}, {0, 2, 3}, {1, 3, 1000}, {2, 1000, 4}, {0, lastLine + 1, 999}, {lastLine - 1, lastLine + 1, 2}, {lastLine, lastLine + 1, 1}} {
		for i, a := range l {
			for _, b := range l[i:] {
				p, e := place.Clamp(a, c.first, c.next, c.columns)
				q, f := place.Clamp(b, c.first, c.next, c.columns)
				if e != api.OK || f != api.OK || place.Compare(p, q) > 0 {
					t.Fatalf("Clamp(.., %v): %v becomes %v, %v becomes %v", c, a, p, b, q)
				}
			}
		}
	}
}

// P9.3: each cell is one behind the one that is before it, in its line or at the end of the line before; steps and distances count them.
func TestWalk(t *testing.T) {
	for _, n := range []int{1, 2, 3, 4, 7} {
		for _, first := range []int{0, 1, 5, 1 << 32, lastLine - 4} {
			var l []api.Place
			for line := first; line < first+5; line++ {
				for column := range n {
					l = append(l, at(line, column))
				}
			}
			for i, a := range l {
				for k, b := range l {
					if p, e := place.Step(a, k-i, n); p != b || e != api.OK {
						t.Fatalf("Step(%v, %d, %d) = %v, %d, not %v", a, k-i, n, p, e, b)
					}
					if d, e := place.Distance(a, b, n); d != k-i || e != api.OK {
						t.Fatalf("Distance(%v, %v, %d) = %d, %d, not %d", a, b, n, d, e, k-i)
					}
				}
			}
		}
	}
}

// P9.3: steps within a line, to the next one, over many, to the first and the last place of all, and one cell beyond them.
func TestStepSome(t *testing.T) {
	none := api.Place{}
	for _, c := range []struct {
		p          api.Place
		n, columns int
		want       api.Place
		errno      api.Errno
	}{
		{at(3, 4), 0, 80, at(3, 4), 0}, {at(3, 4), 75, 80, at(3, 79), 0}, {at(3, 4), 76, 80, at(4, 0), 0}, {at(3, 4), -4, 80, at(3, 0), 0}, {at(3, 4), -5, 80, at(2, 79), 0},
		{at(3, 4), 80, 80, at(4, 4), 0}, {at(3, 4), -80, 80, at(2, 4), 0}, {at(3, 4), 8000, 80, at(103, 4), 0}, {at(3, 4), -244, 80, at(0, 0), 0}, {at(3, 4), -245, 80, none, api.ErrRange},
		{at(3, 999), 1, 1000, at(4, 0), 0}, {at(4, 0), -1, 1000, at(3, 999), 0}, {at(3, 0), 9, 1, at(12, 0), 0}, {at(3, 0), -3, 1, at(0, 0), 0}, {at(3, 0), -4, 1, none, api.ErrRange},
		{at(0, 0), 0, 1, at(0, 0), 0}, {at(0, 0), -1, 1, none, api.ErrRange}, {at(0, 0), -1, 1000, none, api.ErrRange}, {at(0, 999), -999, 1000, at(0, 0), 0}, {at(0, 999), -1000, 1000, none, api.ErrRange},
		{at(0, 0), 1 << 40, 1, at(lastLine, 0), 0}, {at(0, 0), 1<<40 + 1, 1, none, api.ErrRange}, {at(lastLine, 0), -1 << 40, 1, at(0, 0), 0}, {at(lastLine, 0), -1<<40 - 1, 1, none, api.ErrRange},
		{at(0, 0), 1000<<40 + 999, 1000, at(lastLine, 999), 0}, {at(0, 0), 1000<<40 + 1000, 1000, none, api.ErrRange},
		{at(lastLine, 999), -1000<<40 - 999, 1000, at(0, 0), 0}, {at(lastLine, 999), -1000<<40 - 1000, 1000, none, api.ErrRange},
		{at(lastLine, 79), 0, 80, at(lastLine, 79), 0}, {at(lastLine, 79), 1, 80, none, api.ErrRange}, {at(lastLine, 78), 1, 80, at(lastLine, 79), 0}, {at(lastLine-1, 79), 81, 80, none, api.ErrRange},
		{at(0, 0), math.MaxInt, 80, none, api.ErrRange}, {at(0, 0), math.MinInt, 80, none, api.ErrRange}, {at(lastLine, 79), math.MaxInt, 80, none, api.ErrRange}, {at(lastLine, 79), math.MinInt, 80, none, api.ErrRange},
		{at(lastLine, 999), math.MinInt, 1000, none, api.ErrRange}, {at(lastLine, 999), math.MaxInt, 1000, none, api.ErrRange}, {at(0, 1), math.MaxInt, 1000, none, api.ErrRange}, {at(3, 4), 1 << 62, 80, none, api.ErrRange},
	} {
		if p, e := place.Step(c.p, c.n, c.columns); p != c.want || e != c.errno {
			t.Errorf("Step(%v, %d, %d) = %v, %d, not %v, %d", c.p, c.n, c.columns, p, e, c.want, c.errno)
		}
	}
}

// P9.3: distances of 0, 1 and -1, within a line, over many, and from the first place of all to the last one.
func TestDistanceSome(t *testing.T) {
	for _, c := range []struct {
		a, b          api.Place
		columns, want int
	}{
		{at(0, 0), at(0, 0), 1, 0}, {at(3, 4), at(3, 4), 80, 0}, {at(lastLine, 999), at(lastLine, 999), 1000, 0},
		{at(3, 4), at(3, 5), 80, 1}, {at(3, 79), at(4, 0), 80, 1}, {at(3, 0), at(4, 0), 1, 1}, {at(3, 4), at(3, 79), 80, 75}, {at(3, 4), at(4, 4), 80, 80}, {at(3, 4), at(13, 2), 80, 798},
		{at(0, 0), at(lastLine, 0), 1, 1 << 40}, {at(0, 0), at(lastLine, 79), 80, 80<<40 + 79}, {at(0, 0), at(lastLine, 999), 1000, 1000<<40 + 999}, {at(0, 999), at(lastLine, 0), 1000, 1000<<40 - 999},
	} {
		if n, e := place.Distance(c.a, c.b, c.columns); n != c.want || e != api.OK {
			t.Errorf("Distance(%v, %v, %d) = %d, %d, not %d", c.a, c.b, c.columns, n, e, c.want)
		}
		if n, e := place.Distance(c.b, c.a, c.columns); n != -c.want || e != api.OK {
			t.Errorf("Distance(%v, %v, %d) = %d, %d, not %d", c.b, c.a, c.columns, n, e, -c.want)
		}
	}
}

// P9.3: numbers of columns that are not allowed, places that are not valid, and columns that lines do not have, each alone; a step that leads too far is looked at behind all of them.
func TestStepErrors(t *testing.T) {
	for _, c := range []struct {
		p       api.Place
		columns int
	}{
		{at(3, 0), 0}, {at(3, 0), -1}, {at(3, 0), 1001}, {at(3, 0), math.MinInt}, {at(3, 0), math.MaxInt}, {at(3, 0), 1<<32 + 80}, {at(0, 0), 0}, {at(lastLine, 0), 1001},
		{at(-1, 0), 80}, {at(-1, 79), 80}, {at(0, -1), 80}, {at(3, -1), 80}, {at(lastLine+1, 0), 80}, {at(math.MinInt, 0), 80}, {at(math.MaxInt, 0), 80}, {at(3, math.MinInt), 80},
		{at(3, 80), 80}, {at(3, 81), 80}, {at(3, 1000), 80}, {at(3, 1001), 80}, {at(3, math.MaxInt), 80}, {at(3, 1), 1}, {at(3, 1000), 1000}, {at(3, 1001), 1000}, {at(3, 1000), 1001}, {at(-1, 80), 0},
	} {
		for _, n := range []int{0, 1, -1, 80, -80, math.MaxInt, math.MinInt} {
			if p, e := place.Step(c.p, n, c.columns); p != (api.Place{}) || e != api.ErrArg {
				t.Errorf("Step(%v, %d, %d) = %v, %d", c.p, n, c.columns, p, e)
			}
		}
		// As the first place, as the second one, and as both.
		for _, other := range []api.Place{at(0, 0), at(2, 0), c.p} {
			if n, e := place.Distance(c.p, other, c.columns); n != 0 || e != api.ErrArg {
				t.Errorf("Distance(%v, %v, %d) = %d, %d", c.p, other, c.columns, n, e)
			}
			if n, e := place.Distance(other, c.p, c.columns); n != 0 || e != api.ErrArg {
				t.Errorf("Distance(%v, %v, %d) = %d, %d", other, c.p, c.columns, n, e)
			}
		}
	}
}

// P9.3: any places and numbers of columns together, with steps that lead to both ends of all places, just beyond them, and far beyond them.
func TestStepAll(t *testing.T) {
	for _, p := range places() {
		for _, n := range columns {
			for _, step := range lines {
				checkStep(t, p, step, n)
			}
			if !isInside(p, n) {
				continue
			}
			back := -int(cellOf(p, n).Int64())
			further := int(cellOf(at(lastLine, n-1), n).Int64()) + back
			for d := -2; d <= 2; d++ {
				checkStep(t, p, back+d, n)
				checkStep(t, p, further+d, n)
			}
		}
	}
}

// P9.3 and P9.5: any two places with any number of columns; a step by the distance leads from the first one to the second one.
func TestDistanceAll(t *testing.T) {
	l := places()
	for _, n := range columns {
		for _, a := range l {
			for _, b := range l {
				checkDistance(t, a, b, n)
				if !isInside(a, n) || !isInside(b, n) {
					continue
				}
				d, _ := place.Distance(a, b, n)
				if p, e := place.Step(a, d, n); p != b || e != api.OK {
					t.Fatalf("Step(%v, %d, %d) = %v, %d, not %v", a, d, n, p, e, b)
				}
				if (d > 0) != isBefore(a, b) || (d < 0) != isBefore(b, a) {
					t.Fatalf("Distance(%v, %v, %d) = %d", a, b, n, d)
				}
			}
		}
	}
}

// P9.3 and P9.5: from any place over any other one to a third one: distances, and the steps by them, are added.
func TestStepsAdded(t *testing.T) {
	random := rand.New(rand.NewSource(10))
	for range 50000 {
		n := 1 + random.Intn(1000)
		if random.Intn(2) == 0 {
			n = 1 + random.Intn(4)
		}
		a, b, c := placeOf(random, n), placeOf(random, n), placeOf(random, n)
		x, e := place.Distance(a, b, n)
		y, f := place.Distance(b, c, n)
		if e != api.OK || f != api.OK {
			t.Fatalf("%v, %v, %v with %d columns: %d, %d", a, b, c, n, e, f)
		}
		checkDistance(t, a, b, n)
		p, e := place.Step(a, x, n)
		q, f := place.Step(p, y, n)
		r, g := place.Step(a, x+y, n)
		if p != b || q != c || r != c || e != api.OK || f != api.OK || g != api.OK {
			t.Fatalf("%v by %d and %d with %d columns: %v, then %v, or %v at once, not %v, then %v", a, x, y, n, p, q, r, b, c)
		}
	}
}

// P9.4: texts of the first and the last place of all, and of what is just outside.
func TestText(t *testing.T) {
	for _, c := range []struct {
		p    api.Place
		want string
	}{
		{at(0, 0), "0:0"}, {at(0, 1000), "0:1000"}, {at(lastLine, 0), "1099511627776:0"}, {at(lastLine, lastColumn), "1099511627776:1000"}, {at(10, 20), "10:20"}, {at(1000, 100), "1000:100"},
	} {
		if s, e := place.Text(c.p); s != c.want || e != api.OK {
			t.Errorf("Text(%v) = %q, %d, not %q", c.p, s, e, c.want)
		}
		if p, e := place.Parse(c.want); p != c.p || e != api.OK {
			t.Errorf("Parse(%q) = %v, %d, not %v", c.want, p, e, c.p)
		}
	}
	for _, p := range places() {
		want, errno := "", api.ErrArg
		if isValid(p) {
			want, errno = strconv.Itoa(p.Line)+":"+strconv.Itoa(p.Column), api.OK
		}
		if s, e := place.Text(p); s != want || e != errno {
			t.Errorf("Text(%v) = %q, %d, not %q, %d", p, s, e, want, errno)
		}
		// How it would be written, were it valid, is no text of it otherwise.
		checkParse(t, strconv.Itoa(p.Line)+":"+strconv.Itoa(p.Column))
	}
}

// P9.4: what is almost the text of a place.
func TestParseErrors(t *testing.T) {
	for _, s := range []string{
		"", ":", "::", "7", "73", "7:", ":3", "7:3:", ":7:3", "7::3", "7:3:1", "7:3:3", "07:3", "7:03", "00:3", "7:00", "000:0", "0:01", "0007:3", "7:0003",
		"+7:3", "7:+3", "-7:3", "7:-3", "-0:3", "7:-0", "+0:3", "7:+0", "--7:3", "+:3", "7:-", " 7:3", "7 :3", "7: 3", "7:3 ", "\t7:3", "7:3\n", "7:3\x00", "\x007:3",
		"7.0:3", "7:3.0", "7e1:3", "7:3e0", "0x7:3", "7:0x3", "0b1:1", "0o7:3", "1_0:3", "7:1_0", "1,0:3", "7;3", "7/3", "7-3", "7 3", "a:3", "7:a", "7f:3", "7:3f", "\xff:3", "7:\xff", "\u0667:3", "7:\u0663", "\uff17:3", "7\uff1a3",
		"7:1001", "7:1002", "7:10000", "1099511627777:0", "1099511627777:1000", "1099511627776:1001", "10995116277760:0", "7:4294967296", "7:4294967299", "7:18446744073709551619", "18446744073709551623:3",
		"9223372036854775807:0", "9223372036854775808:0", "18446744073709551616:0", "0:9223372036854775807", "0:9223372036854775808", "0:18446744073709551616", "-9223372036854775808:0", "-9223372036854775809:0",
		"99999999999999999999:0", "0:99999999999999999999", "99999999999999999999:99999999999999999999",
		strings.Repeat("9", 100000) + ":0", "0:" + strings.Repeat("9", 100000), "1" + strings.Repeat("0", 1000) + ":0", strings.Repeat("0", 1000) + ":0", "0:" + strings.Repeat("0", 1000), strings.Repeat("7:", 1000) + "3",
		strings.Repeat("7", 1000), strings.Repeat(":", 1000), "{7 3}", "(7:3)", "\"7:3\"", "NaN:0", "nil", "7:3:0:0",
	} {
		if p, e := place.Parse(s); p != (api.Place{}) || e != api.ErrFormat {
			t.Errorf("Parse(%q) = %v, %d", s, p, e)
		}
		checkParse(t, s)
	}
}

// P9.4: all short strings of some bytes, of which those that are texts lead to a place with just this text.
func TestParseShort(t *testing.T) {
	all, there := []string{""}, 0
	for from := 0; len(all[from]) < 6; from++ {
		for _, b := range "0127:+- _" {
			all = append(all, all[from]+string(b))
		}
	}
	for _, s := range all {
		checkParse(t, s)
		p, e := place.Parse(s)
		if e != api.OK {
			continue
		}
		there++
		if x, e := place.Text(p); x != s || e != api.OK {
			t.Fatalf("Text(Parse(%q)) = %q, %d", s, x, e)
		}
	}
	// With four digits: 1, or 3 times a power of 4, for each length of a number but 0; columns of four digits are 1000 at most.
	numbers := []int{4, 12, 48, 192}
	want := 0
	for line, a := range numbers {
		for column, b := range numbers {
			if line+column <= 3 && column <= 2 {
				want += a * b
			}
		}
	}
	want += numbers[0]
	if there != want {
		t.Errorf("%d texts, not %d", there, want)
	}
}

// P9.4: every byte instead of each one of a text, and between each two of them.
func TestParseBytes(t *testing.T) {
	for _, s := range []string{"7:3", "0:0", "10:20", "1099511627776:1000", "12:345"} {
		for i := range len(s) + 1 {
			for b := range 256 {
				c := string([]byte{byte(b)})
				checkParse(t, s[:i]+c+s[i:])
				if i < len(s) {
					checkParse(t, s[:i]+c+s[i+1:])
				}
			}
			if i < len(s) {
				checkParse(t, s[:i]+s[i+1:])
			}
			checkParse(t, s[:i])
			checkParse(t, s[i:])
		}
	}
}

// P9.4 and P9.5: Parse leads back from the text of each column, and of any line; no two places have the same text.
func TestTextParse(t *testing.T) {
	random := rand.New(rand.NewSource(11))
	seen := map[string]api.Place{}
	check := func(p api.Place) {
		s, e := place.Text(p)
		if q, ok := seen[s]; e != api.OK || ok && q != p {
			t.Fatalf("Text(%v) = %q, %d, which is the text of %v", p, s, e, q)
		}
		seen[s] = p
		if q, e := place.Parse(s); q != p || e != api.OK {
			t.Fatalf("Parse(%q) = %v, %d, not %v", s, q, e, p)
		}
	}
	for column := range lastColumn + 1 {
		check(at(0, column))
		check(at(lastLine, column))
		check(at(column, 7))
	}
	for range 50000 {
		check(at(random.Intn(1<<random.Intn(41)+1), random.Intn(lastColumn+1)))
	}
}
