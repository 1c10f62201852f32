package params_test

import (
	"math"
	"math/big"
	"math/rand"
	"regexp"
	"slices"
	"strconv"
	"strings"
	"testing"

	"scrollback/api"
	"scrollback/params"
)

// How many parameters are kept, and the greatest one, as the document has them.
const (
	most     = 16
	greatest = 9999
)

// What may stand as a number, or as an index: what is a parameter, just outside, far outside, and such as becomes one by cutting.
var (
	numbers = []int{
		math.MinInt, math.MinInt + 1, -1 << 32, 1 - 1<<32, -10000, -9999, -3, -2, -1, 0, 1, 2, 7, 9, 10, 99, 100, 999, 1000, 9998, 9999,
		10000, 10001, 65535, 65536, 1<<31 - 1, 1<<32 - 1, 1 << 32, 1<<32 + 7, math.MaxInt - 1, math.MaxInt,
	}
	indices = []int{math.MinInt, math.MinInt + 1, -1 << 32, -17, -16, -3, -2, -1, 0, 1, 2, 3, 4, 14, 15, 16, 17, 255, 256, 1 << 32, 1<<32 + 1, 1 << 62, math.MaxInt}
)

// isParameters is the document's definition.
func isParameters(l []int) bool {
	for _, n := range l {
		if n != -1 && !(0 <= n && n <= greatest) {
			return false
		}
	}
	return len(l) <= most && !slices.Equal(l, []int{-1})
}

// saidBy returns the parameters that digits and semicolons say, of which each number is read whole before it is cut.
func saidBy(s string) []int {
	if s == "" {
		return nil
	}
	var l []int
	for _, digits := range strings.Split(s, ";") {
		n := -1
		if v, ok := new(big.Int).SetString(digits, 10); ok {
			n = greatest
			if v.Cmp(big.NewInt(greatest)) < 0 {
				n = int(v.Int64())
			}
		}
		l = append(l, n)
	}
	return l[:min(len(l), most)]
}

// written is how bytes look that say parameters.
var written = regexp.MustCompile(`\A[0-9;]*\z`)

// parseOf returns what Parse must return.
func parseOf(s string) ([]int, api.Errno) {
	if !written.MatchString(s) {
		return nil, api.ErrFormat
	}
	return saidBy(s), api.OK
}

// textOf returns what Text must return.
func textOf(l []int) (string, api.Errno) {
	if !isParameters(l) {
		return "", api.ErrArg
	}
	s := ""
	for i, n := range l {
		if i > 0 {
			s += ";"
		}
		if n >= 0 {
			s += strconv.Itoa(n)
		}
	}
	return s, api.OK
}

// times returns a list of so many equal numbers.
func times(count, n int) []int {
	return slices.Repeat([]int{n}, count)
}

// lists returns all lists of up to two of the numbers, such of about as many as are kept, and these with another number at each place.
func lists() [][]int {
	all := [][]int{nil, {}}
	for _, n := range numbers {
		all = append(all, []int{n})
		for _, m := range numbers {
			all = append(all, []int{n, m})
		}
	}
	for _, count := range []int{3, 4, 15, 16, 17, 18, 32, 33, 300} {
		for _, n := range []int{-1, 0, 7, 9999} {
			all = append(all, times(count, n))
		}
		for i := range count {
			for _, n := range numbers {
				l := times(count, -1)
				l[i] = n
				all = append(all, l)
			}
		}
	}
	return all
}

// checkParse checks what Parse returns, and whether a builder has the same.
func checkParse(t *testing.T, s string) {
	t.Helper()
	want, errno := parseOf(s)
	if l, e := params.Parse(s); !slices.Equal(l, want) || e != errno {
		t.Fatalf("Parse(%.60q), %d bytes: %v, %d, not %v, %d", s, len(s), l, e, want, errno)
	}
	if errno != api.OK {
		return
	}
	if b := builder(t, s); !slices.Equal(b.List(), want) {
		t.Fatalf("a builder with %.60q, %d bytes: %v, not %v", s, len(s), b.List(), want)
	}
}

// builder returns a builder to which digits and semicolons were added one by one.
func builder(t *testing.T, s string) *params.Builder {
	t.Helper()
	b := new(params.Builder)
	add(t, b, s)
	return b
}

// add adds digits and semicolons to a builder.
func add(t *testing.T, b *params.Builder, s string) {
	t.Helper()
	for i := range len(s) {
		if !b.Add(rune(s[i])) {
			t.Fatalf("Add(%q) is false, behind %.60q", s[i], s[:i])
		}
	}
}

// checkHas checks what a builder has that has some digits and semicolons.
func checkHas(t *testing.T, b *params.Builder, s string) {
	t.Helper()
	if l := b.List(); !slices.Equal(l, saidBy(s)) {
		t.Fatalf("a builder with %.60q, %d bytes: %v, not %v", s, len(s), l, saidBy(s))
	}
}

// each calls a function with all strings of up to so many of some parts.
func each(parts []string, most int, call func(string)) {
	level := []string{""}
	for n := 0; ; n++ {
		for _, s := range level {
			call(s)
		}
		if n == most {
			return
		}
		var next []string
		for _, s := range level {
			for _, p := range parts {
				next = append(next, s+p)
			}
		}
		level = next
	}
}

// P10.1 to P10.3: the document's examples.
func TestExamples(t *testing.T) {
	for _, c := range []struct {
		s     string
		want  []int
		errno api.Errno
	}{
		{"", nil, 0}, {"5", []int{5}, 0}, {"5;", []int{5, -1}, 0}, {";;", []int{-1, -1, -1}, 0}, {"007;12345", []int{7, 9999}, 0},
		{"5x", nil, api.ErrFormat}, {"-1", nil, api.ErrFormat},
	} {
		if l, e := params.Parse(c.s); !slices.Equal(l, c.want) || e != c.errno {
			t.Error(c.s, l, e)
		}
	}
	if l, e := params.Parse(strings.Repeat(";", 16) + "7"); len(l) != 16 || l[15] != -1 || e != api.OK {
		t.Error(l, e)
	}
	for _, c := range []struct {
		l     []int
		want  string
		errno api.Errno
	}{{[]int{5, -1, 0}, "5;;0", 0}, {nil, "", 0}, {[]int{-1}, "", api.ErrArg}, {[]int{-1, -1}, ";", 0}, {[]int{10000}, "", api.ErrArg}} {
		if s, e := params.Text(c.l); s != c.want || e != c.errno {
			t.Error(c.l, s, e)
		}
	}
	for i, want := range map[int]int{0: 5, 1: 9, 2: 9, -1: 9} {
		if n := params.Get([]int{5, -1}, i, 9); n != want {
			t.Error(i, n)
		}
	}
	for i, want := range []int{1, 7, 1} {
		if n := params.One([]int{0, 7, -1}, i); n != want {
			t.Error(i, n)
		}
	}
	if n := params.One(nil, 0); n != 1 {
		t.Error(n)
	}
}

// P10.3: the document's example of a builder, call by call.
func TestBuilderExample(t *testing.T) {
	var b params.Builder
	for i, c := range []struct {
		r    rune
		is   bool
		want []int
	}{{'4', true, []int{4}}, {'2', true, []int{42}}, {';', true, []int{42, -1}}, {'x', false, []int{42, -1}}} {
		if is := b.Add(c.r); is != c.is || !slices.Equal(b.List(), c.want) {
			t.Error(i, is, b.List())
		}
	}
	b.Reset()
	if len(b.List()) != 0 {
		t.Error(b.List())
	}
}

// P10.1: no numbers, missing ones alone and together with others, the bounds of the numbers, and of how many there are.
func TestValidSome(t *testing.T) {
	for _, c := range []struct {
		l    []int
		want bool
	}{
		{nil, true}, {[]int{}, true}, {[]int{0}, true}, {[]int{9999}, true}, {[]int{-1, -1}, true}, {[]int{-1, 5}, true}, {[]int{5, -1}, true}, {[]int{5, -1, 5}, true},
		{times(16, 0), true}, {times(16, -1), true}, {times(16, 9999), true}, {times(15, -1), true}, {[]int{0, 9999, -1, 1}, true},
		{[]int{-1}, false}, {[]int{-2}, false}, {[]int{10000}, false}, {[]int{-2, -1}, false}, {[]int{-1, -2}, false}, {[]int{0, 10000}, false}, {[]int{10000, 0}, false},
		{times(17, 0), false}, {times(17, -1), false}, {times(32, 1), false}, {append(times(15, 0), 10000), false}, {append(times(15, -1), -2), false},
		{append([]int{-2}, times(15, 1)...), false}, {append(times(16, 1), 10000), false}, {times(65536, 1), false}, {times(65537, 0), false},
	} {
		if params.Valid(c.l) != c.want {
			t.Errorf("Valid(%v) is %t", c.l, !c.want)
		}
	}
}

// P10.1 and P10.2: Valid and Text of all lists, against the document's definitions.
func TestLists(t *testing.T) {
	for _, l := range lists() {
		before := slices.Clone(l)
		if params.Valid(l) != isParameters(l) {
			t.Fatalf("Valid(%v) is %t", l, !isParameters(l))
		}
		want, errno := textOf(l)
		if s, e := params.Text(l); s != want || e != errno {
			t.Fatalf("Text(%v) = %q, %d, not %q, %d", l, s, e, want, errno)
		}
		if !slices.Equal(l, before) {
			t.Fatalf("%v became %v", before, l)
		}
	}
}

// P10.1: every number on each side of the bounds, alone and as the second one.
func TestNumbers(t *testing.T) {
	for n := -70000; n <= 140000; n++ {
		in := 0 <= n && n <= greatest
		if params.Valid([]int{n}) != in || params.Valid([]int{0, n}) != (in || n == -1) {
			t.Fatalf("%d: Valid is %t alone, %t as the second one", n, params.Valid([]int{n}), params.Valid([]int{0, n}))
		}
		l := []int{-1, n}
		get, one := params.Get(l, 1, -5), params.One(l, 1)
		if n < 0 && get != -5 || n >= 0 && get != n || n <= 0 && one != 1 || n > 0 && one != n {
			t.Fatalf("%d: Get is %d, One is %d", n, get, one)
		}
	}
}

// P10.1: an index below 0, the first one, the last one and one too many; numbers above, at and below 0.
func TestGetSome(t *testing.T) {
	l := []int{7, 0, -1, -2, math.MinInt, 10000, math.MaxInt, 3}
	for _, c := range []struct{ i, get, one int }{
		{-1, 42, 1}, {-8, 42, 1}, {0, 7, 7}, {1, 0, 1}, {2, 42, 1}, {3, 42, 1}, {4, 42, 1}, {5, 10000, 10000}, {6, math.MaxInt, math.MaxInt}, {7, 3, 3}, {8, 42, 1}, {9, 42, 1},
		{math.MinInt, 42, 1}, {math.MaxInt, 42, 1}, {1 << 32, 42, 1}, {-1 << 32, 42, 1},
	} {
		if n, one := params.Get(l, c.i, 42), params.One(l, c.i); n != c.get || one != c.one {
			t.Errorf("Get(%d) = %d, One(%d) = %d", c.i, n, c.i, one)
		}
	}
}

// P10.1: any numbers and any index, with any number for one that is not there; One is never below 1.
func TestGetAll(t *testing.T) {
	for _, l := range lists() {
		before := slices.Clone(l)
		for _, i := range indices {
			n := -1
			if 0 <= i && i < len(l) {
				n = l[i]
			}
			for _, other := range []int{math.MinInt, -2, -1, 0, 1, 5, 10000, math.MaxInt} {
				want := n
				if n < 0 {
					want = other
				}
				if got := params.Get(l, i, other); got != want {
					t.Fatalf("Get(%v, %d, %d) = %d, not %d", l, i, other, got, want)
				}
			}
			want := n
			if n <= 0 {
				want = 1
			}
			if got := params.One(l, i); got != want || got < 1 {
				t.Fatalf("One(%v, %d) = %d, not %d", l, i, got, want)
			}
		}
		if !slices.Equal(l, before) {
			t.Fatalf("%v became %v", before, l)
		}
	}
}

// P10.1: what is behind the end of a list in memory is not of the list.
func TestBehindTheEnd(t *testing.T) {
	l := []int{5, 6, 7, 10000}
	if n, one := params.Get(l[:2], 2, 9), params.One(l[:2], 2); n != 9 || one != 1 || !params.Valid(l[:3]) {
		t.Error(n, one, params.Valid(l[:3]))
	}
	if s, e := params.Text(l[:2]); s != "5;6" || e != api.OK {
		t.Error(s, e)
	}
	if !slices.Equal(l, []int{5, 6, 7, 10000}) {
		t.Error(l)
	}
}

// P10.2: no bytes; missing parameters alone and at each place; numbers around the greatest one, with leading zeros, and such as no int holds.
func TestParseSome(t *testing.T) {
	for _, c := range []struct {
		s    string
		want []int
	}{
		{"", nil}, {"0", []int{0}}, {"1", []int{1}}, {"9", []int{9}}, {"10", []int{10}}, {"0123", []int{123}}, {"4567", []int{4567}}, {"89", []int{89}},
		{";", []int{-1, -1}}, {";;", []int{-1, -1, -1}}, {";1", []int{-1, 1}}, {"1;", []int{1, -1}}, {"1;;2", []int{1, -1, 2}}, {";1;2", []int{-1, 1, 2}}, {"1;2;", []int{1, 2, -1}}, {";0;", []int{-1, 0, -1}},
		{"00", []int{0}}, {"000000000000000000000000000000", []int{0}}, {"0;00", []int{0, 0}}, {"01", []int{1}}, {"00000000000000000000000000000012", []int{12}},
		{"9998", []int{9998}}, {"9999", []int{9999}}, {"10000", []int{9999}}, {"10001", []int{9999}}, {"99990", []int{9999}}, {"09999", []int{9999}}, {"000000010000", []int{9999}}, {"1000", []int{1000}},
		{"32767", []int{9999}}, {"65536", []int{9999}}, {"65543", []int{9999}}, {"2147483648", []int{9999}}, {"4294967296", []int{9999}}, {"4294967303", []int{9999}},
		{"9223372036854775807", []int{9999}}, {"9223372036854775808", []int{9999}}, {"18446744073709551615", []int{9999}}, {"18446744073709551616", []int{9999}}, {"18446744073709551623", []int{9999}},
		{"10000000000000000000000000000000000000000", []int{9999}}, {"99999999999999999999;1", []int{9999, 1}}, {"1;99999999999999999999;2", []int{1, 9999, 2}},
		{"38;2;255;0;10", []int{38, 2, 255, 0, 10}}, {"1;2;3;4;5;6;7;8;9;10;11;12;13;14;15;16", []int{1, 2, 3, 4, 5, 6, 7, 8, 9, 10, 11, 12, 13, 14, 15, 16}},
		{"1;2;3;4;5;6;7;8;9;10;11;12;13;14;15;16;17", []int{1, 2, 3, 4, 5, 6, 7, 8, 9, 10, 11, 12, 13, 14, 15, 16}}, {"1;2;3;4;5;6;7;8;9;10;11;12;13;14;15;", []int{1, 2, 3, 4, 5, 6, 7, 8, 9, 10, 11, 12, 13, 14, 15, -1}},
	} {
		if l, e := params.Parse(c.s); !slices.Equal(l, c.want) || e != api.OK {
			t.Errorf("Parse(%q) = %v, %d, not %v", c.s, l, e, c.want)
		}
		checkParse(t, c.s)
	}
}

// P10.2 to P10.4: all strings of up to six bytes, of which some are neither digits nor semicolons.
func TestParseAll(t *testing.T) {
	each([]string{"0", "1", "9", ";", "-", " ", ":", "\x00"}, 6, func(s string) { checkParse(t, s) })
	each([]string{"0", "9", ";"}, 10, func(s string) { checkParse(t, s) })
}

// P10.2 to P10.4: every number up to 20 times the greatest one, with and without leading zeros, alone and behind another one.
func TestParseNumbers(t *testing.T) {
	for n := range 20 * (greatest + 1) {
		s := strconv.Itoa(n)
		want := min(n, greatest)
		for _, zeros := range []string{"", "0", "000"} {
			if l, e := params.Parse(zeros + s + ";" + zeros + s); !slices.Equal(l, []int{want, want}) || e != api.OK {
				t.Fatalf("Parse(%s%s;%s%s) = %v, %d", zeros, s, zeros, s, l, e)
			}
		}
	}
	for digits := 1; digits < 400; digits++ {
		for _, digit := range []string{"0", "1", "2", "5", "8", "9"} {
			checkParse(t, strings.Repeat(digit, digits))
			checkParse(t, "1"+strings.Repeat(digit, digits))
			checkParse(t, "7;"+strings.Repeat(digit, digits)+";0")
		}
	}
}

// P10.2 to P10.4: around as many semicolons as are kept, and very many, with digits before and behind the last one that is kept, also such as no int holds.
func TestManySemicolons(t *testing.T) {
	digits := []string{"", "0", "7", "007", "9999", "10000", "99999999999999999999", "00000000000000000000000000000000003"}
	for _, n := range []int{1, 2, 13, 14, 15, 16, 17, 18, 30, 31, 32, 33, 47, 48, 254, 255, 256, 257, 271, 272} {
		many := strings.Repeat(";", n)
		for _, a := range digits {
			for _, b := range digits {
				checkParse(t, a+many+b)
				for _, before := range []int{1, 14, 15, 16, 17} {
					checkParse(t, strings.Repeat(a+";", before)+many+b)
					checkParse(t, strings.Repeat(";", before)+a+many+b)
				}
			}
		}
	}
	for _, n := range []int{4096, 65534, 65535, 65536, 65537, 65551, 65552, 1 << 20} {
		many := strings.Repeat(";", n)
		checkParse(t, many)
		checkParse(t, "5"+many+"7")
		checkParse(t, strings.Repeat(";", 15)+"5"+many+"7")
		checkParse(t, many+"7x")
	}
	if l, e := params.Parse(strings.Repeat(";", 15) + "7"); len(l) != 16 || l[14] != -1 || l[15] != 7 || e != api.OK {
		t.Error(l, e)
	}
	if l, e := params.Parse(strings.Repeat("1;", 15) + "2;3"); !slices.Equal(l, append(times(15, 1), 2)) || e != api.OK {
		t.Error(l, e)
	}
	if l, e := params.Parse(strings.Repeat(";", 15) + ";7"); !slices.Equal(l, times(16, -1)) || e != api.OK {
		t.Error(l, e)
	}
	if l, e := params.Parse(strings.Repeat("1;", 65536+5) + "2"); !slices.Equal(l, times(16, 1)) || e != api.OK {
		t.Error(l, e)
	}
}

// P10.2: every other byte than digits and semicolons, and runes that look like these, at each place, also behind what is kept.
func TestParseErrors(t *testing.T) {
	var bad []string
	for i := range 256 {
		if c := byte(i); !(c >= '0' && c <= '9') && c != ';' {
			bad = append(bad, string([]byte{c}))
		}
	}
	bad = append(bad, "\u0663", "\uff11", "\uff1b", "\u037e", "\u0130", "\u033b", "\ufffd", "\U00010030", "\u00b2", "\xe2\x82", "\xc0\xb0", "\xf0\x80\x80\xbb", "+5", "-1", "-0", "0x5", "1_000", "1e3", "5.0", "1:2", "1,2")
	long := strings.Repeat("1;", 20)
	for _, good := range []string{"", "5", ";", "5;", ";5", "12;34", ";;", "10000", "99999999999999999999", long, long + "7", strings.Repeat(";", 15), strings.Repeat(";", 16), strings.Repeat(";", 40)} {
		for _, b := range bad {
			for i := range len(good) + 1 {
				s := good[:i] + b + good[i:]
				if l, e := params.Parse(s); len(l) != 0 || e != api.ErrFormat {
					t.Fatalf("Parse(%q) = %v, %d", s, l, e)
				}
			}
		}
	}
}

// P10.2: bytes that are cut out of longer ones are read alone.
func TestParsePart(t *testing.T) {
	s := "x12;345y"
	if l, e := params.Parse(s[1:7]); !slices.Equal(l, []int{12, 345}) || e != api.OK {
		t.Error(l, e)
	}
	if l, e := params.Parse(s[2:5]); !slices.Equal(l, []int{2, 3}) || e != api.OK {
		t.Error(l, e)
	}
}

// P10.2: the bytes of no numbers, of missing ones at each place, and numbers that are no parameters.
func TestTextSome(t *testing.T) {
	for _, c := range []struct {
		l     []int
		want  string
		errno api.Errno
	}{
		{nil, "", 0}, {[]int{}, "", 0}, {[]int{0}, "0", 0}, {[]int{9999}, "9999", 0}, {[]int{10}, "10", 0}, {[]int{1, 2}, "1;2", 0}, {[]int{38, 2, 255, 0, 10}, "38;2;255;0;10", 0},
		{[]int{-1, 1}, ";1", 0}, {[]int{1, -1}, "1;", 0}, {[]int{1, -1, 2}, "1;;2", 0}, {[]int{-1, -1}, ";", 0}, {[]int{-1, 0, -1}, ";0;", 0}, {[]int{-1, -1, -1}, ";;", 0},
		{times(16, -1), ";;;;;;;;;;;;;;;", 0}, {times(16, 1), "1;1;1;1;1;1;1;1;1;1;1;1;1;1;1;1", 0}, {append(times(15, -1), 9999), ";;;;;;;;;;;;;;;9999", 0},
		{[]int{-1}, "", api.ErrArg}, {[]int{-2}, "", api.ErrArg}, {[]int{10000}, "", api.ErrArg}, {[]int{1, -2}, "", api.ErrArg}, {[]int{10000, 1}, "", api.ErrArg},
		{times(17, 1), "", api.ErrArg}, {times(17, -1), "", api.ErrArg}, {append(times(15, 1), 10000), "", api.ErrArg}, {append(times(16, 1), 10000), "", api.ErrArg}, {times(100000, 1), "", api.ErrArg},
	} {
		if s, e := params.Text(c.l); s != c.want || e != c.errno {
			t.Errorf("Text(%v) = %q, %d, not %q, %d", c.l, s, e, c.want, c.errno)
		}
	}
}

// P10.3: a rune is a digit or a semicolon, or nothing is added, whatever the builder has.
func TestAddRunes(t *testing.T) {
	runes := []rune{math.MinInt32, math.MinInt32 + '0', math.MinInt32 + ';', math.MaxInt32, math.MaxInt32 - 1, 1<<24 + '0', 1<<30 + ';', 1<<31 - 256 + '9', -'0', -'9', -';', '/', ':', '<', ' ', 0x7f, 0xfffd}
	for r := rune(-70000); r < 140000; r++ {
		runes = append(runes, r)
	}
	for r := rune(0x10ff00); r < 0x110100; r++ {
		runes = append(runes, r)
	}
	for _, s := range []string{"", "5", ";", "12;", "0;9999", strings.Repeat(";", 15), strings.Repeat(";", 15) + "7", strings.Repeat(";", 16), strings.Repeat(";", 40) + "1"} {
		b, has, further := builder(t, s), saidBy(s), saidBy(s+"8;")
		for _, r := range runes {
			c := b.Copy()
			if '0' <= r && r <= '9' || r == ';' {
				add(t, c, string(r))
				checkHas(t, c, s+string(r))
				continue
			}
			if c.Add(r) || !slices.Equal(c.List(), has) {
				t.Fatalf("behind %q, Add(%d): %v", s, r, c.List())
			}
			add(t, c, "8;")
			if !slices.Equal(c.List(), further) {
				t.Fatalf("behind %q, Add(%d), 8 and a semicolon: %v", s, r, c.List())
			}
		}
		checkHas(t, b, s)
	}
}

// P10.3: a builder with nothing, with digits alone and with semicolons alone, asked after each of very many.
func TestAddOneByOne(t *testing.T) {
	var none params.Builder
	if len(none.List()) != 0 || none.Add('x') || len(none.List()) != 0 {
		t.Error(none.List())
	}
	for _, part := range []string{";", "1", "9", "0", "0;", ";0", "1;", ";1", "12345;", ";;3", "00000000000000000000000001;", "99999999999999999999;"} {
		b, s := new(params.Builder), ""
		for i := range 400 {
			c := part[i%len(part) : i%len(part)+1]
			add(t, b, c)
			s += c
			checkHas(t, b, s)
		}
	}
}

// P10.3: asking a builder again and again, or changing what it returned, leaves it as it is.
func TestListIsNew(t *testing.T) {
	for _, s := range []string{"", "5", ";", "5;;7", strings.Repeat("3;", 15), strings.Repeat("3;", 15) + "4", strings.Repeat("3;", 16), strings.Repeat("3;", 40)} {
		b := builder(t, s)
		first, second := b.List(), b.List()
		spoil(first)
		if !slices.Equal(second, saidBy(s)) {
			t.Fatalf("%q: changing a list changed another one: %v", s, second)
		}
		checkHas(t, b, s)
		kept := b.List()
		spoil(second)
		add(t, b, "6;2")
		checkHas(t, b, s+"6;2")
		b.Reset()
		add(t, b, "1;1;1;1")
		if !slices.Equal(kept, saidBy(s)) {
			t.Fatalf("%q: a builder that goes on changed a list: %v", s, kept)
		}
	}
}

// spoil changes a list, up to the end of its memory.
func spoil(l []int) {
	l = l[:cap(l)]
	for i := range l {
		l[i] = -77
	}
}

// P10.2: what Parse returned is new, each time.
func TestParseIsNew(t *testing.T) {
	for _, s := range []string{"", "5", "5;;7", strings.Repeat("3;", 40)} {
		first, _ := params.Parse(s)
		second, _ := params.Parse(s)
		spoil(first)
		third, _ := params.Parse(s)
		if !slices.Equal(second, saidBy(s)) || !slices.Equal(third, saidBy(s)) {
			t.Fatalf("%q: %v, %v", s, second, third)
		}
	}
}

// P10.3: whatever a builder had, after Reset it is as a new one, and goes on as one.
func TestReset(t *testing.T) {
	before := []string{"", "5", ";", "9999;9999", strings.Repeat("7;", 15) + "7", strings.Repeat("7;", 16), strings.Repeat("7;", 60) + "7"}
	after := []string{"", ";", "4", "4;", ";4", ";;;", strings.Repeat(";", 15), strings.Repeat(";", 16), strings.Repeat("8;", 20)}
	for _, s := range before {
		for _, next := range after {
			b := builder(t, s)
			b.Reset()
			checkHas(t, b, "")
			add(t, b, next)
			checkHas(t, b, next)
			b.Reset()
			b.Reset()
			checkHas(t, b, "")
		}
	}
}

// P10.3: a copy has the same; whatever is added to, or taken from, either of them, the other one goes on by itself, also a copy of the struct.
func TestCopy(t *testing.T) {
	parts := []string{"", "5", ";", "12;3", "0", ";;4", strings.Repeat("6;", 14), strings.Repeat("6;", 15) + "6", strings.Repeat(";", 16), strings.Repeat("6;", 30)}
	for _, s := range parts {
		for _, left := range parts {
			for _, right := range parts {
				b := builder(t, s)
				c := b.Copy()
				if c == nil || c == b {
					t.Fatal("the copy is none")
				}
				d := *b
				checkHas(t, c, s)
				add(t, b, left)
				add(t, c, right)
				checkHas(t, b, s+left)
				checkHas(t, c, s+right)
				checkHas(t, &d, s)
				b.Reset()
				checkHas(t, b, "")
				checkHas(t, c, s+right)
				e := c.Copy()
				c.Reset()
				add(t, b, right)
				checkHas(t, b, right)
				checkHas(t, c, "")
				checkHas(t, e, s+right)
			}
		}
	}
}

// P10.3: a nil builder, for every method; it stays nil, and is asked again.
func TestNil(t *testing.T) {
	var b *params.Builder
	for range 2 {
		for _, r := range []rune{'0', '5', '9', ';', 'x', -1, math.MinInt32, math.MaxInt32} {
			if b.Add(r) {
				t.Errorf("Add(%d)", r)
			}
		}
		if l := b.List(); len(l) != 0 {
			t.Error(l)
		}
		if b.Copy() != nil {
			t.Error("Copy")
		}
		b.Reset()
	}
}

// P10.3: scripts of up to five steps, against the digits and semicolons that a builder then has: it, and what was copied before.
func TestScripts(t *testing.T) {
	steps := []string{"1", "9", ";", "x", "many", "list", "reset", "copy", "swap"}
	n := len(steps)
	for script := range n * n * n * n * n {
		b, other := new(params.Builder), new(params.Builder)
		has, otherHas := "", ""
		for i := script; i > 0; i /= n {
			switch step := steps[i%n]; step {
			case "many":
				many := strings.Repeat("2;", 14)
				add(t, b, many)
				has += many
			case "list":
				spoil(b.List())
			case "reset":
				b.Reset()
				has = ""
			case "copy":
				other, otherHas = b.Copy(), has
			case "swap":
				b, has, other, otherHas = other, otherHas, b, has
			case "x":
				if b.Add('x') {
					t.Fatal("Add of x")
				}
			default:
				add(t, b, step)
				has += step
			}
		}
		checkHas(t, b, has)
		checkHas(t, other, otherHas)
	}
}

// checkConsequences checks P10.4 for bytes that say parameters.
func checkConsequences(t *testing.T, s string) {
	t.Helper()
	l, e := params.Parse(s)
	if e != api.OK || !params.Valid(l) {
		t.Fatalf("Parse(%q) = %v, %d, valid: %t", s, l, e, params.Valid(l))
	}
	x, e := params.Text(l)
	if e != api.OK || len(x) > len(s) {
		t.Fatalf("Text(%v) = %q, %d, of %q", l, x, e, s)
	}
	again, e := params.Parse(x)
	if e != api.OK || !slices.Equal(again, l) {
		t.Fatalf("%q says %v, but %q says %v, %d", s, l, x, again, e)
	}
	checkHas(t, builder(t, s), x)
	for i := range len(l) + 2 {
		if n := params.One(l, i); n < 1 {
			t.Fatalf("One(%v, %d) = %d", l, i, n)
		}
	}
}

// P10.4: Parse inverts Text, for all parameters.
func TestInverse(t *testing.T) {
	check := func(l []int) {
		t.Helper()
		s, e := params.Text(l)
		if e != api.OK {
			t.Fatalf("Text(%v): %d", l, e)
		}
		if got, e := params.Parse(s); !slices.Equal(got, l) || e != api.OK {
			t.Fatalf("Parse(%q) = %v, %d, not %v", s, got, e, l)
		}
		checkConsequences(t, s)
	}
	for n := range greatest + 1 {
		check([]int{n})
		check([]int{-1, n})
		check([]int{n, -1})
	}
	for _, l := range lists() {
		if isParameters(l) {
			check(l)
		}
	}
	random := rand.New(rand.NewSource(10))
	for range 20000 {
		l := make([]int, random.Intn(most+1))
		for i := range l {
			l[i] = random.Intn([]int{1, 2, 12, 10001}[random.Intn(4)]) - 1
		}
		if isParameters(l) {
			check(l)
		}
	}
}

// P10.4: what Parse returns is valid, Text of it says the same again, and a builder has it; all short bytes, and random ones.
func TestConsequences(t *testing.T) {
	each([]string{"0", "1", "9", ";"}, 7, func(s string) { checkConsequences(t, s) })
	random := rand.New(rand.NewSource(4))
	for range 20000 {
		b := make([]byte, random.Intn(120))
		for i := range b {
			b[i] = "0123456789;;;;0019"[random.Intn(18)]
		}
		checkConsequences(t, string(b))
	}
}

// P1: any bytes, numbers and runes; whatever comes, it is as the definitions say.
func TestAnything(t *testing.T) {
	random := rand.New(rand.NewSource(1))
	for range 20000 {
		b := make([]byte, random.Intn(40))
		for i := range b {
			b[i] = ";0123456789:/\x00\xb0\xff"[random.Intn(16)]
		}
		checkParse(t, string(b))
		l := make([]int, random.Intn(20))
		for i := range l {
			l[i] = numbers[random.Intn(len(numbers))]
		}
		want, errno := textOf(l)
		if s, e := params.Text(l); s != want || e != errno {
			t.Fatalf("Text(%v) = %q, %d", l, s, e)
		}
		builder, has := new(params.Builder), ""
		for range random.Intn(60) {
			r := rune(random.Uint32())
			if random.Intn(3) > 0 {
				r = rune('/' + random.Intn(14))
			}
			if builder.Add(r) {
				has += string(r)
			}
		}
		if !written.MatchString(has) {
			t.Fatalf("%q was added", has)
		}
		checkHas(t, builder, has)
	}
}
