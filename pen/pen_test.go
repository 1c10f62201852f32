package pen_test

import (
	"math"
	"math/rand"
	"slices"
	"strings"
	"testing"

	"scrollback/api"
	"scrollback/pen"
)

// The flags and their words, as the document writes them.
var (
	flags = []api.Flags{1, 2, 4, 8, 16, 32, 64, 128}
	words = strings.Split("bold, faint, italic, underline, blink, inverse, hidden, struck", ", ")
)

// greatest is the greatest word of a pen: with all flags, and with both colors of the greatest parts.
const greatest = 0xff<<52 + (1<<25+0xffffff)<<26 + (1<<25 + 0xffffff)

// isColor, isFlag, bitsOf and wordOf are the document's definitions.
func isColor(c api.Color) bool {
	switch c.Kind {
	case 0:
		return c.Index == 0 && c.R == 0 && c.G == 0 && c.B == 0
	case 1:
		return c.R == 0 && c.G == 0 && c.B == 0
	case 2:
		return c.Index == 0
	}
	return false
}

func isFlag(f api.Flags) bool {
	return slices.Contains(flags, f)
}

func bitsOf(c api.Color) uint64 {
	switch c.Kind {
	case 1:
		return 1<<24 + uint64(c.Index)
	case 2:
		return 1<<25 + 65536*uint64(c.R) + 256*uint64(c.G) + uint64(c.B)
	}
	return 0
}

func wordOf(p api.Pen) uint64 {
	return bitsOf(p.Fore) + 1<<26*bitsOf(p.Back) + 1<<52*uint64(p.Flags)
}

// colors returns colors, and what is none, of many kinds, with all other parts out of a few.
func colors() []api.Color {
	var l []api.Color
	kinds := []api.ColorKind{
		0, 1, 2, 3, 4, 5, 6, -1, -2, 255, 256, 257, 258, 1 << 16, 1<<16 + 1,
		math.MinInt, math.MinInt + 1, math.MinInt + 2, math.MaxInt, math.MaxInt - 1, math.MinInt32, math.MaxInt32,
	}
	parts := []uint8{0, 1, 255}
	for _, kind := range kinds {
		for i := range 81 {
			l = append(l, api.Color{Kind: kind, Index: parts[i%3], R: parts[i/3%3], G: parts[i/9%3], B: parts[i/27]})
		}
	}
	return l
}

// penOf returns a pen whose parts come from a random source, and whose colors are valid.
func penOf(random *rand.Rand) api.Pen {
	color := func() api.Color {
		n := random.Uint32()
		switch random.Intn(3) {
		case 0:
			return api.Color{Kind: api.ColorIndex, Index: uint8(n)}
		case 1:
			return api.Color{Kind: api.ColorTrue, R: uint8(n), G: uint8(n >> 8), B: uint8(n >> 16)}
		}
		return api.Color{}
	}
	return api.Pen{Fore: color(), Back: color(), Flags: api.Flags(random.Uint32())}
}

// P3.1: colors and what is none, each of them alone.
func TestValidColor(t *testing.T) {
	count := 0
	for _, c := range colors() {
		if pen.ValidColor(c) != isColor(c) {
			t.Errorf("ValidColor(%v) = %t", c, !isColor(c))
		}
		if isColor(c) {
			count++
		}
	}
	// One default color, three of 256, and 27 by their parts.
	if count != 31 {
		t.Errorf("%d colors", count)
	}
	for _, c := range []struct {
		c    api.Color
		want bool
	}{
		{api.Color{}, true}, {api.Color{B: 1}, false}, {api.Color{Index: 255}, false}, {api.Color{Kind: 3}, false},
		{api.Color{Kind: 1, Index: 7}, true}, {api.Color{Kind: 1, R: 1}, false}, {api.Color{Kind: 2, Index: 1}, false},
		{api.Color{Kind: 2, R: 255, G: 255, B: 255}, true}, {api.Color{Kind: 2}, true}, {api.Color{Kind: 1}, true},
	} {
		if pen.ValidColor(c.c) != c.want {
			t.Errorf("ValidColor(%v) = %t", c.c, !c.want)
		}
	}
}

// P3.1 and P3.3: every two colors, and what is none on one side or on both; whatever the flags are.
func TestValidPack(t *testing.T) {
	l := colors()
	for _, fore := range l {
		for i, back := range l {
			p := api.Pen{Fore: fore, Back: back, Flags: api.Flags(i)}
			want := isColor(fore) && isColor(back)
			if pen.Valid(p) != want {
				t.Fatalf("Valid(%v) = %t", p, !want)
			}
			w, e := pen.Pack(p)
			if !want && (w != 0 || e != api.ErrArg) {
				t.Fatalf("Pack(%v) = %x, %d", p, w, e)
			}
			if !want {
				continue
			}
			if w != wordOf(p) || e != api.OK {
				t.Fatalf("Pack(%v) = %x, %d, not %x", p, w, e, wordOf(p))
			}
			if q, e := pen.Unpack(w); q != p || e != api.OK {
				t.Fatalf("Unpack(%x) = %v, %d, not %v", w, q, e, p)
			}
		}
	}
}

// P3.1: all flags that a pen may have.
func TestValidFlags(t *testing.T) {
	for f := range 256 {
		p := api.Pen{Flags: api.Flags(f)}
		if !pen.Valid(p) {
			t.Errorf("Valid(%v) = false", p)
		}
		p.Back.G = 1
		if pen.Valid(p) {
			t.Errorf("Valid(%v) = true", p)
		}
	}
}

// P3.1: all of 256 colors, and colors by all values of each part.
func TestIndexTrue(t *testing.T) {
	for i := range 256 {
		n := uint8(i)
		for _, c := range []struct{ c, want api.Color }{
			{pen.Index(n), api.Color{Kind: api.ColorIndex, Index: n}},
			{pen.True(n, 0, 0), api.Color{Kind: api.ColorTrue, R: n}},
			{pen.True(0, n, 0), api.Color{Kind: api.ColorTrue, G: n}},
			{pen.True(0, 0, n), api.Color{Kind: api.ColorTrue, B: n}},
			{pen.True(n, 255-n, n^0x55), api.Color{Kind: api.ColorTrue, R: n, G: 255 - n, B: n ^ 0x55}},
		} {
			if c.c != c.want || !pen.ValidColor(c.c) {
				t.Errorf("%v, not %v", c.c, c.want)
			}
		}
	}
}

// P3.2: every number of eight bits in pens with all flags there may be, also in what is no pen.
func TestHas(t *testing.T) {
	for _, fore := range []api.Color{{}, pen.Index(255), pen.True(1, 2, 3), {R: 1}, {Kind: 3}, {Kind: math.MinInt}} {
		for n := range 1 << 16 {
			p := api.Pen{Fore: fore, Back: fore, Flags: api.Flags(n)}
			f := api.Flags(n >> 8)
			if want := isFlag(f) && p.Flags&f == f; pen.Has(p, f) != want {
				t.Fatalf("Has(%v, %d) = %t", p, f, !want)
			}
		}
	}
}

// P3.2: every number of eight bits given to, and taken from, pens with all flags there may be.
func TestWith(t *testing.T) {
	for _, p := range []api.Pen{
		{}, {Fore: pen.Index(0), Back: pen.True(0, 255, 1)}, {Fore: pen.True(255, 255, 255), Back: pen.Index(255)},
	} {
		for n := range 1 << 17 {
			p.Flags = api.Flags(n)
			f, on := api.Flags(n>>8), n>>16 == 1
			want, errno := p, api.OK
			switch {
			case !isFlag(f):
				want, errno = api.Pen{}, api.ErrArg
			case on:
				want.Flags |= f
			default:
				want.Flags &= 255 - f
			}
			if q, e := pen.With(p, f, on); q != want || e != errno {
				t.Fatalf("With(%v, %d, %t) = %v, %d, not %v, %d", p, f, on, q, e, want, errno)
			}
		}
	}
}

// P3.2: what is no pen, by one color or by both, with what is a flag and with what is none.
func TestWithNoPen(t *testing.T) {
	for _, c := range colors() {
		if isColor(c) {
			continue
		}
		for _, p := range []api.Pen{{Fore: c}, {Back: c}, {Fore: c, Back: c}, {Fore: pen.Index(1), Back: c, Flags: 255}} {
			for _, f := range []api.Flags{0, 1, 3, 128, 255} {
				for _, on := range []bool{false, true} {
					if q, e := pen.With(p, f, on); q != (api.Pen{}) || e != api.ErrArg {
						t.Fatalf("With(%v, %d, %t) = %v, %d", p, f, on, q, e)
					}
				}
			}
		}
	}
}

// P3.3: the document's examples, and words at the ends of what pens have.
func TestPackSome(t *testing.T) {
	for _, c := range []struct {
		p api.Pen
		w uint64
	}{
		{api.Pen{}, 0},
		{api.Pen{Fore: pen.Index(7)}, 1<<24 + 7},
		{api.Pen{Back: pen.True(1, 2, 3), Flags: api.FlagBold}, 1<<26*(1<<25+65536+512+3) + 1<<52},
		{api.Pen{Fore: pen.Index(0)}, 1 << 24}, {api.Pen{Fore: pen.Index(255)}, 1<<24 + 255},
		{api.Pen{Fore: pen.True(0, 0, 0)}, 1 << 25}, {api.Pen{Fore: pen.True(255, 255, 255)}, 1<<26 - 1<<24 - 1},
		{api.Pen{Fore: pen.True(255, 0, 0)}, 1<<25 + 0xff0000}, {api.Pen{Fore: pen.True(0, 0, 255)}, 1<<25 + 0xff},
		{api.Pen{Back: pen.Index(0)}, 1 << 50}, {api.Pen{Back: pen.Index(255)}, 1<<50 + 255<<26},
		{api.Pen{Back: pen.True(0, 0, 0)}, 1 << 51}, {api.Pen{Back: pen.True(0, 255, 0)}, 1<<51 + 0xff00<<26},
		{api.Pen{Flags: api.FlagBold}, 1 << 52}, {api.Pen{Flags: api.FlagStruck}, 1 << 59}, {api.Pen{Flags: 255}, 255 << 52},
		{api.Pen{Fore: pen.True(255, 255, 255), Back: pen.True(255, 255, 255), Flags: 255}, greatest},
	} {
		if w, e := pen.Pack(c.p); w != c.w || e != api.OK {
			t.Errorf("Pack(%v) = %x, %d, not %x", c.p, w, e, c.w)
		}
		if p, e := pen.Unpack(c.w); p != c.p || e != api.OK {
			t.Errorf("Unpack(%x) = %v, %d, not %v", c.w, p, e, c.p)
		}
	}
}

// P3.3: words of no pen, up to the greatest number.
func TestUnpackMalformed(t *testing.T) {
	check := func(w uint64) {
		if p, e := pen.Unpack(w); p != (api.Pen{}) || e != api.ErrMalformed {
			t.Errorf("Unpack(%x) = %v, %d", w, p, e)
		}
	}
	for _, b := range []uint64{1, 7, 255, 256, 1 << 23, 1<<24 - 1, 1<<24 + 256, 1<<24 + 1<<16, 1<<25 - 1, 3 << 24, 3<<24 + 7, 1<<26 - 1} {
		// Such bits as one color, as the other, and as both.
		check(b)
		check(b << 26)
		check(b<<26 + b)
		check(b<<26 + 1<<24 + 7 + 255<<52)
		check(1<<50 + b + 255<<52)
	}
	for k := range 4 {
		for _, w := range []uint64{0, 1<<24 + 7, 1 << 25, 1 << 50, 255 << 52, greatest} {
			check(1<<(60+k) + w)
		}
	}
	for k := range uint64(1 << 10) {
		check(greatest + 1 + k)
		check(1<<60 + k)
		check(math.MaxUint64 - k)
	}
}

// P3.3: the bits of all kinds, in front and behind, with what is a color beside them.
func TestUnpackAll(t *testing.T) {
	check := func(w uint64, want api.Pen, valid bool) {
		errno := api.OK
		if !valid {
			want, errno = api.Pen{}, api.ErrMalformed
		}
		if p, e := pen.Unpack(w); p != want || e != errno {
			t.Fatalf("Unpack(%x) = %v, %d, not %v, %d", w, p, e, want, errno)
		}
	}
	for n := range uint64(1 << 22) {
		// Of the bits 16 to 23 the upper four are as the lower ones, which leaves few enough numbers.
		b := n&0xffff + n>>16&15*0x110000 + n>>20<<24
		c, valid := api.Color{}, b == 0
		switch b >> 24 {
		case 1:
			c, valid = api.Color{Kind: 1, Index: uint8(b)}, b-1<<24 < 256
		case 2:
			c, valid = api.Color{Kind: 2, R: uint8(b >> 16), G: uint8(b >> 8), B: uint8(b)}, true
		}
		check(b, api.Pen{Fore: c}, valid)
		check(1<<52+b<<26+1<<24+9, api.Pen{Fore: api.Color{Kind: 1, Index: 9}, Back: c, Flags: 1}, valid)
	}
}

// P3.4: every number of eight bits.
func TestWord(t *testing.T) {
	for n := range 256 {
		f := api.Flags(n)
		want, errno := "", api.ErrArg
		if i := slices.Index(flags, f); i >= 0 {
			want, errno = words[i], api.OK
		}
		if s, e := pen.Word(f); s != want || e != errno {
			t.Errorf("Word(%d) = %q, %d, not %q, %d", f, s, e, want, errno)
		}
	}
}

// P3.4: the words of the flags, and what is as good as one.
func TestByWord(t *testing.T) {
	check := func(s string, want api.Flags, errno api.Errno) {
		if f, e := pen.ByWord(s); f != want || e != errno {
			t.Errorf("ByWord(%q) = %d, %d, not %d, %d", s, f, e, want, errno)
		}
	}
	check("", 0, api.ErrFormat)
	for i, s := range words {
		check(s, flags[i], api.OK)
		for n := range len(s) {
			// One letter is missing, is a capital one, is there twice, or is another one.
			check(s[:n]+s[n+1:], 0, api.ErrFormat)
			check(s[:n]+strings.ToUpper(s[n:n+1])+s[n+1:], 0, api.ErrFormat)
			check(s[:n+1]+s[n:], 0, api.ErrFormat)
			check(s[:n]+"\xff"+s[n+1:], 0, api.ErrFormat)
			check(s[:n], 0, api.ErrFormat)
		}
		for _, x := range []string{strings.ToUpper(s), s + " ", " " + s, s + "\x00", s + "ed", s + "," + s, s + s, "not " + s} {
			check(x, 0, api.ErrFormat)
		}
	}
	for _, s := range []string{"flag", "0", "1", "FlagBold", "reverse", "dim", "bold, faint", "bold faint"} {
		check(s, 0, api.ErrFormat)
	}
}

// P3.4: all flags, in order, also after what was returned has been changed.
func TestAll(t *testing.T) {
	want := []api.Flags{
		api.FlagBold, api.FlagFaint, api.FlagItalic, api.FlagUnderline,
		api.FlagBlink, api.FlagInverse, api.FlagHidden, api.FlagStruck,
	}
	first, second := pen.All(), pen.All()
	if !slices.Equal(first, want) || !slices.Equal(want, flags) {
		t.Errorf("All() = %d, not %d", first, want)
	}
	clear(first)
	_ = append(first[:0], slices.Repeat([]api.Flags{255}, cap(first))...)
	for _, l := range [][]api.Flags{second, pen.All()} {
		if !slices.Equal(l, want) {
			t.Errorf("All() = %d after a change, not %d", l, want)
		}
	}
	for i, f := range want {
		if s, e := pen.Word(f); s != words[i] || e != api.OK {
			t.Errorf("Word(%d) = %q, %d after a change", f, s, e)
		}
	}
}

// P3.4: a word leads back to its flag, and a flag to its word.
func TestWordByWord(t *testing.T) {
	for _, f := range pen.All() {
		s, _ := pen.Word(f)
		if g, e := pen.ByWord(s); g != f || e != api.OK {
			t.Errorf("ByWord(%q) = %d, %d, not %d", s, g, e, f)
		}
	}
}

// P3.5: words of any pens are below 2^60, lead back to them, and are different for different pens.
func TestPackUnpack(t *testing.T) {
	random := rand.New(rand.NewSource(3))
	seen := map[uint64]api.Pen{}
	for range 100000 {
		p := penOf(random)
		w, e := pen.Pack(p)
		if e != api.OK || w >= 1<<60 || (w == 0) != (p == api.Pen{}) {
			t.Fatalf("Pack(%v) = %x, %d", p, w, e)
		}
		if q, e := pen.Unpack(w); q != p || e != api.OK {
			t.Fatalf("Unpack(%x) = %v, %d, not %v", w, q, e, p)
		}
		if q, ok := seen[w]; ok && q != p {
			t.Fatalf("Pack(%v) = Pack(%v) = %x", p, q, w)
		}
		seen[w] = p
	}
}

// P3.5: as far as there is a pen with a word, Pack leads back to the word.
func TestUnpackPack(t *testing.T) {
	random := rand.New(rand.NewSource(4))
	there := 0
	for range 300000 {
		// A word of a pen of which some bits are others then, so that both kinds come.
		w := wordOf(penOf(random))
		for range random.Intn(3) {
			w ^= 1 << random.Intn(64)
		}
		p, e := pen.Unpack(w)
		if e != api.OK {
			if p != (api.Pen{}) || e != api.ErrMalformed {
				t.Fatalf("Unpack(%x) = %v, %d", w, p, e)
			}
			continue
		}
		there++
		if v, e := pen.Pack(p); v != w || e != api.OK || !pen.Valid(p) {
			t.Fatalf("Pack(Unpack(%x)) = %x, %d", w, v, e)
		}
	}
	if there < 100000 {
		t.Errorf("only %d pens", there)
	}
}

// P3.5: a pen has the flags that it was given at last, in whichever order.
func TestWithOrder(t *testing.T) {
	random := rand.New(rand.NewSource(5))
	for set := range 256 {
		first := penOf(random)
		want := first
		want.Flags = api.Flags(set)
		for range 20 {
			p := first
			l := append(pen.All(), pen.All()...)
			random.Shuffle(len(l), func(i, j int) { l[i], l[j] = l[j], l[i] })
			for _, f := range l {
				q, e := pen.With(p, f, want.Flags&f != 0)
				if e != api.OK || pen.Has(q, f) != (want.Flags&f != 0) {
					t.Fatalf("With(%v, %d, %t) = %v, %d", p, f, want.Flags&f != 0, q, e)
				}
				p = q
			}
			if p != want {
				t.Fatalf("%v by %d, not %v", p, l, want)
			}
		}
	}
}
