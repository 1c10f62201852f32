package utf_test

import (
	"bytes"
	"math/rand"
	"slices"
	"testing"
	"unicode/utf8"

	"scrollback/utf"
)

// isRune and bytesOf are the document's definitions of a rune and of its bytes.
func isRune(r rune) bool {
	return r >= 0 && r <= 0x10ffff && !(r >= 0xd800 && r <= 0xdfff)
}

func bytesOf(r rune) []byte {
	further := func(shift int) byte { return byte(0x80 + r>>shift&0x3f) }
	switch {
	case r < 0x80:
		return []byte{byte(r)}
	case r < 0x800:
		return []byte{byte(0xc0 + r>>6), further(0)}
	case r < 0x10000:
		return []byte{byte(0xe0 + r>>12), further(6), further(0)}
	}
	return []byte{byte(0xf0 + r>>18), further(12), further(6), further(0)}
}

// beginnings returns all that may be pending: the beginnings of the bytes of runes, without the whole ones.
func beginnings() map[string]bool {
	m := map[string]bool{}
	for r := rune(0x80); r <= 0x10ffff; r++ {
		if !isRune(r) {
			continue
		}
		b := bytesOf(r)
		for n := 1; n < len(b); n++ {
			m[string(b[:n])] = true
		}
	}
	return m
}

// plain is a decoder that looks up what may be pending, in place of ranges of bytes.
type plain struct {
	begin   map[string]bool
	pending string
}

func (p *plain) step(c byte) []rune {
	if p.pending != "" {
		s := p.pending + string([]byte{c})
		if p.begin[s] {
			p.pending = s
			return nil
		}
		if r, n := utf8.DecodeRuneInString(s); n == len(s) {
			p.pending = ""
			return []rune{r}
		}
	}
	l := p.end()
	s := string([]byte{c})
	switch {
	case c < 0x80:
		return append(l, rune(c))
	case p.begin[s]:
		p.pending = s
		return l
	}
	return append(l, 0xfffd)
}

func (p *plain) end() []rune {
	if p.pending == "" {
		return nil
	}
	p.pending = ""
	return []rune{0xfffd}
}

// The bytes with which the ranges of the definition begin and end, and some between.
var edges = []byte{0, 'A', 0x7f, 0x80, 0x8f, 0x90, 0x9f, 0xa0, 0xbf, 0xc0, 0xc1, 0xc2, 0xdf, 0xe0, 0xe1, 0xec, 0xed, 0xee, 0xef, 0xf0, 0xf1, 0xf3, 0xf4, 0xf5, 0xff}

// samples are bytes that are runes of all lengths, and malformed in all ways.
var samples = []string{
	"", "a", "\x00\x7f", "a\u00e9\u20ac\U0001f600z", "\u0080\u07ff\u0800\ud7ff\ue000\uffff\U00010000\U0010ffff",
	"\ufffd", "\xe2\x82A", "\xc0\xaf", "\xed\xa0\x80", "\xf4\x90\x80\x80", "\xe2\x82", "\xf0\x9f\x98\xc3\xa9",
	"\x80\xbf\xfe\xff", "\xe0\x80\x80", "\xf0\x80\x80\x80", "\xf0\x9f\x98\xf0\x9f\x98\x80", "\xc3\xc3\xc3\xa9\xa9", "\xf3\xbf\xbf",
}

// P1.1: a byte goes on with what is pending, or ends it, whatever is pending, and whatever the byte is.
func TestStepWhateverIsPending(t *testing.T) {
	begin := beginnings()
	begin[""] = true
	for s := range begin {
		var d utf.Decoder
		if l := d.Feed([]byte(s)); len(l) != 0 || string(d.Pending()) != s {
			t.Fatalf("%x: %x, pending %x", s, l, d.Pending())
		}
		for i := range 256 {
			c, p := d.Copy(), plain{begin, s}
			got, want := c.Step(byte(i)), p.step(byte(i))
			if !slices.Equal(got, want) || string(c.Pending()) != p.pending {
				t.Fatalf("%x %x: %x, pending %x; want %x, pending %x", s, i, got, c.Pending(), want, p.pending)
			}
		}
	}
}

// P1.1: End ends whatever is pending, and a decoder is then as a new one.
func TestEnd(t *testing.T) {
	for _, s := range []string{"\xc2", "\xdf", "\xe0", "\xe0\xa0", "\xef\xbf", "\xf0", "\xf0\x90", "\xf4\x8f\xbf"} {
		var d utf.Decoder
		d.Feed([]byte(s))
		if l := d.End(); !slices.Equal(l, []rune{0xfffd}) || len(d.Pending()) != 0 {
			t.Errorf("%x: %x, pending %x", s, l, d.Pending())
		}
		if l := d.End(); len(l) != 0 {
			t.Errorf("%x: %x at a second end", s, l)
		}
		if l := d.Feed([]byte("\x80\xc3\xa9")); !slices.Equal(l, []rune{0xfffd, 0xe9}) {
			t.Errorf("%x: %x behind the end", s, l)
		}
	}
	var d utf.Decoder
	if l := d.End(); len(l) != 0 {
		t.Errorf("%x of a new decoder", l)
	}
	d.Feed([]byte("a\u20ac\xff"))
	if l := d.End(); len(l) != 0 {
		t.Errorf("%x behind whole runes", l)
	}
}

// P1.1: the document's example of a decoder, call by call.
func TestDecoderExample(t *testing.T) {
	var d utf.Decoder
	for i, c := range []struct {
		call    func() []rune
		want    []rune
		pending string
	}{
		{func() []rune { return d.Feed([]byte{0xf0, 0x9f}) }, nil, "\xf0\x9f"},
		{func() []rune { return d.Step(0x98) }, nil, "\xf0\x9f\x98"},
		{func() []rune { return d.Step(0xc3) }, []rune{0xfffd}, "\xc3"},
		{func() []rune { return d.Step(0xa9) }, []rune{0xe9}, ""},
		{func() []rune { return d.End() }, nil, ""},
	} {
		if l := c.call(); !slices.Equal(l, c.want) || string(d.Pending()) != c.pending {
			t.Errorf("%d: %x, pending %x", i, l, d.Pending())
		}
	}
}

// P1.1: Bad is there for all that is pending together, and once more for a byte that begins nothing.
func TestBadTwice(t *testing.T) {
	for _, s := range []string{"\xc3", "\xe2\x82", "\xf0\x9f\x98"} {
		for c, want := range map[byte][]rune{'A': {0xfffd, 'A'}, 0xc1: {0xfffd, 0xfffd}, 0xff: {0xfffd, 0xfffd}, 0xc3: {0xfffd}} {
			var d utf.Decoder
			d.Feed([]byte(s))
			if l := d.Step(c); !slices.Equal(l, want) {
				t.Errorf("%x %x: %x", s, c, l)
			}
		}
	}
}

// P1.2: a copy and its original go on independently, also a copy of the struct.
func TestCopy(t *testing.T) {
	var d utf.Decoder
	d.Feed([]byte("\xf0\x9f"))
	c, s := d.Copy(), d
	if l := c.Feed([]byte("\x98\x80")); !slices.Equal(l, []rune{0x1f600}) {
		t.Errorf("copy: %x", l)
	}
	if l := s.Step('A'); !slices.Equal(l, []rune{0xfffd, 'A'}) {
		t.Errorf("struct: %x", l)
	}
	if string(d.Pending()) != "\xf0\x9f" || len(c.Pending()) != 0 || len(s.Pending()) != 0 {
		t.Errorf("pending %x, %x and %x", d.Pending(), c.Pending(), s.Pending())
	}
	e := d.Copy()
	if l := d.Feed([]byte("\x99\x81")); !slices.Equal(l, []rune{0x1f641}) || string(e.Pending()) != "\xf0\x9f" {
		t.Errorf("original: %x, pending in the copy %x", l, e.Pending())
	}
	var z utf.Decoder
	if c := z.Copy(); c == nil || c == &z || len(c.Pending()) != 0 {
		t.Error("copy of a new decoder")
	}
}

// P1.2: what Pending returned does not change, and does not change the decoder.
func TestPendingIsNew(t *testing.T) {
	var d utf.Decoder
	d.Feed([]byte("\xf0\x9f"))
	p, q := d.Pending(), d.Pending()
	p[0] = 'x'
	_ = append(p, 'y')
	if string(d.Pending()) != "\xf0\x9f" || string(q) != "\xf0\x9f" {
		t.Errorf("pending %x, before %x", d.Pending(), q)
	}
	if l := d.Feed([]byte("\x98\x80\xc3")); !slices.Equal(l, []rune{0x1f600}) || string(q) != "\xf0\x9f" {
		t.Errorf("%x, before %x", l, q)
	}
}

// P1.1 to P1.3: arguments are neither modified nor retained, and results are new.
func TestArgumentsAndResults(t *testing.T) {
	var d utf.Decoder
	b := []byte("a\xe2\x82\xac")
	l := d.Feed(b[:3])
	if string(b) != "a\xe2\x82\xac" {
		t.Errorf("Feed: argument %x", b)
	}
	b[1], b[2] = 'x', 'y'
	if string(d.Pending()) != "\xe2\x82" {
		t.Errorf("pending %x", d.Pending())
	}
	m := d.Feed([]byte("\xac"))
	l[0] = 'z'
	if !slices.Equal(m, []rune{0x20ac}) {
		t.Errorf("second Feed: %x", m)
	}
	r := []rune{'a', -1, 0x20ac}
	e, f := utf.Encode(r), utf.Encode(r)
	e[0] = 'x'
	if !slices.Equal(r, []rune{'a', -1, 0x20ac}) || string(f) != "a\ufffd\u20ac" {
		t.Errorf("Encode: argument %x, result %x", r, f)
	}
	b = []byte("a\xff")
	x, y := utf.Decode(b), utf.Decode(b)
	x[0], x[1] = 0, 0
	if string(b) != "a\xff" || !slices.Equal(y, []rune{'a', 0xfffd}) {
		t.Errorf("Decode: argument %x, result %x", b, y)
	}
}

// P1.1 to P1.3 for invalid inputs: a nil decoder, and nil and empty lists.
func TestNothing(t *testing.T) {
	var none *utf.Decoder
	if none.Step('a') != nil || none.Feed([]byte("a\xff")) != nil || none.End() != nil || none.Pending() != nil || none.Copy() != nil {
		t.Error("a nil decoder")
	}
	var d utf.Decoder
	d.Step(0xe2)
	if len(d.Feed(nil))+len(d.Feed([]byte{})) != 0 || string(d.Pending()) != "\xe2" {
		t.Error("Feed of nothing")
	}
	if len(utf.Decode(nil))+len(utf.Decode([]byte{}))+len(utf.Encode(nil))+len(utf.Encode([]rune{})) != 0 {
		t.Error("Decode or Encode of nothing")
	}
}

// P1.3: the document's examples of Decode and Encode.
func TestDecodeExamples(t *testing.T) {
	for s, want := range map[string][]rune{
		"\x61\xc3\xa9\xe2\x82\xac\xf0\x9f\x98\x80": {0x61, 0xe9, 0x20ac, 0x1f600},
		"\xe2\x82\x41":     {0xfffd, 0x41},
		"\xc0\xaf":         {0xfffd, 0xfffd},
		"\xed\xa0\x80":     {0xfffd, 0xfffd, 0xfffd},
		"\xf4\x90\x80\x80": {0xfffd, 0xfffd, 0xfffd, 0xfffd},
		"\xe2\x82":         {0xfffd},
		"\xef\xbf\xbd":     {0xfffd},
	} {
		if l := utf.Decode([]byte(s)); !slices.Equal(l, want) {
			t.Errorf("%x: %x, not %x", s, l, want)
		}
	}
	if b := utf.Encode([]rune{0xd800, 0x110000, -1}); string(b) != "\xef\xbf\xbd\xef\xbf\xbd\xef\xbf\xbd" {
		t.Errorf("%x", b)
	}
}

// P1.3: Decode is as the definition says for all that the edges of its ranges can be put together to.
func TestDecodeEdges(t *testing.T) {
	begin := beginnings()
	n := len(edges)
	for i := range n * n * n * n {
		b := []byte{edges[i%n], edges[i/n%n], edges[i/n/n%n], edges[i/n/n/n]}
		p := plain{begin, ""}
		var want []rune
		for _, c := range b {
			want = append(want, p.step(c)...)
		}
		want = append(want, p.end()...)
		if l := utf.Decode(b); !slices.Equal(l, want) {
			t.Fatalf("%x: %x, not %x", b, l, want)
		}
	}
}

// P1.3, P1.4: each rune has its bytes, and these are the rune; every other number has those of Bad.
func TestEveryRune(t *testing.T) {
	var all []rune
	for r := rune(-3); r <= 0x110003; r++ {
		is, want := isRune(r), []byte("\xef\xbf\xbd")
		if is {
			all, want = append(all, r), bytesOf(r)
		}
		if utf.Valid(r) != is {
			t.Fatalf("Valid(%x) is not %v", r, is)
		}
		if b := utf.Encode([]rune{r}); !bytes.Equal(b, want) {
			t.Fatalf("Encode(%x) is %x", r, b)
		}
	}
	if !slices.Equal(utf.Decode(utf.Encode(all)), all) {
		t.Error("Decode of Encode")
	}
	for _, r := range []rune{-1 << 31, -0xd7ff, 1<<31 - 1, 1 << 24} {
		if b := utf.Encode([]rune{'a', r, 'b'}); utf.Valid(r) || string(b) != "a\ufffdb" {
			t.Errorf("%x: %v, %x", r, utf.Valid(r), b)
		}
	}
}

// checkCuts checks that bytes come to the same, cut into three pieces in all ways.
func checkCuts(t *testing.T, b []byte) {
	t.Helper()
	var whole utf.Decoder
	want := whole.Feed(b)
	for i := range len(b) + 1 {
		for k := i; k <= len(b); k++ {
			var d utf.Decoder
			l := slices.Concat(d.Feed(b[:i]), d.Feed(b[i:k]), d.Feed(b[k:]))
			if !slices.Equal(l, want) || !bytes.Equal(d.Pending(), whole.Pending()) {
				t.Fatalf("%x cut at %d and %d: %x, pending %x", b, i, k, l, d.Pending())
			}
		}
	}
}

// checkConsequences checks the rest of P1.4 byte by byte.
func checkConsequences(t *testing.T, b []byte) {
	t.Helper()
	var d utf.Decoder
	var l []rune
	for _, c := range b {
		s := d.Step(c)
		if len(s) > 2 || len(d.Pending()) > 3 {
			t.Fatalf("%x: %x by the byte %x, pending %x", b, s, c, d.Pending())
		}
		l = append(l, s...)
	}
	l = append(l, d.End()...)
	if !slices.Equal(l, utf.Decode(b)) {
		t.Fatalf("%x: %x step by step", b, l)
	}
	for _, r := range l {
		if !utf.Valid(r) {
			t.Fatalf("%x: %x", b, r)
		}
	}
	e := utf.Encode(l)
	if !slices.Contains(l, utf.Bad) && !bytes.Equal(e, b) {
		t.Fatalf("%x is encoded again as %x", b, e)
	}
	if !slices.Equal(utf.Decode(e), l) {
		t.Fatalf("%x: %x, encoded as %x", b, l, e)
	}
}

// P1.4 and P0.2: wherever bytes are cut, the same runes are there, and the same bytes are pending.
func TestConsequences(t *testing.T) {
	for _, s := range samples {
		checkCuts(t, []byte(s))
		checkConsequences(t, []byte(s))
	}
	random := rand.New(rand.NewSource(1))
	for range 20000 {
		b := make([]byte, random.Intn(9))
		for i := range b {
			b[i] = edges[random.Intn(len(edges))]
		}
		if random.Intn(2) == 0 {
			b = append(b, samples[random.Intn(len(samples))]...)
		}
		checkCuts(t, b)
		checkConsequences(t, b)
	}
}
