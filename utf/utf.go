// Package utf: bytes as runes (layer 1).
package utf

import "scrollback/api"

// Bad is what malformed bytes become.
const Bad = 0xfffd

// Decoder decodes bytes, piece by piece; the zero value is ready for use.
type Decoder struct {
	// An array, and no slice, so that a copy of a Decoder shares nothing with it.
	bytes [4]byte
	count int
}

// Step decodes a byte, and returns the runes that are there then.
func (d *Decoder) Step(c byte) []rune {
	if d == nil {
		return nil
	}
	return d.step(nil, c)
}

// Feed decodes bytes, one after the other, and returns the runes that are there then.
func (d *Decoder) Feed(b []byte) []rune {
	if d == nil {
		return nil
	}
	var l []rune
	for _, c := range b {
		l = d.step(l, c)
	}
	return l
}

// End ends, and returns the rune of the bytes that were pending, if there were any.
func (d *Decoder) End() []rune {
	if d == nil {
		return nil
	}
	return d.end(nil)
}

// Pending returns the bytes that are no rune yet.
func (d *Decoder) Pending() []byte {
	if d == nil {
		return nil
	}
	return append([]byte(nil), d.bytes[:d.count]...)
}

// Copy returns a decoder that goes on independently.
func (d *Decoder) Copy() *Decoder {
	if d == nil {
		return nil
	}
	c := *d
	return &c
}

// Decode returns the runes of bytes that nothing comes behind.
func Decode(b []byte) []rune {
	var d Decoder
	return d.end(d.Feed(b))
}

// Encode returns the bytes of runes, those of Bad for a number that is no rune.
func Encode(l []rune) []byte {
	// The language's own conversion writes Bad in these cases, too.
	return []byte(string(l))
}

// Valid reports whether a number is a rune.
func Valid(r rune) bool {
	return 0 <= r && r < 0xd800 || 0xdfff < r && r <= api.MaxRune
}

// step decodes a byte, and appends the runes that are there then.
func (d *Decoder) step(l []rune, c byte) []rune {
	if d.goesOn(c) {
		d.keep(c)
		if d.count < length(d.bytes[0]) {
			return l
		}
		l = append(l, whole(d.bytes[:d.count]))
		*d = Decoder{}
		return l
	}
	l = d.end(l)
	switch length(c) {
	case 0:
		l = append(l, Bad)
	case 1:
		l = append(l, rune(c))
	default:
		d.keep(c)
	}
	return l
}

// end appends Bad if bytes are pending, for all of them together.
func (d *Decoder) end(l []rune) []rune {
	if d.count > 0 {
		l = append(l, Bad)
		*d = Decoder{}
	}
	return l
}

// keep makes a byte the last one of the pending ones.
func (d *Decoder) keep(c byte) {
	d.bytes[d.count] = c
	d.count++
}

// goesOn reports whether a byte goes on with pending ones.
func (d *Decoder) goesOn(c byte) bool {
	switch d.count {
	case 0:
		return false
	case 1:
		low, high := second(d.bytes[0])
		return low <= c && c <= high
	}
	return 0x80 <= c && c <= 0xbf
}

// second returns between which bytes the second one is behind a first one. Some first ones allow fewer of them,
// so that no rune has more bytes than it needs, is from D800 to DFFF, or is above the last one.
func second(first byte) (low, high byte) {
	switch first {
	case 0xe0:
		return 0xa0, 0xbf
	case 0xed:
		return 0x80, 0x9f
	case 0xf0:
		return 0x90, 0xbf
	case 0xf4:
		return 0x80, 0x8f
	}
	return 0x80, 0xbf
}

// length returns how many bytes a rune has that begins with a byte, 0 if none begins so.
func length(first byte) int {
	switch {
	case first < 0x80:
		return 1
	case first < 0xc2:
		return 0
	case first < 0xe0:
		return 2
	case first < 0xf0:
		return 3
	case first < 0xf5:
		return 4
	}
	return 0
}

// whole returns the rune of its bytes, of which there are two to four.
func whole(b []byte) rune {
	// The first one has as many ones as there are bytes before its bits of the rune.
	r := rune(b[0]) & (0xff >> len(b))
	for _, c := range b[1:] {
		r = r<<6 | rune(c&0x3f)
	}
	return r
}
