package parser_test

import (
	"math"
	"math/rand"
	"regexp"
	"slices"
	"strings"
	"testing"
	"unicode/utf8"

	"scrollback/api"
	"scrollback/params"
	"scrollback/parser"
	"scrollback/utf"
)

// How many intermediates and parameters a sequence has at most, and how many bytes a text, as the document has them.
const (
	mostInter  = 2
	mostParams = 16
	mostText   = 1024
)

// printed, executed, escaped, controlled and said return the actions of each kind, all other parts of which are zero values.
func printed(r rune) api.Action {
	return api.Action{Kind: api.ActPrint, Rune: r}
}

func executed(r rune) api.Action {
	return api.Action{Kind: api.ActExecute, Rune: r}
}

func escaped(inter string, r rune) api.Action {
	return api.Action{Kind: api.ActEscape, Inter: inter, Rune: r}
}

func controlled(prefix rune, inter string, r rune, l ...int) api.Action {
	return api.Action{Kind: api.ActControl, Prefix: prefix, Inter: inter, Rune: r, Params: l}
}

func said(s string) api.Action {
	return api.Action{Kind: api.ActString, Text: s}
}

// letters returns the actions that print runes.
func letters(s string) []api.Action {
	var l []api.Action
	for _, r := range s {
		l = append(l, printed(r))
	}
	return l
}

// list returns actions.
func list(l ...api.Action) []api.Action {
	return l
}

// same reports whether actions are equal in all parts.
func same(l, m []api.Action) bool {
	return slices.EqualFunc(l, m, func(a, b api.Action) bool {
		numbers := slices.Equal(a.Params, b.Params)
		return a.Kind == b.Kind && a.Rune == b.Rune && a.Prefix == b.Prefix && a.Inter == b.Inter && numbers && a.Text == b.Text
	})
}

// plain is a parser as the definitions have it: one of five states, and all that was collected there, however much that is.
type plain struct {
	state   string
	has     []rune
	decoder *utf.Decoder
}

func newPlain() *plain {
	return &plain{"ground", nil, new(utf.Decoder)}
}

func (p *plain) copy() *plain {
	return &plain{p.state, slices.Clone(p.has), p.decoder.Copy()}
}

// control is what may be collected in a control sequence: a prefix, digits and semicolons, and intermediates.
var control = regexp.MustCompile(`\A([<=>?]?)([0-9;]*)([ -/]*)\z`)

// to leads to a state in which nothing is collected.
func (p *plain) to(state string) {
	p.state, p.has = state, nil
}

func isIn(r, from, to rune) bool {
	return from <= r && r <= to
}

// isRune is the document's definition of a rune.
func isRune(r rune) bool {
	return isIn(r, 0, 0xd7ff) || isIn(r, 0xe000, 0x10ffff)
}

// step follows the nine rules.
func (p *plain) step(r rune) []api.Action {
	if isIn(r, 0x80, 0x9f) {
		first := p.step(0x1b)
		return append(first, p.step(r-0x40)...)
	}
	if r == 0x1b {
		text := p.text()
		was := p.state
		p.to("escape")
		if was == "string" {
			return list(said(text))
		}
		return nil
	}
	if r == 0x18 || r == 0x1a {
		p.to("ground")
		return list(executed(r))
	}
	if p.state == "string" {
		return p.inString(r)
	}
	if p.state == "skip" || r == 0x7f {
		return nil
	}
	if isIn(r, 0, 0x1f) {
		return list(executed(r))
	}
	switch p.state {
	case "escape":
		return p.inEscape(r)
	case "control":
		return p.inControl(r)
	}
	if isRune(r) {
		return list(printed(r))
	}
	return nil
}

func (p *plain) inString(r rune) []api.Action {
	if r == 7 {
		text := p.text()
		p.to("ground")
		return list(said(text))
	}
	if isRune(r) && r >= 0x20 && r != 0x7f && len(p.text())+utf8.RuneLen(r) <= mostText {
		p.has = append(p.has, r)
	}
	return nil
}

func (p *plain) inEscape(r rune) []api.Action {
	if isIn(r, 0x20, 0x2f) {
		p.has = append(p.has, r)
		return nil
	}
	inter := string(p.has)
	p.to("ground")
	if !isIn(r, 0x30, 0x7e) {
		return nil
	}
	if inter == "" {
		switch r {
		case '[':
			p.to("control")
			return nil
		case ']':
			p.to("string")
			return nil
		case 'P', 'X', '^', '_':
			p.to("skip")
			return nil
		}
	}
	if len(inter) > mostInter {
		return nil
	}
	return list(escaped(inter, r))
}

func (p *plain) inControl(r rune) []api.Action {
	if isIn(r, 0x20, 0x3f) {
		p.has = append(p.has, r)
		return nil
	}
	parts := control.FindStringSubmatch(string(p.has))
	p.to("ground")
	if !isIn(r, 0x40, 0x7e) || parts == nil || len(parts[3]) > mostInter {
		return nil
	}
	var prefix rune
	for _, r := range parts[1] {
		prefix = r
	}
	l, _ := params.Parse(parts[2])
	return list(controlled(prefix, parts[3], r, l...))
}

// kind returns the state as the document names it, by what was collected.
func (p *plain) kind() api.ParserState {
	switch p.state {
	case "escape":
		if len(p.has) > 0 {
			return api.StateEscapeInter
		}
		return api.StateEscape
	case "control":
		parts := control.FindStringSubmatch(string(p.has))
		switch {
		case len(p.has) == 0:
			return api.StateEntry
		case parts == nil:
			return api.StateIgnore
		case parts[3] != "":
			return api.StateInter
		}
		return api.StateParam
	case "string":
		return api.StateString
	case "skip":
		return api.StateSkip
	}
	return api.StateGround
}

func (p *plain) text() string {
	if p.state != "string" {
		return ""
	}
	return string(p.has)
}

func (p *plain) ground() bool {
	return p.state == "ground" && len(p.decoder.Pending()) == 0
}

// both is a parser, and a plain one that has parsed the same.
type both struct {
	p     *parser.Parser
	plain *plain
}

func newBoth() both {
	return both{new(parser.Parser), newPlain()}
}

func (b both) copy() both {
	return both{b.p.Copy(), b.plain.copy()}
}

// step parses a rune with both, and checks what comes of it.
func (b both) step(t *testing.T, r rune) {
	t.Helper()
	before := b.plain.copy()
	want := b.plain.step(r)
	if l := b.p.Step(r); !same(l, want) {
		t.Fatalf("%s with %.40q: Step(%#x) = %v, not %v", before.state, string(before.has), r, l, want)
	}
	b.check(t)
}

// steps parses the runes of a string with both.
func (b both) steps(t *testing.T, s string) {
	t.Helper()
	for _, r := range s {
		b.step(t, r)
	}
}

// write parses bytes with both, and checks what comes of it.
func (b both) write(t *testing.T, s string) {
	t.Helper()
	var want []api.Action
	for _, r := range b.plain.decoder.Feed([]byte(s)) {
		want = append(want, b.plain.step(r)...)
	}
	if l := b.p.Write([]byte(s)); !same(l, want) {
		t.Fatalf("Write(%.60q) = %v, not %v", s, l, want)
	}
	b.check(t)
}

// check checks what the parser says of its state.
func (b both) check(t *testing.T) {
	t.Helper()
	if s := b.p.State(); s != b.plain.kind() {
		t.Fatalf("%s with %.40q: State is %d, not %d", b.plain.state, string(b.plain.has), s, b.plain.kind())
	}
	if s := b.p.Text(); s != b.plain.text() {
		t.Fatalf("%s: Text is %.40q, %d bytes, not %.40q", b.plain.state, s, len(s), b.plain.text())
	}
	if is := b.p.Ground(); is != b.plain.ground() {
		t.Fatalf("%s, pending % x: Ground is %t", b.plain.state, b.plain.decoder.Pending(), is)
	}
}

// further is what is parsed behind something else, to tell states from each other.
var further = []string{"a", "1;2m", ";m", "?5h", "p", "!p", "(B", "#!p", "x\a", "é\x1b\\", "\n\x18b", "\x7f7q", ":1mc"}

// goOn checks that a copy of both goes on alike, whatever comes.
func (b both) goOn(t *testing.T) {
	t.Helper()
	for _, s := range further {
		b.copy().steps(t, s)
	}
}

// way is what leads to a state.
type way struct {
	s     string
	state api.ParserState
}

// ways returns runes that lead to each state, with more or less of what it may have.
func ways() []way {
	return []way{
		{"", api.StateGround}, {"a", api.StateGround}, {"\r\x7fé", api.StateGround}, {"\x1b[1m", api.StateGround}, {"\x1b[:m", api.StateGround}, {"\x1b]x\a", api.StateGround}, {"\x1b(B", api.StateGround}, {"\x1bPq\x18", api.StateGround},
		{"\x1b", api.StateEscape}, {"\x1b[1;\x1b", api.StateEscape}, {"\x1b!\x1b", api.StateEscape}, {"\x1b]x\x1b", api.StateEscape}, {"\x1bPx\x1b", api.StateEscape}, {"\x1b\n", api.StateEscape},
		{"\x1b(", api.StateEscapeInter}, {"\x1b( ", api.StateEscapeInter}, {"\x1b#/\x7f", api.StateEscapeInter}, {"\x1b(((", api.StateEscapeInter}, {"\x1b ! !", api.StateEscapeInter}, {"\x1b" + strings.Repeat("$", 300), api.StateEscapeInter},
		{"\x1b[", api.StateEntry}, {"\u009b", api.StateEntry}, {"\x1b[5 \x1b[", api.StateEntry}, {"\x1b[\x7f\n", api.StateEntry}, {"\x1b]x\x1b[", api.StateEntry},
		{"\x1b[?", api.StateParam}, {"\x1b[<", api.StateParam}, {"\x1b[=7", api.StateParam}, {"\x1b[>;", api.StateParam}, {"\x1b[5", api.StateParam}, {"\x1b[;", api.StateParam}, {"\x1b[12;34", api.StateParam}, {"\x1b[?1;2;", api.StateParam}, {"\x1b[99999", api.StateParam}, {"\x1b[" + strings.Repeat(";", 15), api.StateParam}, {"\x1b[" + strings.Repeat("1;", 16), api.StateParam}, {"\x1b[" + strings.Repeat("1;", 300), api.StateParam},
		{"\x1b[ ", api.StateInter}, {"\x1b[/", api.StateInter}, {"\x1b[5!", api.StateInter}, {"\x1b[;$\"", api.StateInter}, {"\x1b[?2!", api.StateInter}, {"\x1b[>!!", api.StateInter}, {"\x1b[ ! ", api.StateInter}, {"\x1b[5!!!!", api.StateInter}, {"\x1b[?" + strings.Repeat("$", 300), api.StateInter},
		{"\x1b[:", api.StateIgnore}, {"\x1b[5:", api.StateIgnore}, {"\x1b[5?", api.StateIgnore}, {"\x1b[;<", api.StateIgnore}, {"\x1b[??", api.StateIgnore}, {"\x1b[<=", api.StateIgnore}, {"\x1b[ 5", api.StateIgnore}, {"\x1b[5!;", api.StateIgnore}, {"\x1b[!?", api.StateIgnore}, {"\x1b[!!!7", api.StateIgnore}, {"\x1b[:5", api.StateIgnore}, {"\x1b[:!", api.StateIgnore}, {"\x1b[??5 ", api.StateIgnore},
		{"\x1b]", api.StateString}, {"\u009d", api.StateString}, {"\x1b]0;a b", api.StateString}, {"\x1b]é世😀\n\x7f", api.StateString}, {"\x1b]" + strings.Repeat("a", 1019) + "b", api.StateString}, {"\x1b]" + strings.Repeat("a", 1020) + "b", api.StateString}, {"\x1b]" + strings.Repeat("a", 1021) + "b", api.StateString}, {"\x1b]" + strings.Repeat("a", 1022) + "b", api.StateString}, {"\x1b]" + strings.Repeat("a", 1023) + "b", api.StateString}, {"\x1b]" + strings.Repeat("a", 1500), api.StateString}, {"\x1b(\x1b]", api.StateString},
		{"\x1bP", api.StateSkip}, {"\x1bX", api.StateSkip}, {"\x1b^", api.StateSkip}, {"\x1b_", api.StateSkip}, {"\x1bP1;2|q\a\n\x7fé", api.StateSkip}, {"\x1b]x\x1bX", api.StateSkip}, {"\u0090", api.StateSkip}, {"\u0098", api.StateSkip}, {"\u009e", api.StateSkip}, {"\u009f", api.StateSkip},
	}
}

// led returns both behind the runes of a way.
func (w way) led(t *testing.T) both {
	t.Helper()
	b := newBoth()
	b.steps(t, w.s)
	if s := b.p.State(); s != w.state {
		t.Fatalf("%.40q leads to %d, not %d", w.s, s, w.state)
	}
	return b
}

// runes returns numbers: all small ones, the ends of each range of the rules and of what is a rune, and those far outside.
func runes() []rune {
	var l []rune
	for r := rune(-40); r < 0x140; r++ {
		l = append(l, r)
	}
	for _, r := range []rune{0x7ff, 0x800, 0x20ac, 0x4e00, 0xd7ff, 0xd800, 0xdbff, 0xdc00, 0xdfff, 0xe000, 0xfffd, 0xffff, 0x10000, 0x1f600, 0x10ffff, 0x110000} {
		l = append(l, r, r-1, r+1)
	}
	for _, low := range []rune{'a', '[', ']', 0x1b, 0x18, 0x07, '5', ' ', 0x85} {
		l = append(l, low+0x100, low+0x10000, low+0x1000000, low-0x100, low+math.MinInt32, low-0x10000)
	}
	return append(l, math.MinInt32, math.MinInt32+1, math.MaxInt32, math.MaxInt32-1)
}

// P11.1: the document's examples, and what ends each of them.
func TestExamples(t *testing.T) {
	for _, c := range []struct {
		s    string
		want []api.Action
	}{
		{"a\x1b[1;31m\x07b", list(printed('a'), controlled(0, "", 'm', 1, 31), executed(7), printed('b'))},
		{"\x1b[?25h\x1b(B\x1b7\x1b[4 q", list(controlled('?', "", 'h', 25), escaped("(", 'B'), escaped("", '7'), controlled(0, " ", 'q', 4))},
		{"\x1b]0;hi\a\x1b]2\x1b\\", list(said("0;hi"), said("2"), escaped("", '\\'))},
		{"\x1bP1qx\x1b\\x", list(escaped("", '\\'), printed('x'))},
		{"\x1b[1:2ma", letters("a")},
		{"\x1b[?1?hb", letters("b")},
		{"\x1b[1 2qc", letters("c")},
		{"\x1b[1\n2A", list(executed(10), controlled(0, "", 'A', 12))},
		{"\x1b[3\x18x", list(executed(0x18), printed('x'))},
		{"\xc2\x9b4A", list(controlled(0, "", 'A', 4))},
		{"\x1b[ !\"pd", letters("d")},
	} {
		var p parser.Parser
		if l := p.Write([]byte(c.s)); !same(l, c.want) || !p.Ground() {
			t.Errorf("%q: %v, not %v", c.s, l, c.want)
		}
	}
}

// P11.2: the document's example of states, call by call.
func TestStateExample(t *testing.T) {
	var p parser.Parser
	for i, c := range []struct {
		s      string
		want   []api.Action
		state  api.ParserState
		ground bool
	}{
		{"\x1b[5", nil, api.StateParam, false},
		{" ", nil, api.StateInter, false},
		{"\xc3", nil, api.StateInter, false},
		{"m", letters("m"), api.StateGround, true}, // the bad rune of C3 led to ground
	} {
		l := p.Write([]byte(c.s))
		if !same(l, c.want) || p.State() != c.state || p.Ground() != c.ground {
			t.Errorf("%d: %v, state %d, %t", i, l, p.State(), p.Ground())
		}
	}
}

// P11.1: runes in ground, each of which is printed, controls, which are executed, and 7F, which is nothing.
func TestGroundRunes(t *testing.T) {
	var p parser.Parser
	for r := rune(-0x3000); r < 0x113000; r++ {
		var want []api.Action
		switch {
		case r == 0x1b || isIn(r, 0x80, 0x9f):
			continue
		case isIn(r, 0, 0x1f):
			want = list(executed(r))
		case isRune(r) && r != 0x7f:
			want = list(printed(r))
		}
		if l := p.Step(r); !same(l, want) || !p.Ground() {
			t.Fatalf("Step(%#x) = %v, Ground is %t", r, l, p.Ground())
		}
	}
	for _, r := range []rune{math.MinInt32, math.MaxInt32, math.MinInt32 + 'a', 1<<24 + 'a', -'a'} {
		if l := p.Step(r); len(l) != 0 || !p.Ground() {
			t.Errorf("Step(%#x) = %v", r, l)
		}
	}
}

// P11.1: escape sequences with no, one and two intermediates; with more of them there is none.
func TestEscape(t *testing.T) {
	opens := map[rune]bool{'[': true, ']': true, 'P': true, 'X': true, '^': true, '_': true}
	for final := rune(0x30); final <= 0x7e; final++ {
		for _, inter := range []string{"", " ", "/", "(", "()", " /", "//", "()*", "    ", strings.Repeat("#", 20), strings.Repeat("#", 256), strings.Repeat("#", 258)} {
			if inter == "" && opens[final] {
				continue
			}
			var want []api.Action
			if len(inter) <= 2 {
				want = list(escaped(inter, final))
			}
			var p parser.Parser
			if l := p.Write([]byte("\x1b" + inter + string(final))); !same(l, want) || !p.Ground() {
				t.Fatalf("ESC %.20q %q: %v, state %d", inter, final, l, p.State())
			}
		}
	}
}

// P11.1: what ESC and a rune open, with nothing in it, and that with an intermediate nothing is opened.
func TestOpen(t *testing.T) {
	for r, want := range map[rune]api.ParserState{'[': api.StateEntry, ']': api.StateString, 'P': api.StateSkip, 'X': api.StateSkip, '^': api.StateSkip, '_': api.StateSkip} {
		for _, before := range []string{"", "\x1b[?7;8!", "\x1b((", "\x1bPx"} {
			var p parser.Parser
			p.Write([]byte(before))
			if l := p.Write([]byte("\x1b" + string(r))); len(l) != 0 || p.State() != want || p.Text() != "" || p.Ground() {
				t.Errorf("%q, ESC %q: %v, state %d", before, r, l, p.State())
			}
		}
		for _, inter := range []string{"(", " /"} {
			var p parser.Parser
			if l := p.Write([]byte("\x1b" + inter + string(r))); !same(l, list(escaped(inter, r))) || !p.Ground() {
				t.Errorf("ESC %q %q: %v", inter, r, l)
			}
		}
		var p parser.Parser
		if l := p.Write([]byte("\x1b(((" + string(r) + "a")); !same(l, letters("a")) {
			t.Errorf("ESC ((( %q: %v", r, l)
		}
	}
}

// P11.1: what does not go on with an escape or a control sequence leads to ground, and is not printed.
func TestBroken(t *testing.T) {
	for _, open := range []string{"\x1b", "\x1b(", "\x1b(#", "\x1b(((", "\x1b[", "\x1b[?", "\x1b[5", "\x1b[5;", "\x1b[ ", "\x1b[5!!!", "\x1b[:"} {
		for _, r := range []rune{0xa0, 0xe9, 0x4e00, 0x1f600, 0x10ffff, 0xfffd, 0x110000, 0xd800, 0xdfff, -1, math.MinInt32, math.MaxInt32} {
			b := newBoth()
			b.steps(t, open)
			if l := b.p.Step(r); len(l) != 0 || !b.p.Ground() {
				t.Errorf("%q, Step(%#x) = %v, state %d", open, r, l, b.p.State())
			}
			if l := b.p.Step('1'); !same(l, letters("1")) {
				t.Errorf("%q, Step(%#x), and 1: %v", open, r, l)
			}
		}
	}
}

// P11.1: control sequences with and without each part, for each final rune.
func TestControl(t *testing.T) {
	for final := rune(0x40); final <= 0x7e; final++ {
		for _, prefix := range []string{"", "<", "=", ">", "?"} {
			for _, numbers := range []struct {
				s    string
				want []int
			}{{"", nil}, {"0", []int{0}}, {"5", []int{5}}, {";", []int{-1, -1}}, {"1;31", []int{1, 31}}, {"007;;12345", []int{7, -1, 9999}}} {
				for _, inter := range []string{"", " ", "/", "!", "$\"", "//", "!!!", strings.Repeat(" ", 257)} {
					var p parser.Parser
					l := p.Write([]byte("\x1b[" + prefix + numbers.s + inter + string(final)))
					var want []api.Action
					if len(inter) <= 2 {
						a := controlled(0, inter, final, numbers.want...)
						if prefix != "" {
							a.Prefix = rune(prefix[0])
						}
						want = list(a)
					}
					if !same(l, want) || !p.Ground() {
						t.Fatalf("ESC [ %s %s %.10q %q: %v, not %v", prefix, numbers.s, inter, final, l, want)
					}
				}
			}
		}
	}
}

// P11.1: 16 parameters, 17 and many, of which the first 16 are kept, and numbers that are cut.
func TestParams(t *testing.T) {
	ones := slices.Repeat([]int{1}, 16)
	none := slices.Repeat([]int{-1}, 16)
	for _, c := range []struct {
		s    string
		want []int
	}{
		{strings.Repeat("1;", 15) + "1", ones}, {strings.Repeat("1;", 16), ones}, {strings.Repeat("1;", 16) + "2", ones}, {strings.Repeat("1;", 17) + "2", ones}, {strings.Repeat("1;", 5000) + "2", ones},
		{strings.Repeat("1;", 14) + "1", ones[:15]}, {strings.Repeat(";", 14), none[:15]}, {strings.Repeat(";", 15), none}, {strings.Repeat(";", 16), none}, {strings.Repeat(";", 16) + "7", none}, {strings.Repeat(";", 70000), none},
		{"9998", []int{9998}}, {"9999", []int{9999}}, {"10000", []int{9999}}, {"18446744073709551617", []int{9999}}, {strings.Repeat("9", 5000), []int{9999}}, {strings.Repeat("0", 5000) + "7", []int{7}}, {"0;00;", []int{0, 0, -1}}, {";5", []int{-1, 5}},
	} {
		for _, prefix := range []rune{0, '?'} {
			for _, inter := range []string{"", "$"} {
				s := "\x1b["
				if prefix != 0 {
					s += string(prefix)
				}
				var p parser.Parser
				if l := p.Write([]byte(s + c.s + inter + "h")); !same(l, list(controlled(prefix, inter, 'h', c.want...))) {
					t.Errorf("%.20q, %d bytes: %v, not %v", c.s, len(c.s), l, c.want)
				}
			}
		}
	}
}

// P11.1 and P11.2: what makes a control sequence none: nothing that comes behind it changes that, up to its final rune.
func TestIgnore(t *testing.T) {
	for _, s := range []string{
		":", "1:2", "38:2:1", ";:", "?:", " :", "??", "?<", "<>", "?1?", "1?", "1<", "1=", "1>", ";?", "?;?", " 1", " ;", "1 2", "1 ;", "? 1", "!?", "1!>", " ! 1", "!!!1", "!!!?", ":?", ": ", ":1", "?:1 ",
		"?1 2", "1;2?", "?? ", "???", ":::::", strings.Repeat("1;", 20) + ":", strings.Repeat("1;", 20) + "?", strings.Repeat("!", 300) + "1",
	} {
		for _, more := range []string{"", "1", ";", "?", " ", ":", "!!", "\x7f", "1;2 !"} {
			for _, final := range "@m~" {
				var p parser.Parser
				if l := p.Write([]byte("\x1b[" + s + more)); len(l) != 0 || p.State() != api.StateIgnore {
					t.Fatalf("ESC [ %.20q %q: %v, state %d", s, more, l, p.State())
				}
				if l := p.Write([]byte("\n" + string(final) + "1")); !same(l, list(executed('\n'), printed('1'))) || !p.Ground() {
					t.Fatalf("ESC [ %.20q %q %q: %v", s, more, final, l)
				}
			}
		}
	}
}

// P11.2: the state after each rune, by what was collected.
func TestStates(t *testing.T) {
	const ground, escape, escapeInter, entry, param, inter, ignore, text, skip = api.StateGround, api.StateEscape, api.StateEscapeInter, api.StateEntry, api.StateParam, api.StateInter, api.StateIgnore, api.StateString, api.StateSkip
	for _, c := range []struct {
		s    string
		want []api.ParserState
	}{
		{"a\n\x7fé", []api.ParserState{ground, ground, ground, ground}},
		{"\x1b7\x1b\x1b\n\x7fc", []api.ParserState{escape, ground, escape, escape, escape, escape, ground}},
		{"\x1b \n\x7f/!(B", []api.ParserState{escape, escapeInter, escapeInter, escapeInter, escapeInter, escapeInter, escapeInter, ground}},
		{"\x1b([\x1b(é\x1bé", []api.ParserState{escape, escapeInter, ground, escape, escapeInter, ground, escape, ground}},
		{"\x1b[\n\x7f5\n\x7f;1 \n\x7f!#5\n\x7f m", []api.ParserState{escape, entry, entry, entry, param, param, param, param, param, inter, inter, inter, inter, inter, ignore, ignore, ignore, ignore, ground}},
		{"\x1b[m\x1b[<\x1b[=\x1b[>\x1b[?!p", []api.ParserState{escape, entry, ground, escape, entry, param, escape, entry, param, escape, entry, param, escape, entry, param, inter, ground}},
		{"\x1b[0\x1b[9\x1b[;\x1b[:\x1b[ \x1b[/~", []api.ParserState{escape, entry, param, escape, entry, param, escape, entry, param, escape, entry, ignore, escape, entry, inter, escape, entry, inter, ground}},
		{"\x1b[??\x1b[5?\x1b[ 5\x1b[?:\x18", []api.ParserState{escape, entry, param, ignore, escape, entry, param, ignore, escape, entry, inter, ignore, escape, entry, param, ignore, ground}},
		{"\x1b]\n0;é\x7f\a\x1b]\x1b\\", []api.ParserState{escape, text, text, text, text, text, text, ground, escape, text, escape, ground}},
		{"\x1bP\n\a[]é\x1b\\\x1bX\x18\x1b^\x1a\x1b_\x1bX", []api.ParserState{escape, skip, skip, skip, skip, skip, skip, escape, ground, escape, skip, ground, escape, skip, ground, escape, skip, escape, skip}},
		{"\u009b\u009d\u0090\u0098\u009e\u009f\u0084\u0080\u009c", []api.ParserState{entry, text, skip, skip, skip, skip, ground, ground, ground}},
	} {
		var p parser.Parser
		i := 0
		for _, r := range c.s {
			p.Step(r)
			if p.State() != c.want[i] || p.Ground() != (c.want[i] == ground) {
				t.Errorf("%q: behind %d runes State is %d, not %d, Ground %t", c.s, i+1, p.State(), c.want[i], p.Ground())
			}
			i++
		}
		if i != len(c.want) {
			t.Errorf("%q: %d runes, %d states", c.s, i, len(c.want))
		}
	}
}

// P11.1: strings that end by BEL, by ESC and by runes from 80 to 9F, and those that 18 and 1A leave, of which nothing is there.
func TestStrings(t *testing.T) {
	for _, c := range []struct {
		s    string
		want []api.Action
	}{
		{"\x1b]0;hi\ax", list(said("0;hi"), printed('x'))},
		{"\x1b]0;hi\x1b\\x", list(said("0;hi"), escaped("", '\\'), printed('x'))},
		{"\x1b]0;hi\x1b[1mx", list(said("0;hi"), controlled(0, "", 'm', 1), printed('x'))},
		{"\x1b]a\x1b]b\x1b]\a", list(said("a"), said("b"), said(""))},
		{"\x1b]\a\x1b]\x1b\\", list(said(""), said(""), escaped("", '\\'))},
		{"\x1b]a\u009cb\x1b]c\u009dd\a", list(said("a"), escaped("", '\\'), printed('b'), said("c"), said("d"))},
		{"\x1b]a\u009b1mb", list(said("a"), controlled(0, "", 'm', 1), printed('b'))},
		{"\x1b]a\u0085b", list(said("a"), escaped("", 'E'), printed('b'))},
		{"\x1b]ab\x18c\x1b]d\x1ae", list(executed(0x18), printed('c'), executed(0x1a), printed('e'))},
		{"\x1b]a\x00\n\x1f\x7fb\x06\x08\a", list(said("ab"))},
		{"\x1b] é世😀~\u00a0\ufffd\a", list(said(" é世😀~\u00a0\ufffd"))},
		{"\x1b]a\xffb\xe2\x82c\xed\xa0\x80\a", list(said("a\ufffdb\ufffdc\ufffd\ufffd\ufffd"))},
		{"\x1b]a\xe2\x82\a\x1b]a\xe2\x82\x1b7", list(said("a\ufffd"), said("a\ufffd"), escaped("", '7'))},
		{"\x1bPa\a\nb\x7f\xff\x1b\\c", list(escaped("", '\\'), printed('c'))},
		{"\x1bXa\x18b\x1b^c\x1ad\x1b_e\u009cf", list(executed(0x18), printed('b'), executed(0x1a), printed('d'), escaped("", '\\'), printed('f'))},
		{"\x1bPa\x1b]b\ac", list(said("b"), printed('c'))},
	} {
		var p parser.Parser
		if l := p.Write([]byte(c.s)); !same(l, c.want) || !p.Ground() {
			t.Errorf("%q: %v, not %v", c.s, l, c.want)
		}
	}
}

// P11.1 and P11.2: every number in a string: what comes to the text, and what does not.
func TestStringRunes(t *testing.T) {
	for r := rune(-0x1000); r < 0x111000; r++ {
		if r == 7 || r == 0x18 || r == 0x1a || r == 0x1b || isIn(r, 0x80, 0x9f) {
			continue
		}
		want := ""
		if r >= 0x20 && r != 0x7f && isRune(r) {
			want = string(r)
		}
		var p parser.Parser
		p.Step(0x1b)
		p.Step(']')
		if l := p.Step(r); len(l) != 0 || p.Text() != want || p.State() != api.StateString {
			t.Fatalf("Step(%#x) = %v, Text is %q", r, l, p.Text())
		}
		if l := p.Step(7); !same(l, list(said(want))) || !p.Ground() || p.Text() != "" {
			t.Fatalf("Step(%#x), and BEL: %v", r, l)
		}
	}
}

// P11.1 and P11.2: texts of about 1024 bytes: a rune that would make one longer is left out, and a shorter one behind it is not.
func TestLongText(t *testing.T) {
	for _, c := range []struct {
		count int
		s     string
		want  string
	}{
		{1024, "", ""}, {1024, "b", ""}, {1024, "é世😀b", ""}, {1025, "", ""}, {5000, "b", ""},
		{1023, "", ""}, {1023, "b", "b"}, {1023, "bc", "b"}, {1023, "é", ""}, {1023, "éb", "b"}, {1023, "世😀éb", "b"}, {1023, "世\nb\x7fc", "b"},
		{1022, "é", "é"}, {1022, "éb", "é"}, {1022, "bc", "bc"}, {1022, "世", ""}, {1022, "世é", "é"}, {1022, "世bé", "b"}, {1022, "世béc", "bc"}, {1022, "b世éc", "bc"},
		{1021, "世", "世"}, {1021, "世b", "世"}, {1021, "😀", ""}, {1021, "😀世b", "世"}, {1021, "😀é世b", "éb"}, {1021, "\xff", "\ufffd"},
		{1020, "😀", "😀"}, {1020, "😀b", "😀"}, {1020, "b😀世", "b世"}, {1020, "bc😀世é", "bcé"}, {1020, "\U0010ffff", "\U0010ffff"}, {1020, "\xff\xff", "\ufffd"},
		{1019, "😀b", "😀b"}, {1019, "😀é", "😀"}, {1019, "😀😀b", "😀b"},
	} {
		for _, end := range []struct {
			s    string
			want []api.Action
		}{{"\a", nil}, {"\x1b", nil}, {"\u009b", nil}, {"\u009c", list(escaped("", '\\'))}} {
			want := strings.Repeat("a", min(c.count, mostText)) + c.want
			var p parser.Parser
			l := p.Write([]byte("\x1b]" + strings.Repeat("a", c.count) + c.s))
			if len(l) != 0 || p.Text() != want || p.State() != api.StateString {
				t.Errorf("%d and %q: %v, Text has %d bytes, not %d", c.count, c.s, l, len(p.Text()), len(want))
			}
			if l := p.Write([]byte(end.s)); !same(l, append(list(said(want)), end.want...)) || p.Text() != "" {
				t.Errorf("%d and %q: %.20v", c.count, c.s, l)
			}
			// A string that is opened behind a long one has nothing of that.
			p.Write([]byte("\x1b]"))
			if p.Text() != "" {
				t.Errorf("%d and %q: Text of a new string is %.20q", c.count, c.s, p.Text())
			}
			if l := p.Write([]byte("n\a")); !same(l, list(said("n"))) {
				t.Errorf("%d and %q: %.20v", c.count, c.s, l)
			}
		}
	}
	for _, part := range []string{"é", "世", "😀", "aé", "é世", "a世😀"} {
		b := newBoth()
		b.write(t, "\x1b]")
		for range 1100 {
			b.write(t, part)
		}
		b.write(t, "zzzzzz\a")
	}
}

// P1: very many runes in a sequence or in a string, of which no more is kept than is needed.
func TestMany(t *testing.T) {
	const many = 1 << 20
	for _, c := range []struct {
		open, part, end string
		state           api.ParserState
		want            []api.Action
	}{
		{"\x1b", "!", "a", api.StateEscapeInter, nil},
		{"\x1b[", "!", "a", api.StateInter, nil},
		{"\x1b[?", "5", "h", api.StateParam, list(controlled('?', "", 'h', 9999))},
		{"\x1b[", "5;", "m", api.StateParam, list(controlled(0, "", 'm', slices.Repeat([]int{5}, 16)...))},
		{"\x1b[", ":", "m", api.StateIgnore, nil},
		{"\x1b]", "é", "\a", api.StateString, list(said(strings.Repeat("é", 512)))},
		{"\x1bP", "é", "\x1bB", api.StateSkip, list(escaped("", 'B'))},
	} {
		var p parser.Parser
		if l := p.Write([]byte(c.open + strings.Repeat(c.part, many))); len(l) != 0 || p.State() != c.state {
			t.Errorf("%q, and %q very often: %d actions, state %d", c.open, c.part, len(l), p.State())
		}
		if l := p.Write([]byte(c.end)); !same(l, c.want) || !p.Ground() {
			t.Errorf("%q, and %q very often: %.20v", c.open, c.part, l)
		}
	}
}

// P11.2: Text of a string that is open, rune by rune, and none in all other states.
func TestText(t *testing.T) {
	for _, w := range ways() {
		b := w.led(t)
		if s := b.p.Text(); b.p.State() != api.StateString && s != "" {
			t.Errorf("%.40q: Text is %.40q", w.s, s)
		}
	}
	var p parser.Parser
	p.Write([]byte("\x1b]"))
	want := ""
	for _, r := range "0;é 世\n😀\x7f~\x00a" {
		if l := p.Step(r); len(l) != 0 {
			t.Fatal(l)
		}
		if r >= 0x20 && r != 0x7f {
			want += string(r)
		}
		if p.Text() != want || p.Text() != want {
			t.Fatalf("behind %q Text is %q, not %q", r, p.Text(), want)
		}
	}
	p.Write([]byte("\xe4\xb8"))
	if p.Text() != want {
		t.Errorf("pending bytes come to the text: %q", p.Text())
	}
	kept := p.Text()
	p.Write([]byte("\x96\x1b]other\a"))
	if kept != want || p.Text() != "" {
		t.Errorf("%q, %q", kept, p.Text())
	}
}

// P11.1: runes from 80 to 9F are, in every state, ESC and the rune less 40.
func TestEightBits(t *testing.T) {
	for _, w := range ways() {
		start := w.led(t)
		for r := rune(0x80); r <= 0x9f; r++ {
			one, two := start.copy(), start.copy()
			l := one.p.Step(r)
			m := append(two.p.Step(0x1b), two.p.Step(r-0x40)...)
			if !same(l, m) || one.p.State() != two.p.State() || one.p.Text() != two.p.Text() {
				t.Fatalf("%.40q, %#x: %v, %d; in two %v, %d", w.s, r, l, one.p.State(), m, two.p.State())
			}
			one.plain.step(r)
			one.goOn(t)
		}
	}
	for r, want := range map[rune][]api.Action{0x80: list(escaped("", '@')), 0x84: list(escaped("", 'D')), 0x8f: list(escaped("", 'O')), 0x91: list(escaped("", 'Q')), 0x99: list(escaped("", 'Y')), 0x9a: list(escaped("", 'Z')), 0x9c: list(escaped("", '\\')), 0x9b: nil, 0x9d: nil, 0x90: nil, 0x98: nil, 0x9e: nil, 0x9f: nil, 0xa0: letters("\u00a0"), 0x7f: nil} {
		var p parser.Parser
		if l := p.Step(r); !same(l, want) {
			t.Errorf("Step(%#x) = %v", r, l)
		}
	}
}

// P11.1: ESC, 18 and 1A in every state.
func TestLeaving(t *testing.T) {
	for _, w := range ways() {
		b := w.led(t)
		text := b.p.Text()
		var want []api.Action
		if w.state == api.StateString {
			want = list(said(text))
		}
		c := b.copy()
		if l := c.p.Step(0x1b); !same(l, want) || c.p.State() != api.StateEscape || c.p.Text() != "" || c.p.Ground() {
			t.Errorf("%.40q, ESC: %v, state %d", w.s, l, c.p.State())
		}
		if l := c.p.Step('B'); !same(l, list(escaped("", 'B'))) || !c.p.Ground() {
			t.Errorf("%.40q, ESC B: %v", w.s, l)
		}
		for _, r := range []rune{0x18, 0x1a} {
			c := b.copy()
			if l := c.p.Step(r); !same(l, list(executed(r))) || !c.p.Ground() || c.p.State() != api.StateGround || c.p.Text() != "" {
				t.Errorf("%.40q, %#x: %v, state %d", w.s, r, l, c.p.State())
			}
			if l := c.p.Step('m'); !same(l, letters("m")) {
				t.Errorf("%.40q, %#x m: %v", w.s, r, l)
			}
		}
	}
}

// P11.1: controls and 7F in every state: executed where nothing else is said, and the state stays.
func TestControlsWithin(t *testing.T) {
	for _, w := range ways() {
		start := w.led(t)
		for r := rune(0); r < 0x20; r++ {
			if r == 0x1b || r == 0x18 || r == 0x1a || r == 7 && w.state == api.StateString {
				continue
			}
			b := start.copy()
			text := b.p.Text()
			var want []api.Action
			if w.state != api.StateString && w.state != api.StateSkip {
				want = list(executed(r))
			}
			if l := b.p.Step(r); !same(l, want) || b.p.State() != w.state || b.p.Text() != text {
				t.Fatalf("%.40q, %#x: %v, state %d", w.s, r, l, b.p.State())
			}
			b.goOn(t)
		}
		b := start.copy()
		if l := b.p.Step(0x7f); len(l) != 0 || b.p.State() != w.state {
			t.Errorf("%.40q, 7F: %v, state %d", w.s, l, b.p.State())
		}
		b.goOn(t)
	}
}

// P11.1 and P11.2: every number of a list in every state, and what comes behind it, against the rules.
func TestEveryRune(t *testing.T) {
	for _, w := range ways() {
		b := w.led(t)
		for _, r := range runes() {
			c := b.copy()
			c.step(t, r)
			for _, s := range further[:5] {
				c.copy().steps(t, s)
			}
		}
		b.check(t)
	}
}

// P11.1 and P11.2: all short lists of runes, one of each range of the rules, each time with copies.
func TestShort(t *testing.T) {
	alphabet := []rune{0x1b, '[', ']', 'P', '\\', '5', ';', ':', '?', ' ', '/', '@', '~', 7, '\n', 0x18, 0x7f, 0x9b, 0x9c, 0xe9, 0xd800, -1}
	var try func(b both, left int)
	try = func(b both, left int) {
		if left == 0 {
			return
		}
		for _, r := range alphabet {
			c := b.copy()
			c.step(t, r)
			try(c, left-1)
		}
		b.check(t)
	}
	try(newBoth(), 4)
}

// P11.1 and P11.2: long random lists of runes and of bytes, against the rules.
func TestLong(t *testing.T) {
	random := rand.New(rand.NewSource(11))
	parts := []string{"\x1b", "\x1b[", "\x1b]", "\x1bP", "\x1b(", "?", "5", "12;", ";", ":", " ", "!", "m", "h", "\a", "\n", "\x18", "\x7f", "é", "世", "😀", "\u009b", "\u009c", "\xff", "\xe4\xb8", "\xf0\x9f", "\x96", "abc", strings.Repeat("x", 300), strings.Repeat("7;", 9)}
	numbers := runes()
	for range 400 {
		b := newBoth()
		for range 100 {
			switch random.Intn(8) {
			case 0:
				b.step(t, numbers[random.Intn(len(numbers))])
			case 1:
				b.step(t, rune(random.Uint32()))
			default:
				b.write(t, parts[random.Intn(len(parts))])
			}
		}
	}
}

// samples are bytes with runes, sequences and strings of all kinds, some of which are malformed.
var samples = []string{
	"", "a", "aé世😀b", "a\xffb\xe2\x82c\xed\xa0\x80d", "\r\n\t\a\x7f", "\x1b[1;31mred\x1b[m\x1b[;H", "\x1b[?1049h\x1b[>c\x1b[4 q\x1b[?2026$p\x1b[1$\"q",
	"\x1b[1:2ma\x1b[1?ma\x1b[ 1ma\x1b[!!!pa", "\x1b(B\x1b#8\x1b $Bx\x1b $!Bx", "\x1b7\x1b8\x1bc\x1b\x1b=\x1b\xc3\xa9x", "\x1b]0;a b\ac\x1b]\xc3\xa9\xe4\xb8\x96\x1b\\\x1b]\a", "\x1b]a\xc2\x9cb\xc2\x9b3A\xc2\x84\xc2\x90q\xc2\x9c",
	"\x1b]a\xe2\x82\a\xf0\x9f\x98", "\x1bP1;2q\xf0\x9f\x98\x80\a\n\x1b\\x\x1b_y\x18z", "\x1b[1\xe4\xb8\x962m\x1b[\xff5m\x1b(\xf0\x9f", "\x1b[12;", "\x1b]open\xc3", "\xc2", "\x1b[1\n2\x7f;3\x1am",
}

// whole checks that pieces lead to the same actions as all bytes at once, and to the same state.
func whole(t *testing.T, pieces ...string) {
	t.Helper()
	s := strings.Join(pieces, "")
	one, two := newBoth(), newBoth()
	want := one.p.Write([]byte(s))
	var l []api.Action
	for _, piece := range pieces {
		l = append(l, two.p.Write([]byte(piece))...)
	}
	if !same(l, want) || one.p.State() != two.p.State() || one.p.Text() != two.p.Text() || one.p.Ground() != two.p.Ground() {
		t.Fatalf("%q: %v, not %v; states %d and %d", pieces, l, want, two.p.State(), one.p.State())
	}
	for _, more := range append(further, "\x80", "\x98\x80", "\xa9") {
		if l, m := one.p.Copy().Write([]byte(more)), two.p.Copy().Write([]byte(more)); !same(l, m) {
			t.Fatalf("%q, and %q: %v; at once %v", pieces, more, m, l)
		}
	}
}

// P11.3 (P0.2): all cuts of samples into two and three pieces, and into single bytes, with empty pieces among them.
func TestCuts(t *testing.T) {
	for _, s := range append(samples, strings.Join(samples, "")) {
		whole(t, strings.Split(s, "")...)
		var single []string
		for i := range len(s) {
			single = append(single, s[i:i+1], "")
		}
		whole(t, single...)
		for i := range len(s) + 1 {
			whole(t, s[:i], s[i:])
			if len(s) > 40 {
				continue
			}
			for k := i; k <= len(s); k++ {
				whole(t, s[:i], s[i:k], s[k:])
			}
		}
	}
}

// P11.3 (P0.2): random bytes, cut at random.
func TestRandomCuts(t *testing.T) {
	random := rand.New(rand.NewSource(2))
	bytes := "\x1b\x1b\x1b[[]PX(B 5;:?m\a\n\x18\x7f\xc2\x9b\x9c\xc3\xa9\xe4\xb8\x96\xf0\x9f\x98\x80\xff\xed\xa0abc"
	for range 3000 {
		var pieces []string
		for range random.Intn(8) {
			piece := ""
			for range random.Intn(12) {
				i := random.Intn(len(bytes))
				piece += bytes[i : i+1]
			}
			pieces = append(pieces, piece)
		}
		whole(t, pieces...)
		b := newBoth()
		for _, piece := range pieces {
			b.write(t, piece)
		}
	}
}

// P11.1: Write parses the runes of bytes, as Step does, one after the other.
func TestWriteIsSteps(t *testing.T) {
	for _, s := range samples {
		var one, two parser.Parser
		var d utf.Decoder
		var want []api.Action
		for _, r := range d.Feed([]byte(s)) {
			want = append(want, two.Step(r)...)
		}
		if l := one.Write([]byte(s)); !same(l, want) || one.State() != two.State() || one.Text() != two.Text() {
			t.Errorf("%q: %v, not %v", s, l, want)
		}
	}
}

// halves are the beginnings of runes, and what completes them.
var halves = map[string]string{"\xc3": "\xa9", "\xe4": "\xb8\x96", "\xe4\xb8": "\x96", "\xf0": "\x9f\x98\x80", "\xf0\x9f": "\x98\x80", "\xf0\x9f\x98": "\x80", "\xc2": "\x9b"}

// P11.1 and P11.2: pending bytes in every state: there is no ground with them, and a rune that is parsed leaves them pending.
func TestPending(t *testing.T) {
	for _, w := range ways() {
		for half, rest := range halves {
			b := w.led(t)
			text := b.p.Text()
			if l := b.p.Write([]byte(half)); len(l) != 0 || b.p.State() != w.state || b.p.Text() != text || b.p.Ground() {
				t.Fatalf("%.40q, % x: %v, state %d, Ground %t", w.s, half, l, b.p.State(), b.p.Ground())
			}
			b.plain.decoder.Feed([]byte(half))
			c, d := b.copy(), b.copy()
			b.write(t, rest+"1;2m")
			c.write(t, "m")
			d.step(t, 0x18)
			if d.p.Ground() || d.p.State() != api.StateGround {
				t.Fatalf("%.40q, % x, 18: Ground is %t, state %d", w.s, half, d.p.Ground(), d.p.State())
			}
			d.write(t, rest)
			if s := half + rest; s != "\u009b" && !d.p.Ground() {
				t.Fatalf("%.40q, % x: state %d", w.s, s, d.p.State())
			}
		}
	}
}

// P11.2: Ground, with nothing open, with a sequence open, with pending bytes, and with both.
func TestGround(t *testing.T) {
	for s, want := range map[string]bool{
		"": true, "a": true, "\n": true, "é": true, "\xff": true, "\x1b[m": true, "\x1b(B": true, "\x1b]x\a": true, "\x1b[:m": true, "\x1bPx\x18": true, "\xc3a": true,
		"\x1b": false, "\x1b(": false, "\x1b[": false, "\x1b[5": false, "\x1b[ ": false, "\x1b[:": false, "\x1b]": false, "\x1b]x": false, "\x1bP": false, "\x1b_x": false,
		"\xc3": false, "a\xe4": false, "\xe4\xb8": false, "\xf0\x9f\x98": false, "\x1b[m\xc3": false, "\x1b[\xc3": false, "\x1b]\xc3": false, "\x1bP\xf0": false, "\xc3\xc3": false,
	} {
		var p parser.Parser
		p.Write([]byte(s))
		if p.Ground() != want || p.Ground() != want {
			t.Errorf("%q: Ground is %t", s, p.Ground())
		}
	}
}

// P11.2: whatever a parser had, after Reset it is as a new one, also its pending bytes.
func TestReset(t *testing.T) {
	for _, w := range ways() {
		for _, half := range []string{"", "\xc3", "\xe4\xb8", "\xf0\x9f\x98"} {
			b := w.led(t)
			b.p.Write([]byte(half))
			c := b.p.Copy()
			b.p.Reset()
			fresh := both{b.p, newPlain()}
			fresh.check(t)
			fresh.goOn(t)
			for _, s := range []string{"\xa9", "\x96", "\x80a", "1m", "\x1b[m", "\x1b]\a", "\x1b[1;2 q\x1b(B"} {
				d := fresh.copy()
				d.write(t, s)
				d.p.Reset()
				both{d.p, newPlain()}.goOn(t)
			}
			b.p.Reset()
			fresh.check(t)
			if c.State() != w.state || c.Ground() != (half == "" && w.state == api.StateGround) {
				t.Fatalf("%.40q: Reset changed a copy, state %d", w.s, c.State())
			}
		}
	}
}

// P11.2: a copy is in the same state, and whatever is done to the other parser, each goes on by itself; also a copy of the struct.
func TestCopy(t *testing.T) {
	after := []string{"a", "\xa9", "\xb8\x96x", "7;8", ";9", "!", "(", "é\x1b[3", "\a", "\x1b]yy", "\x1b", "\x18\xe4"}
	for _, w := range ways() {
		for _, half := range []string{"", "\xc3", "\xe4"} {
			start := w.led(t)
			start.write(t, half)
			for i, s := range after {
				one := start.copy()
				if one.p == nil || one.p == start.p {
					t.Fatal("the copy is none")
				}
				one.check(t)
				two := one.copy()
				three := both{new(parser.Parser), one.plain.copy()}
				*three.p = *one.p
				other := after[(i+5)%len(after)]
				one.write(t, s)
				two.check(t)
				two.write(t, other)
				one.check(t)
				three.check(t)
				one.write(t, "5m\x1b\\")
				two.write(t, "6m\a")
				three.write(t, "2"+s)
				one.p.Reset()
				two.check(t)
				two.write(t, s)
				both{one.p, newPlain()}.goOn(t)
				three.write(t, "n\a")
			}
			start.check(t)
		}
	}
}

// P11.2: a copy of a parser whose text is open shares no text with it, whichever goes on first.
func TestCopyText(t *testing.T) {
	for _, n := range []int{0, 1, 3, 7, 8, 15, 31, 500, 1020, 1023, 1024} {
		var p parser.Parser
		text := strings.Repeat("a", n)
		p.Write([]byte("\x1b]" + text))
		c, d := p.Copy(), p
		p.Write([]byte("pppp"))
		c.Write([]byte("cccc"))
		d.Write([]byte("dddd"))
		for s, x := range map[string]*parser.Parser{"p": &p, "c": c, "d": &d} {
			want := text + strings.Repeat(s, min(4, mostText-n))
			if x.Text() != want || !same(x.Write([]byte("\a")), list(said(want))) {
				t.Errorf("%d bytes, %s: %.20q", n, s, x.Text())
			}
		}
	}
}

// Rules: changing the parameters of an action, up to the end of their memory, changes nothing else, and going on changes no action.
func TestParamsAreNew(t *testing.T) {
	many := "\x1b[" + strings.Repeat("3;", 30) + "m"
	s := []byte("\x1b[1;2m\x1b[1;2m\x1b[?5;;6h\x1b[m" + many + many + "\x1b[4;5")
	var p parser.Parser
	first := p.Write(s)
	kept := p.Copy().Write([]byte("H"))
	want := []string{"1;2", "1;2", "5;;6", "", strings.Repeat("3;", 15) + "3", strings.Repeat("3;", 15) + "3"}
	for i := range first {
		l := first[i].Params[:cap(first[i].Params)]
		for k := range l {
			l[k] = 77
		}
		for k := i + 1; k < len(first); k++ {
			if text, e := params.Text(first[k].Params); text != want[k] || e != api.OK {
				t.Errorf("changing the parameters of action %d changed those of %d: %v", i, k, first[k].Params)
			}
		}
	}
	c := p.Copy()
	if l := p.Write([]byte("6m")); !same(l, list(controlled(0, "", 'm', 4, 56))) {
		t.Error(l)
	}
	if l := c.Write([]byte("m")); !same(l, list(controlled(0, "", 'm', 4, 5))) {
		t.Error(l)
	}
	p.Write([]byte("\x1b[8;8;8m"))
	if !same(kept, list(controlled(0, "", 'H', 4, 5))) {
		t.Errorf("going on changed an action: %v", kept)
	}
	if again := new(parser.Parser).Write(s[:6]); !same(again, list(controlled(0, "", 'm', 1, 2))) {
		t.Error(again)
	}
}

// Rules: what one call returned shares nothing with what the next one does, also behind the end of the list.
func TestListsAreNew(t *testing.T) {
	var p parser.Parser
	first := p.Write([]byte("abc"))
	second := p.Write([]byte("de"))
	third := p.Step('f')
	for _, l := range [][]api.Action{first, third} {
		l = l[:cap(l)]
		for i := range l {
			l[i] = said("changed")
		}
	}
	if !same(second, letters("de")) || !same(p.Step('g'), letters("g")) || !same(p.Write([]byte("hi")), letters("hi")) {
		t.Error(second)
	}
}

// Rules: bytes stay as they were, and are not kept: what they become later changes nothing.
func TestBytes(t *testing.T) {
	for _, s := range samples {
		want := new(parser.Parser).Write([]byte(s + "\xa9x\a"))
		b := append([]byte(s), "behind"...)
		var p parser.Parser
		l := p.Write(b[:len(s)])
		if string(b) != s+"behind" {
			t.Fatalf("%q became %q", s, b)
		}
		text, state := p.Text(), p.State()
		for i := range b {
			b[i] = '5'
		}
		if p.Text() != text || p.State() != state {
			t.Fatalf("%q: changing the bytes changed the parser", s)
		}
		if l = append(l, p.Write([]byte("\xa9x\a"))...); !same(l, want) {
			t.Fatalf("%q: %v, not %v", s, l, want)
		}
	}
	var p parser.Parser
	if len(p.Write(nil)) != 0 || len(p.Write([]byte{})) != 0 || !p.Ground() {
		t.Error("no bytes")
	}
	p.Write([]byte("\x1b[5"))
	if len(p.Write(nil)) != 0 || p.State() != api.StateParam {
		t.Error("no bytes in a sequence")
	}
}

// P11.2: asking changes nothing.
func TestAsking(t *testing.T) {
	for _, s := range samples {
		var p parser.Parser
		var l []api.Action
		for i := range len(s) {
			l = append(l, p.Write([]byte(s[i:i+1]))...)
			for range 3 {
				p.State()
				p.Text()
				p.Ground()
				p.Copy().Reset()
			}
		}
		if want := new(parser.Parser).Write([]byte(s)); !same(l, want) {
			t.Errorf("%q: %v, not %v", s, l, want)
		}
	}
}

// P11.3: whatever was parsed, 18 and 1B 5B, and each of both alone, lead to the same as if nothing had been open.
func TestForgetting(t *testing.T) {
	for _, w := range ways() {
		for _, s := range []string{"\x18", "\x1b[", "\x18\x1b[", "\x1a", "\x1b"} {
			b := w.led(t)
			for _, r := range s {
				b.p.Step(r)
			}
			fresh := newBoth()
			fresh.steps(t, s)
			if b.p.State() != fresh.p.State() || b.p.Text() != "" {
				t.Fatalf("%.40q, %q: state %d", w.s, s, b.p.State())
			}
			both{b.p, fresh.plain}.goOn(t)
		}
	}
}

// checkActions checks what P11.3 says of actions, and that all parts that a kind does not need are zero values.
func checkActions(t *testing.T, l []api.Action) {
	t.Helper()
	for _, a := range l {
		if len(a.Inter) > mostInter || len(a.Params) > mostParams || !params.Valid(a.Params) || len(a.Text) > mostText || !utf8.ValidString(a.Text) {
			t.Fatalf("%v", a)
		}
		var only api.Action
		switch a.Kind {
		case api.ActPrint:
			only = printed(a.Rune)
		case api.ActExecute:
			only = executed(a.Rune)
		case api.ActEscape:
			only = escaped(a.Inter, a.Rune)
		case api.ActControl:
			only = controlled(a.Prefix, a.Inter, a.Rune, a.Params...)
		case api.ActString:
			only = said(a.Text)
		}
		if !same(list(a), list(only)) {
			t.Fatalf("%v has other parts than %v", a, only)
		}
	}
}

// P11.3: a sequence has at most 2 intermediates, and at most 16 parameters; plain runes in ground are printed.
func TestConsequences(t *testing.T) {
	if parser.MaxInter != mostInter {
		t.Error(parser.MaxInter)
	}
	random := rand.New(rand.NewSource(3))
	const bytes = "\x1b\x1b\x1b[[[[](  !/5;;;;;:?<m@~\a\n\x7f\xc2\x9b\xe4\xb8\x96\xff"
	for range 3000 {
		b := make([]byte, random.Intn(300))
		for i := range b {
			b[i] = bytes[random.Intn(len(bytes))]
		}
		var p parser.Parser
		checkActions(t, p.Write(b))
		checkActions(t, p.Step(rune(random.Uint32())))
		p.Step(0x18)
		p.Step(0x18)
		for _, r := range "aé世😀 ~\u00a0\ufffd" {
			if l := p.Step(r); !same(l, letters(string(r))) {
				t.Fatalf("%q is %v", r, l)
			}
		}
	}
}

// P1 and the rules: a nil parser, for every method; a zero one is ready for use.
func TestNil(t *testing.T) {
	var none *parser.Parser
	for range 2 {
		for _, r := range []rune{'a', 0x1b, 0x18, 0x9b, -1, math.MinInt32, math.MaxInt32} {
			if l := none.Step(r); len(l) != 0 {
				t.Error(l)
			}
		}
		if l := none.Write([]byte("a\x1b[m\x1b]x")); len(l) != 0 || len(none.Write(nil)) != 0 {
			t.Error(l)
		}
		if none.State() != api.StateGround || none.Text() != "" || !none.Ground() || none.Copy() != nil {
			t.Error("nil")
		}
		none.Reset()
	}
	var zero parser.Parser
	if zero.State() != api.StateGround || zero.Text() != "" || !zero.Ground() || zero.Copy() == nil {
		t.Error("zero")
	}
	zero.Reset()
	if l := zero.Write([]byte("a")); !same(l, letters("a")) {
		t.Error(l)
	}
}
