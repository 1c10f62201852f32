package parser_test

import (
	"fmt"

	"scrollback/api"
	"scrollback/parser"
)

func ExampleParser_Write() {
	var p parser.Parser
	for _, s := range []string{"a\x1b[?1;3", "1h\x1b(B\r", "\x1b]0;hi\a"} {
		for _, a := range p.Write([]byte(s)) {
			switch a.Kind {
			case api.ActPrint, api.ActExecute:
				fmt.Printf("%d: %q\n", a.Kind, a.Rune)
			case api.ActEscape, api.ActControl:
				fmt.Printf("%d: prefix %q, parameters %v, intermediates %q, %q\n", a.Kind, a.Prefix, a.Params, a.Inter, a.Rune)
			case api.ActString:
				fmt.Printf("%d: %s\n", a.Kind, a.Text)
			}
		}
	}
	// Output:
	// 1: 'a'
	// 4: prefix '?', parameters [1 31], intermediates "", 'h'
	// 3: prefix '\x00', parameters [], intermediates "(", 'B'
	// 2: '\r'
	// 5: 0;hi
}

func ExampleParser_State() {
	var p parser.Parser
	for _, r := range "\x1b[5 m" {
		n := len(p.Step(r))
		fmt.Println(n, p.State(), p.Ground())
	}
	// Output:
	// 0 1 false
	// 0 3 false
	// 0 4 false
	// 0 5 false
	// 1 0 true
}

func ExampleParser_Copy() {
	var p parser.Parser
	p.Write([]byte("\x1b]0;a"))
	c := p.Copy()
	p.Write([]byte("b"))
	fmt.Println(p.Text(), c.Text())
	p.Reset()
	fmt.Println(p.Ground(), c.Ground())
	// Output:
	// 0;ab 0;a
	// true false
}
