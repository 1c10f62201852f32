package utf_test

import (
	"fmt"

	"scrollback/utf"
)

func ExampleDecoder() {
	var d utf.Decoder
	l := d.Feed([]byte("a\xe2\x82"))
	fmt.Printf("%x, pending % x\n", l, d.Pending())
	l = append(l, d.Step(0xac)...)
	l = append(l, d.End()...)
	fmt.Printf("%x, bytes % x\n", l, utf.Encode(l))
	// Output:
	// [61], pending e2 82
	// [61 20ac], bytes 61 e2 82 ac
}
