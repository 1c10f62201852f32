package pen_test

import (
	"fmt"

	"scrollback/api"
	"scrollback/pen"
)

func ExamplePack() {
	p := api.Pen{Fore: pen.Index(7), Back: pen.True(1, 2, 3)}
	p, e := pen.With(p, api.FlagBold, true)
	fmt.Println(pen.Has(p, api.FlagBold), pen.Has(p, api.FlagFaint), e)
	w, e := pen.Pack(p)
	fmt.Printf("%x %d\n", w, e)
	q, e := pen.Unpack(w)
	fmt.Println(q == p, e)
	q, e = pen.Unpack(1)
	fmt.Println(q == api.Pen{}, e == api.ErrMalformed)
	// Output:
	// true false 0
	// 1804080d000007 0
	// true 0
	// true true
}

func ExampleByWord() {
	f, _ := pen.ByWord("underline")
	s, _ := pen.Word(f)
	fmt.Println(f == api.FlagUnderline, s, len(pen.All()))
	// Output: true underline 8
}
