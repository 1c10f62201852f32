package cell_test

import (
	"fmt"

	"scrollback/api"
	"scrollback/cell"
)

func ExampleOf() {
	p := api.Pen{Flags: api.FlagBold}
	l, e := cell.Of(0x4e00, p)
	fmt.Println(len(l), l[0].Width, l[1] == cell.Spacer(p), e)
	c, e := cell.Mark(l[0], 0x301)
	fmt.Printf("%+q %d\n", cell.Text(c), e)
	_, e = cell.Mark(cell.Blank(p), 0x301)
	fmt.Println(e == api.ErrState)
	// Output:
	// 2 2 true 0
	// "\u4e00\u0301" 0
	// true
}

func ExampleFix() {
	p := api.Pen{Flags: api.FlagBold}
	l, _ := cell.Of(0x4e00, p)
	fmt.Println(cell.Row(l), cell.Row(l[:1]))
	fixed := cell.Fix(l[:1])
	fmt.Println(fixed[0] == cell.Blank(p), cell.Row(fixed))
	fmt.Printf("%+q\n", cell.Texts(append(l, fixed...)))
	// Output:
	// true false
	// true true
	// "\u4e00 "
}
