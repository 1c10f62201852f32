package line_test

import (
	"fmt"

	"scrollback/api"
	"scrollback/cell"
	"scrollback/line"
)

func ExampleFit() {
	wide, _ := cell.Of(0x4e00, api.Pen{})
	a := api.Cell{Rune: 'a', Width: 1}
	l, e := line.Of([]api.Cell{a, wide[0], wide[1]}, true)
	fmt.Println(len(l.Cells), l.Soft, e)
	cut, _ := line.Fit(l, 2)
	fmt.Printf("%q %d %d %t\n", line.Text(cut), len(cut.Cells), line.Used(cut), cut.Soft)
	longer, _ := line.Fit(l, 5)
	trimmed, _ := line.Trim(longer)
	fmt.Println(len(longer.Cells), len(trimmed.Cells), line.Equal(trimmed, l))
	// Output:
	// 3 true 0
	// "a" 2 1 true
	// 5 3 true
}

func ExamplePut() {
	wide, _ := cell.Of(0x4e00, api.Pen{})
	a := api.Cell{Rune: 'a', Width: 1}
	l, _ := line.New(4)
	l, _ = line.Put(l, 1, wide)
	fmt.Printf("%+q\n", line.Text(l))
	l, _ = line.Put(l, 2, []api.Cell{a})
	fmt.Printf("%+q\n", line.Text(l))
	_, e := line.Put(l, 3, wide)
	fmt.Println(e == api.ErrRange)
	// Output:
	// " \u4e00"
	// "  a"
	// true
}
