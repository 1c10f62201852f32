package packed_test

import (
	"fmt"

	"scrollback/api"
	"scrollback/cell"
	"scrollback/packed"
)

func ExamplePack() {
	a := api.Cell{Rune: 'a', Width: 1}
	wide, _ := cell.Of(0x4e00, api.Pen{})
	l := append([]api.Cell{a, a, cell.Blank(api.Pen{})}, wide...)
	runs, e := packed.Pack(l)
	for _, r := range runs {
		fmt.Println(r.Count, r.Words)
	}
	again, f := packed.Unpack(runs)
	fmt.Println(e, f, packed.Count(runs), cell.Texts(again) == cell.Texts(l))
	// Output:
	// 2 [0 2097249 0]
	// 1 [0 2097152 0]
	// 1 [0 4214272 0]
	// 1 [0 0 0]
	// 0 0 5 true
}

func ExampleJoin() {
	a := api.Cell{Rune: 'a', Width: 1}
	first, _ := packed.Pack([]api.Cell{a, a})
	second, _ := packed.Pack([]api.Cell{a, cell.Blank(api.Pen{})})
	runs, e := packed.Join(first, second)
	fmt.Println(len(runs), runs[0].Count, runs[1].Count, e)
	_, e = packed.Join(first, []api.Run{{Count: 0}})
	fmt.Println(e == api.ErrMalformed)
	// Output:
	// 2 3 1 0
	// true
}
