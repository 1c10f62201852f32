package params_test

import (
	"fmt"

	"scrollback/api"
	"scrollback/params"
)

func ExampleParse() {
	l, e := params.Parse("38;;007;12345")
	fmt.Println(l, e)
	s, e := params.Text(l)
	fmt.Println(s, e)
	_, e = params.Parse("38:5")
	fmt.Println(e == api.ErrFormat)
	// Output:
	// [38 -1 7 9999] 0
	// 38;;7;9999 0
	// true
}

func ExampleGet() {
	l := []int{5, -1, 0}
	for i := range 4 {
		fmt.Println(params.Get(l, i, 9), params.One(l, i))
	}
	// Output:
	// 5 5
	// 9 1
	// 0 1
	// 9 1
}

func ExampleBuilder() {
	var b params.Builder
	for _, r := range "42;x" {
		fmt.Println(b.Add(r), b.List())
	}
	c := b.Copy()
	b.Reset()
	fmt.Println(b.List(), c.List())
	// Output:
	// true [4]
	// true [42]
	// true [42 -1]
	// false [42 -1]
	// [] [42 -1]
}
