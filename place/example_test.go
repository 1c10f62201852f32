package place_test

import (
	"fmt"

	"scrollback/api"
	"scrollback/place"
)

func ExampleCompare() {
	a, b := api.Place{Line: 3, Column: 0}, api.Place{Line: 2, Column: 9}
	fmt.Println(place.Compare(a, b))
	from, to := place.Order(a, b)
	fmt.Println(from, to)
	fmt.Println(place.Within(b, from, to), place.Within(a, from, to))
	// Output:
	// 1
	// {2 9} {3 0}
	// true false
}

func ExampleClamp() {
	for _, p := range []api.Place{{Line: 1, Column: 2}, {Line: 3, Column: 7}, {Line: 5, Column: 0}} {
		fmt.Println(place.Clamp(p, 2, 5, 4))
	}
	_, e := place.Clamp(api.Place{}, 2, 2, 4)
	fmt.Println(e == api.ErrArg)
	// Output:
	// {2 0} 0
	// {3 3} 0
	// {4 3} 0
	// true
}

func ExampleStep() {
	a := api.Place{Line: 2, Column: 3}
	b, e := place.Step(a, 1, 4)
	fmt.Println(b, e)
	n, e := place.Distance(b, a, 4)
	fmt.Println(n, e)
	_, e = place.Step(a, -12, 4)
	fmt.Println(e == api.ErrRange)
	// Output:
	// {3 0} 0
	// -1 0
	// true
}

func ExampleParse() {
	p, e := place.Parse("7:3")
	fmt.Println(p, e)
	s, e := place.Text(p)
	fmt.Println(s, e)
	_, e = place.Parse("07:3")
	fmt.Println(e == api.ErrFormat)
	// Output:
	// {7 3} 0
	// 7:3 0
	// true
}
