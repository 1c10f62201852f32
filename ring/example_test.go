package ring_test

import (
	"fmt"

	"scrollback/api"
	"scrollback/line"
	"scrollback/ring"
)

func ExampleRing() {
	r, e := ring.New(3, 2)
	fmt.Println(r.Most(), r.Len(), r.Pages(), e)
	for _, c := range "abcde" {
		l, _ := line.Of([]api.Cell{{Rune: c, Width: 1}}, false)
		n, e := r.Push(l)
		fmt.Println(n, e, r.First(), r.Next(), r.Pages())
	}
	l, e := r.Pop()
	fmt.Println(line.Text(l), e, r.First(), r.Next(), r.Pages())
	all, e := r.Range(r.First(), r.Next())
	for _, l := range all {
		fmt.Println(line.Text(l), e)
	}
	// Output:
	// 3 0 0 0
	// 0 0 0 1 1
	// 1 0 0 2 1
	// 2 0 0 3 2
	// 3 0 1 4 2
	// 4 0 2 5 2
	// e 0 2 4 1
	// c 0
	// d 0
}

func ExampleRing_Get() {
	r, _ := ring.New(1, 4)
	l, _ := line.New(7)
	for range 3 {
		r.Push(l)
	}
	l, e := r.Get(2)
	fmt.Println(len(l.Cells), e)
	_, e = r.Get(1)
	fmt.Println(e == api.ErrGone)
	_, e = r.Get(3)
	fmt.Println(e == api.ErrRange)
	// Output:
	// 7 0
	// true
	// true
}

func ExampleRing_Limit() {
	r, _ := ring.New(api.MaxHistory, 2)
	for range 5 {
		r.Push(api.Line{})
	}
	c := r.Copy()
	fmt.Println(r.Limit(1), r.First(), r.Len(), r.Pages())
	r.Clear()
	fmt.Println(r.First(), r.Len(), r.Pages())
	fmt.Println(c.First(), c.Len(), c.Pages())
	// Output:
	// 0 4 1 1
	// 5 0 0
	// 0 5 3
}
