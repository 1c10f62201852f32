package sheet_test

import (
	"fmt"

	"scrollback/api"
	"scrollback/line"
	"scrollback/sheet"
)

func ExampleSheet() {
	s, e := sheet.New(3)
	fmt.Println(s.Cap(), s.Len(), s.Room(), e)
	for _, r := range "xyz" {
		l, _ := line.Of([]api.Cell{{Rune: r, Width: 1}}, false)
		fmt.Print(s.Push(l), " ")
	}
	fmt.Println(s.Len(), s.Room())
	fmt.Println(s.Drop(1), s.Len(), s.Gone(), s.Room())
	fmt.Println(s.Push(api.Line{}) == api.ErrFull)
	l, e := s.Pop()
	fmt.Println(line.Text(l), e, s.Len(), s.Gone(), s.Room())
	for _, l := range s.Lines() {
		fmt.Println(line.Text(l))
	}
	// Output:
	// 3 0 3 0
	// 0 0 0 3 0
	// 0 2 1 0
	// true
	// z 0 1 1 1
	// y
}

func ExampleSheet_Set() {
	s, _ := sheet.New(2)
	l, _ := line.New(4)
	fmt.Println(s.Push(l), s.Set(0, api.Line{Soft: true}), s.Set(1, l) == api.ErrRange)
	l, e := s.Get(0)
	fmt.Println(len(l.Cells), l.Soft, e)
	_, e = s.Get(1)
	fmt.Println(e == api.ErrRange)
	// Output:
	// 0 0 true
	// 0 true 0
	// true
}
