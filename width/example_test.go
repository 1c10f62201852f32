package width_test

import (
	"fmt"

	"scrollback/width"
)

func ExampleFits() {
	l := []rune{0x61, 0x301, 0x4e00, 0x62}
	for _, r := range l {
		fmt.Println(width.Of(r))
	}
	fmt.Println(width.Text(l), width.Fits(l, 2), width.Fits(l, 3))
	// Output:
	// 1
	// 0
	// 2
	// 1
	// 4 2 3
}
