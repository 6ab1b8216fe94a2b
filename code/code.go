// Package code knows the instructions of which an image's programs are made.
package code

// The instructions' bytes.
const (
	Halt byte = iota
	Goes
	Skip
	Both
	Some
	Turn
	Yes
	Less
	Same
)

// AppendTwo puts a number of two bytes behind, the low one first; its sign, if it has one, comes along.
func AppendTwo(to []byte, number int) []byte {
	return append(to, byte(number), byte(number>>8))
}
