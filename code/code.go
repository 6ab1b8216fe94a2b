// Package code knows the instructions of which an image's programs are made: what they do, when a program is right, and how it is run.
package code

// The instructions' bytes.
const (
	Halt byte = iota
	Goes
	Skip
	Both
	Some
	Turn
	Yes
	Less
	Same
)

// AppendTwo puts a number of two bytes behind, the low one first; its sign, if it has one, comes along.
func AppendTwo(to []byte, number int) []byte {
	return append(to, byte(number), byte(number>>8))
}

// Two is the number of two bytes that has no sign.
func Two(low, high byte) int {
	return int(low) | int(high)<<8
}

// Signed is the number with a sign that has the two bytes of one without.
func Signed(two int) int {
	return int(int16(two))
}
