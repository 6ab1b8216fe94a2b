package code

import (
	"slices"
	"testing"
)

func TestInstructions(t *testing.T) {
	if got := []byte{Halt, Goes, Skip, Both, Some, Turn, Yes, Less, Same}; !slices.Equal(got, []byte{0, 1, 2, 3, 4, 5, 6, 7, 8}) {
		t.Errorf("instructions %v", got)
	}
}

func TestAppendTwo(t *testing.T) {
	for number, want := range map[int][]byte{0: {9, 0, 0}, 1: {9, 1, 0}, 256: {9, 0, 1}, 60000: {9, 0x60, 0xea}, -1: {9, 255, 255}, -1000: {9, 0x18, 0xfc}} {
		if got := AppendTwo([]byte{9}, number); !slices.Equal(got, want) {
			t.Errorf("AppendTwo(%d) = %v, want %v", number, got, want)
		}
	}
}

func TestTwo(t *testing.T) {
	for number := -32768; number < 65536; number++ {
		bytes := AppendTwo(nil, number)
		two := Two(bytes[0], bytes[1])
		if two != (number+65536)%65536 {
			t.Fatalf("Two(%v) = %d, want %d", bytes, two, number)
		}
		if signed := Signed(two); signed != number && number < 32768 || signed != number-65536 && number >= 32768 {
			t.Fatalf("Signed(%d) = %d", two, signed)
		}
	}
}
