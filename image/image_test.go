package image

import (
	"hash/crc32"
	"math/rand/v2"
	"testing"
)

func TestSum(t *testing.T) {
	if got := Sum([]byte("123456789")); got != 0xcbf43926 {
		t.Errorf("the sum of the digits: %x", got)
	}
	random := rand.New(rand.NewPCG(3, 4))
	for size := range 300 {
		bytes := make([]byte, size)
		for i := range bytes {
			bytes[i] = byte(random.IntN(256))
		}
		if got, want := Sum(bytes), crc32.ChecksumIEEE(bytes); got != want {
			t.Errorf("the sum of %x: %x, want %x", bytes, got, want)
		}
	}
}

func TestEncode(t *testing.T) {
	for _, c := range []struct {
		image Image
		want  string // without its sum
	}{
		{Image{}, "HELM1\x00\x00\x00"},
		{Image{Leaves: []Leaf{{"a", []byte{6, 2, 1, 0, 0, 0}}}}, "HELM1\x00\x01\x00\x01a\x06\x00\x06\x02\x01\x00\x00\x00"},
		{Image{Vars: []Var{{-1000, 1000}, {5, 5}}, First: 1, Leaves: []Leaf{{"abcdefgh", make([]byte, 258)}, {"b", []byte{0}}}},
			"HELM1\x02\x18\xfc\xe8\x03\x05\x00\x05\x00\x02\x01\x08abcdefgh\x02\x01" + string(make([]byte, 258)) + "\x01b\x01\x00\x00"},
	} {
		sum := crc32.ChecksumIEEE([]byte(c.want))
		want := c.want + string([]byte{byte(sum), byte(sum >> 8), byte(sum >> 16), byte(sum >> 24)})
		if got := Encode(c.image); got != want {
			t.Errorf("Encode(%+v) = %x, want %x", c.image, got, want)
		}
	}
}
