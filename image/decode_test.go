package image

import (
	"reflect"
	"testing"
)

func TestDecodeReadsWhatEncodeWrites(t *testing.T) {
	for _, im := range []Image{
		{Leaves: []Leaf{{"", []byte{}}}},
		{Leaves: []Leaf{{"a", []byte{6, 2, 1, 0, 0, 0}}}},
		{Vars: []Var{{-32768, 32767}, {5, 4}, {-1, -1}}, First: 1, Leaves: []Leaf{{"abcdefgh", make([]byte, 59900)}, {"\xff\x00", []byte{255, 0}}}},
		{First: 11, Leaves: make([]Leaf, 12)},
	} {
		for i := range im.Leaves {
			if im.Leaves[i].Program == nil {
				im.Leaves[i].Program = []byte{}
			}
		}
		if got, ok := Decode(Encode(im)); !ok || !reflect.DeepEqual(got, im) {
			t.Errorf("Decode(Encode(%+v)) = %+v, %v", im, got, ok)
		}
	}
}

func TestDecodeRefuses(t *testing.T) {
	leaf := Leaf{"a", []byte{0}}
	for what, bytes := range map[string]string{
		"nothing":        "",
		"a sum":          "\x00\x00\x00\x00",
		"no leaf":        Encode(Image{}),
		"no first leaf":  Encode(Image{First: 1, Leaves: []Leaf{leaf}}),
		"four variables": Encode(Image{Vars: make([]Var, 4), Leaves: []Leaf{leaf}}),
		"13 leaves":      Encode(Image{Leaves: make([]Leaf, 13)}),
		"a name of 9":    Encode(Image{Leaves: []Leaf{{"abcdefghi", []byte{0}}}}),
		"60001 bytes":    Encode(Image{Leaves: []Leaf{{"", make([]byte, 60001-15)}}}),
	} {
		if got, ok := Decode(bytes); ok || !reflect.DeepEqual(got, Image{}) {
			t.Errorf("%s: Decode(%.50x) = %+v, %v", what, bytes, got, ok)
		}
	}
	if _, ok := Decode(Encode(Image{Leaves: []Leaf{{"", make([]byte, 60000-15)}}})); !ok {
		t.Error("Decode refuses 60000 bytes")
	}
}
