// Package image lays out the bytes of an image, and reads them.
package image

import "helm/code"

// head is what every image begins with.
const head = "HELM1"

// Image is what the bytes of an image tell.
type Image struct {
	Vars   []Var
	Leaves []Leaf
	First  int // the number of the leaf where a machine is at first
}

// Var is the least and the greatest number of a variable.
type Var struct{ Least, Greatest int }

// Leaf is a leaf's name and its program.
type Leaf struct {
	Name    string
	Program []byte
}

// Encode writes an image, its sum behind it. All counts must have room in their bytes.
func Encode(im Image) string {
	b := append([]byte(head), byte(len(im.Vars)))
	for _, v := range im.Vars {
		b = code.AppendTwo(b, v.Least)
		b = code.AppendTwo(b, v.Greatest)
	}
	b = append(b, byte(len(im.Leaves)), byte(im.First))
	for _, leaf := range im.Leaves {
		b = append(b, byte(len(leaf.Name)))
		b = append(b, leaf.Name...)
		b = code.AppendTwo(b, len(leaf.Program))
		b = append(b, leaf.Program...)
	}
	return string(append(b, sumBytes(b)...))
}

// sumBytes is the sum of an image's other bytes, as it stands behind them.
func sumBytes(body []byte) []byte {
	sum := Sum(body)
	return []byte{byte(sum), byte(sum >> 8), byte(sum >> 16), byte(sum >> 24)}
}
