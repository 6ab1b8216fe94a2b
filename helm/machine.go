package helm

import (
	"slices"
	"strings"

	"helm/api"
	"helm/code"
	"helm/image"
)

// Machine runs an image.
type Machine struct {
	image image.Image // never changed
	at    int         // the number of the leaf
	ahead []int       // the sample that was taken last; nil, if there is none yet
}

// Load makes a machine of an image (P5, P6).
func Load(image string) (*Machine, bool) {
	im, ok := readRight(image)
	if !ok {
		return nil, false
	}
	m := &Machine{image: im}
	m.Reset()
	return m, true
}

// readRight reads an image, and tells whether it is one all of whose programs are right.
func readRight(bytes string) (image.Image, bool) {
	im, ok := image.Decode(bytes)
	if !ok {
		return image.Image{}, false
	}
	for _, leaf := range im.Leaves {
		// a program asks of two samples
		if !code.IsRight(leaf.Program, len(im.Leaves), 2*len(im.Vars)) {
			return image.Image{}, false
		}
	}
	return im, true
}

// Mode tells the leaf at which the machine is (P5).
func (m *Machine) Mode() string {
	return strings.Clone(m.image.Leaves[m.at].Name)
}

// Step takes a sample (P5).
func (m *Machine) Step(sample []int) (string, api.Errno) {
	if !m.isSample(sample) {
		return "", api.ErrSample
	}
	ahead := m.ahead
	if ahead == nil {
		ahead = sample
	}
	m.at = code.Run(m.image.Leaves[m.at].Program, slices.Concat(ahead, sample), m.at)
	m.ahead = slices.Clone(sample)
	return m.Mode(), api.OK
}

func (m *Machine) isSample(numbers []int) bool {
	if len(numbers) != len(m.image.Vars) {
		return false
	}
	for i, v := range m.image.Vars {
		if numbers[i] < v.Least || numbers[i] > v.Greatest {
			return false
		}
	}
	return true
}

// Reset makes the machine as at first (P5).
func (m *Machine) Reset() {
	m.at = m.image.First
	m.ahead = nil
}
