// Package helm: mode tables that leave nothing open: see DOC.md.
package helm

import (
	"helm/api"
	"helm/cases"
	"helm/emit"
	"helm/table"
	"helm/token"
)

// Print prints a table (P3).
func Print(text string) (string, api.Fault) {
	t, fault := table.Read(text)
	if fault.Code != api.OK {
		return "", fault
	}
	return token.Join(t.Tokens), api.Fault{}
}

// Compile makes an image of a table (P4).
func Compile(text string) (string, api.Fault) {
	t, fault := table.Read(text)
	if fault.Code == api.OK {
		fault = cases.Find(t)
	}
	if fault.Code != api.OK {
		return "", fault
	}
	return emit.Image(t), api.Fault{}
}

// Machine runs an image.
type Machine struct{}

// Load makes a machine of an image (P5, P6).
func Load(image string) (*Machine, bool) { return nil, false }

// Mode tells the leaf at which the machine is (P5).
func (m *Machine) Mode() string { return "" }

// Step takes a sample (P5).
func (m *Machine) Step(sample []int) (string, api.Errno) { return "", api.OK }

// Reset makes the machine as at first (P5).
func (m *Machine) Reset() {}
