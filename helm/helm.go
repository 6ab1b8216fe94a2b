// Package helm: mode tables that leave nothing open: see DOC.md.
package helm

import (
	"helm/api"
	"helm/cases"
	"helm/emit"
	"helm/table"
	"helm/token"
)

// Print prints a table (P3).
func Print(text string) (string, api.Fault) {
	t, fault := table.Read(text)
	if fault.Code != api.OK {
		return "", fault
	}
	return token.Join(t.Tokens), api.Fault{}
}

// Compile makes an image of a table (P4).
func Compile(text string) (string, api.Fault) {
	t, fault := table.Read(text)
	if fault.Code == api.OK {
		fault = cases.Find(t)
	}
	if fault.Code != api.OK {
		return "", fault
	}
	return emit.Image(t), api.Fault{}
}
