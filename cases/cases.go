// Package cases finds the cases that a table leaves open, or decides twice.
package cases

import (
	"math/bits"
	"strings"

	"helm/api"
	"helm/table"
)

// scene is two samples, and which rows are true of them.
type scene struct {
	numbers []int // of both samples, those of the sample ahead first
	rows    rowSet
}

// rowSet is a set of rows, which are numbered through the whole table: MaxRows of them have room in it.
type rowSet uint32

// place is a leaf, and the rows of the modes around it, from the outermost one to itself.
type place struct {
	name string
	path []rowSet
}

// Find tells an overlap, or else a gap, of a table without other faults, or that there is none.
func Find(t *table.Table) api.Fault {
	places, scenes := placesOf(t), scenesOf(t)
	fault := findOne(api.ErrOverlap, places, scenes)
	if fault.Code == api.OK {
		fault = findOne(api.ErrGap, places, scenes)
	}
	return fault
}

// findOne tells the first case that has the given fault.
func findOne(code api.Errno, places []place, scenes []scene) api.Fault {
	var fault api.Fault
search:
	for _, p := range places {
		for _, s := range scenes {
			if judge(p.path, s.rows) == code {
				fault = tell(code, p.name, s.numbers)
				break search
			}
		}
	}
	return fault
}

// judge tells what a case is: the first mode with a true row decides it, whatever stands in the modes behind.
func judge(path []rowSet, isTrue rowSet) api.Errno {
	for _, rows := range path {
		switch bits.OnesCount32(uint32(rows & isTrue)) {
		case 0:
			continue
		case 1:
			return api.OK
		}
		return api.ErrOverlap
	}
	return api.ErrGap
}

// tell copies all that it is given, so that a fault keeps neither the text nor one list in both samples.
func tell(code api.Errno, leaf string, numbers []int) api.Fault {
	half := len(numbers) / 2
	return api.Fault{
		Code:   code,
		Mode:   strings.Clone(leaf),
		Before: append([]int{}, numbers[:half]...),
		Now:    append([]int{}, numbers[half:]...),
	}
}

func placesOf(t *table.Table) []place {
	rows := rowsOf(t)
	var places []place
	for _, leaf := range t.Leaves() {
		p := place{name: leaf.Name.Text}
		for _, m := range leaf.Path() {
			p.path = append(p.path, rows[m.Name.Text])
		}
		places = append(places, p)
	}
	return places
}

// rowsOf numbers the rows in the order of the text, and tells those of each mode by its name.
func rowsOf(t *table.Table) map[string]rowSet {
	rows := map[string]rowSet{}
	row := rowSet(1)
	for _, m := range t.Modes {
		for range m.Rows {
			rows[m.Name.Text] |= row
			row <<= 1
		}
	}
	return rows
}
