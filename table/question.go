package table

import "slices"

// Question is an atom by the few means of a machine: a number of two samples is held against another one, and the answer turned or not.
type Question struct {
	Which  int // of the numbers of both samples, those of the sample ahead first
	Same   bool
	Number int // which it is, if Same, else which it is less than
	Turned bool
}

// Question is what an atom of the table asks.
func (t *Table) Question(a Atom) Question {
	q := Question{Number: a.Number.Value}
	q.Which = slices.IndexFunc(t.Vars, func(v Var) bool { return v.Name.Text == a.Name.Text })
	if !a.Was {
		q.Which += len(t.Vars)
	}
	switch a.Op.Text {
	case "==", "!=":
		q.Same = true
	case "<=", ">":
		q.Number++
	}
	switch a.Op.Text {
	case "!=", ">=", ">":
		q.Turned = true
	}
	return q
}

// Answer tells what is true of the numbers of both samples.
func (q Question) Answer(numbers []int) bool {
	n := numbers[q.Which]
	if q.Same {
		return (n == q.Number) != q.Turned
	}
	return (n < q.Number) != q.Turned
}

// Cuts are the numbers at which, going up, the answer may become another one.
func (q Question) Cuts() []int {
	if q.Same {
		return []int{q.Number, q.Number + 1}
	}
	return []int{q.Number}
}
