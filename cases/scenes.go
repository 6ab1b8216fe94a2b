package cases

import (
	"slices"

	"helm/table"
)

// guard tells whether a row is true of the numbers of two samples.
type guard func(numbers []int) bool

// reader makes guards of a table's, and keeps where, going up each number, an atom may become true or false.
type reader struct {
	table *table.Table
	cuts  [][]int
}

// scenesOf takes, for each number of two samples, the least one of all that no atom tells apart: all other samples are like one of these.
func scenesOf(t *table.Table) []scene {
	r := reader{table: t, cuts: make([][]int, 2*len(t.Vars))}
	guards := r.readRows()
	choices := make([][]int, len(r.cuts))
	for i, cuts := range r.cuts {
		v := t.Vars[i%len(t.Vars)]
		choices[i] = leastOnes(v.First.Value, v.Last.Value, cuts)
	}
	var scenes []scene
	for _, numbers := range combine(choices) {
		scenes = append(scenes, scene{numbers, trueRows(guards, numbers)})
	}
	return scenes
}

// leastOnes are the numbers from first to last at which a stretch begins that is not cut.
func leastOnes(first, last int, cuts []int) []int {
	least := []int{first}
	for _, cut := range cuts {
		if first < cut && cut <= last {
			least = append(least, cut)
		}
	}
	slices.Sort(least)
	return slices.Compact(least)
}

// combine makes all lists that have one number of each choice.
func combine(choices [][]int) [][]int {
	lists := [][]int{{}}
	for _, choice := range choices {
		var longer [][]int
		for _, list := range lists {
			for _, number := range choice {
				longer = append(longer, append(slices.Clip(list), number))
			}
		}
		lists = longer
	}
	return lists
}

func trueRows(guards []guard, numbers []int) rowSet {
	var rows rowSet
	for i, isTrue := range guards {
		if isTrue(numbers) {
			rows |= 1 << i
		}
	}
	return rows
}

func (r *reader) readRows() []guard {
	var guards []guard
	for _, m := range r.table.Modes {
		for _, row := range m.Rows {
			guards = append(guards, r.read(row.Guard))
		}
	}
	return guards
}

func (r *reader) read(g table.Guard) guard {
	switch g := g.(type) {
	case table.Or:
		left, right := r.read(g.Left), r.read(g.Right)
		return func(numbers []int) bool { return left(numbers) || right(numbers) }
	case table.And:
		left, right := r.read(g.Left), r.read(g.Right)
		return func(numbers []int) bool { return left(numbers) && right(numbers) }
	case table.Not:
		of := r.read(g.Of)
		return func(numbers []int) bool { return !of(numbers) }
	case table.Group:
		return r.read(g.Of)
	case table.Atom:
		return r.readAtom(g)
	}
	return func([]int) bool { return true }
}

func (r *reader) readAtom(a table.Atom) guard {
	q := r.table.Question(a)
	r.cuts[q.Which] = append(r.cuts[q.Which], q.Cuts()...)
	return q.Answer
}
