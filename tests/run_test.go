package tests

import (
	"testing"

	"loop.example/reed/impl"
)

// A small machine for units of a few kinds of nodes: enough to see which variable a name is. What it has no word for it refuses.

// cell is a variable as long as a run has it.
type cell struct{ value any }

// made is a fn with what it closes over.
type made struct {
	fn  int
	ups []*cell
}

type printer struct{}

// machine is a run; frame is the call that is open.
type machine struct {
	t    *testing.T
	unit impl.Unit
	out  []any
}

type frame struct {
	fn   impl.Fn
	vars []*cell
	ups  []*cell
	back []any
	left bool
}

// runs answers all that a unit prints.
func runs(t *testing.T, u impl.Unit) []any {
	t.Helper()
	m := &machine{t: t, unit: u}
	m.call(made{}, nil)
	return m.out
}

func (m *machine) call(f made, args []any) []any {
	fr := &frame{fn: m.unit.Fns[f.fn], ups: f.ups}
	fr.vars = make([]*cell, len(fr.fn.Vars))
	for v := range fr.fn.Params {
		fr.vars[v] = &cell{}
		if v < len(args) {
			fr.vars[v].value = args[v]
		}
	}
	m.do(fr, len(fr.fn.Nodes)-1)
	return fr.back
}

func (m *machine) do(fr *frame, n int) {
	node := fr.fn.Nodes[n]
	switch node.Kind {
	case impl.NBlock:
		for _, k := range node.Kids {
			if m.do(fr, k); fr.left {
				return
			}
		}
	case impl.NLet:
		values := m.all(fr, node.Kids)
		for i, v := range node.Refs {
			fr.vars[v] = &cell{}
			if i < len(values) {
				fr.vars[v].value = values[i]
			}
		}
	case impl.NSet:
		values := m.all(fr, node.Kids[node.Num:])
		for i, k := range node.Kids[:node.Num] {
			m.cellOf(fr, k).value = values[i]
		}
	case impl.NDo:
		m.all(fr, node.Kids)
	case impl.NReturn:
		fr.back, fr.left = m.all(fr, node.Kids), true
	default:
		m.t.Fatalf("no word for kind %d", node.Kind)
	}
}

func (m *machine) all(fr *frame, places []int) []any {
	var values []any
	for _, k := range places {
		values = append(values, m.give(fr, k))
	}
	return values
}

func (m *machine) cellOf(fr *frame, n int) *cell {
	node := fr.fn.Nodes[n]
	if node.Kind == impl.NUp {
		return fr.ups[node.Refs[0]]
	}
	return fr.vars[node.Refs[0]]
}

func (m *machine) give(fr *frame, n int) any {
	node := fr.fn.Nodes[n]
	switch node.Kind {
	case impl.NNil:
		return nil
	case impl.NInt:
		return node.Num
	case impl.NVar, impl.NUp:
		return m.cellOf(fr, n).value
	case impl.NBuiltin:
		return printer{}
	case impl.NFn:
		f := made{fn: node.Refs[0]}
		for _, up := range m.unit.Fns[f.fn].Ups {
			if up.Local {
				f.ups = append(f.ups, fr.vars[up.Index])
			} else {
				f.ups = append(f.ups, fr.ups[up.Index])
			}
		}
		return f
	case impl.NBinary:
		if node.Op == impl.OpAdd {
			return m.give(fr, node.Kids[0]).(int64) + m.give(fr, node.Kids[1]).(int64)
		}
	case impl.NCall:
		values := m.all(fr, node.Kids)
		if f, ok := values[0].(made); ok {
			return append(m.call(f, values[1:]), nil)[0]
		}
		m.out = append(m.out, values[1:]...)
		return nil
	}
	m.t.Fatalf("no word for kind %d", node.Kind)
	return nil
}
