package tests

import (
	"testing"

	"loop.example/reed/impl"
)

// sprout is a node with what stands below it, before it has a place.
type sprout struct {
	node impl.Node
	kids []sprout
}

// grow lays a sprout down as a fn's nodes, each behind its kids.
func grow(s sprout) []impl.Node {
	var nodes []impl.Node
	growInto(s, &nodes)
	return nodes
}

func growInto(s sprout, nodes *[]impl.Node) int {
	n := s.node
	for _, k := range s.kids {
		n.Kids = append(n.Kids, growInto(k, nodes))
	}
	*nodes = append(*nodes, n)
	return len(*nodes) - 1
}

func at(line, kind int, kids ...sprout) sprout {
	return sprout{impl.Node{Kind: kind, Line: line}, kids}
}

func ex(kind int, kids ...sprout) sprout { return sprout{impl.Node{Kind: kind}, kids} }

func (s sprout) refs(refs ...int) sprout {
	s.node.Refs = refs
	return s
}

func (s sprout) op(op int) sprout {
	s.node.Op = op
	return s
}

func (s sprout) num(num int64) sprout {
	s.node.Num = num
	return s
}

func block(kids ...sprout) sprout { return at(1, impl.NBlock, kids...) }

func let(v int, values ...sprout) sprout { return at(1, impl.NLet, values...).refs(v) }

func give(values ...sprout) sprout { return at(1, impl.NReturn, values...) }

func use(v int) sprout { return ex(impl.NVar).refs(v) }

func fn(g int) sprout { return ex(impl.NFn).refs(g) }

func whole(n int64) sprout { return ex(impl.NInt).num(n) }

func names(n int) []string {
	out := make([]string, n)
	for i := range out {
		out[i] = "v"
	}
	return out
}

// text is a unit of fn 0 alone, with a number of variables.
func text(vars int, body sprout) impl.Unit {
	return impl.Unit{Fns: []impl.Fn{{Name: "main", Rest: true, Vars: names(vars), Nodes: grow(body)}}}
}

// with adds a fn behind the others.
func with(u impl.Unit, f impl.Fn) impl.Unit {
	u.Fns = append(u.Fns, f)
	return u
}

func plainFn(ups ...impl.Up) impl.Fn {
	return impl.Fn{Ups: ups, Nodes: grow(block())}
}

func want(t *testing.T, what string, u impl.Unit, code, fn, node int) {
	t.Helper()
	fault := impl.Fault{Code: code, Fn: fn, Node: node}
	if got := impl.CheckUnit(u); got != fault {
		t.Errorf("%s: %v, want %v", what, got, fault)
	}
}

func wantValid(t *testing.T, what string, u impl.Unit) {
	t.Helper()
	want(t, what, u, 0, 0, 0)
}

// richUnit has every kind of node, three fns in one another, and ups of both sorts.
func richUnit() impl.Unit {
	call := func(args ...sprout) sprout {
		return ex(impl.NCall, append([]sprout{ex(impl.NBuiltin).num(impl.BPrint)}, args...)...)
	}
	flt := sprout{node: impl.Node{Kind: impl.NFlt, Flt: 1.5}}
	str := sprout{node: impl.Node{Kind: impl.NStr, Str: "k"}}
	main := block(
		let(0, whole(7)),
		at(2, impl.NLet).refs(1, 2),
		at(3, impl.NSet, use(1), ex(impl.NIndex, use(2), str), flt, ex(impl.NNil)).num(2),
		at(4, impl.NDo, call(ex(impl.NRest))),
		at(5, impl.NIf, ex(impl.NTrue), block(), at(6, impl.NIf, ex(impl.NFalse), block(), block())),
		at(7, impl.NWhile, ex(impl.NAnd, use(0), use(1)), block(at(8, impl.NBreak))),
		at(9, impl.NFor, whole(1), whole(2), whole(1), block(at(10, impl.NNext), let(4, use(3)))).refs(3),
		at(11, impl.NEach, use(2), block(at(12, impl.NThrow, use(6)))).refs(5, 6),
		at(13, impl.NTry, block(let(7)), block(at(14, impl.NThrow, ex(impl.NOr, use(8), use(9))))).refs(8, 9),
		at(15, impl.NDefer, call(ex(impl.NUnary, use(0)).op(impl.OpLen))),
		at(16, impl.NSet, use(0), ex(impl.NTable, whole(1), ex(impl.NOne, call()), whole(2), call()).op(1)).num(1),
		at(17, impl.NReturn, fn(1), ex(impl.NTable, str, use(0))),
	)
	mid := block(
		let(1, ex(impl.NBinary, use(0), ex(impl.NUp).refs(0)).op(impl.OpAdd)),
		give(fn(2), ex(impl.NRest)),
	)
	low := block(give(ex(impl.NUp).refs(0), ex(impl.NUp).refs(1)))
	local := func(v int) impl.Up { return impl.Up{Local: true, Index: v} }
	return impl.Unit{Fns: []impl.Fn{
		{Name: "main", Rest: true, Vars: names(10), Nodes: grow(main)},
		{Name: "mid", Line: 17, Params: 1, Rest: true, Vars: names(2), Ups: []impl.Up{local(0), local(2)}, Nodes: grow(mid)},
		{Line: 18, Ups: []impl.Up{local(1), {Index: 1}}, Nodes: grow(low)},
	}}
}

// loopUnit is made of loops, catches and blocks in one another, with a variable of each.
func loopUnit() impl.Unit {
	main := block(
		at(2, impl.NTry,
			block(at(3, impl.NEach, ex(impl.NRest), block(
				let(2, use(0)),
				at(4, impl.NIf, use(1), block(at(5, impl.NBreak)), block(at(6, impl.NNext))),
				block(let(3, use(2)), at(7, impl.NSet, use(3), use(2)).num(1)),
			)).refs(0, 1)),
			block(
				at(8, impl.NFor, use(4), use(5), whole(1), block(
					at(9, impl.NTry, block(at(10, impl.NNext)), block(at(11, impl.NThrow, use(8)), at(12, impl.NBreak))).refs(7, 8),
					at(13, impl.NDo, ex(impl.NCall, fn(1), use(6))),
				)).refs(6),
			)).refs(4, 5),
	)
	f1 := block(at(14, impl.NWhile, use(1), block(at(15, impl.NSet, use(0), ex(impl.NUp).refs(0)).num(1), at(16, impl.NBreak))))
	return impl.Unit{Fns: []impl.Fn{
		{Name: "main", Rest: true, Vars: names(9), Nodes: grow(main)},
		{Line: 13, Params: 2, Vars: names(2), Ups: []impl.Up{{Local: true, Index: 6}}, Nodes: grow(f1)},
	}}
}

func TestSampleUnitsAreValid(t *testing.T) {
	wantValid(t, "rich", richUnit())
	wantValid(t, "loops", loopUnit())
	have := map[int]int{}
	for _, f := range richUnit().Fns {
		for _, n := range f.Nodes {
			have[n.Kind]++
		}
	}
	for kind := range rowsOfTables() {
		if have[kind] == 0 {
			t.Errorf("the rich unit lacks kind %d", kind)
		}
	}
}
