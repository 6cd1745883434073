package tests

import (
	"testing"

	"loop.example/reed/impl"
)

// flaw is a code and what puts one fault of it into a fn of flawless; spoil answers the fault's node.
type flaw struct {
	code  int
	spoil func(u *impl.Unit, f int) int
}

// flawless has three fns in one another, with nodes for every flaw at the same places of each.
func flawless() impl.Unit {
	body := func(g int) []impl.Node {
		last := null()
		if g < 3 {
			last = fn(g)
		}
		return grow(block(let(0), give(use(0)), while(null(), block(at(1, impl.NBreak))), give(ex(impl.NRest)), give(last)))
	}
	u := impl.Unit{}
	for f := range 3 {
		u.Fns = append(u.Fns, impl.Fn{Rest: true, Vars: names(1), Nodes: body(f + 1)})
	}
	return u
}

func flaws() []flaw {
	places := map[int]int{impl.NLet: 0, impl.NVar: 1, impl.NBreak: 4, impl.NRest: 7}
	return []flaw{
		{2, func(u *impl.Unit, f int) int { u.Fns[f].Line = -1; return 0 }},
		{3, func(u *impl.Unit, f int) int { u.Fns[f].Nodes[places[impl.NRest]].Op = 1; return places[impl.NRest] }},
		{3, func(u *impl.Unit, f int) int { u.Fns[f].Nodes[places[impl.NLet]].Line = 0; return places[impl.NLet] }},
		{4, func(u *impl.Unit, f int) int {
			nodes := u.Fns[f].Nodes
			last := &nodes[len(nodes)-1]
			last.Kids = append(last.Kids, last.Kids[1])
			return last.Kids[1]
		}},
		{6, func(u *impl.Unit, f int) int {
			u.Fns[f].Nodes[places[impl.NVar]].Refs = []int{5}
			return places[impl.NVar]
		}},
		{6, func(u *impl.Unit, f int) int {
			u.Fns[f].Nodes[places[impl.NLet]].Refs = []int{0, 0}
			return places[impl.NLet]
		}},
		{7, func(u *impl.Unit, f int) int {
			nodes := u.Fns[f].Nodes
			for n := range nodes {
				if nodes[n].Kind == impl.NWhile {
					nodes[n].Kind = impl.NIf
				}
			}
			return places[impl.NBreak]
		}},
		{8, func(u *impl.Unit, f int) int { u.Fns[f].Rest = false; return places[impl.NRest] }},
	}
}

// Of two faults the one of the lesser code is told, of two of one code that of the lesser fn, then that of the lesser node.
func TestOrderOfFaults(t *testing.T) {
	wantValid(t, "without a flaw", flawless())
	for i, a := range flaws() {
		for j, b := range flaws() {
			for f := range 3 {
				for g := range 3 {
					u := flawless()
					first := impl.Fault{Code: a.code, Fn: f, Node: a.spoil(&u, f)}
					if i != j || f != g {
						second := impl.Fault{Code: b.code, Fn: g, Node: b.spoil(&u, g)}
						if comesAhead(second, first) {
							first = second
						}
					}
					if got := impl.CheckUnit(u); got != first {
						t.Errorf("flaw %d in fn %d, flaw %d in fn %d: %v, want %v", i, f, j, g, got, first)
					}
				}
			}
		}
	}
}

func comesAhead(a, b impl.Fault) bool {
	if a.Code != b.Code {
		return a.Code < b.Code
	}
	if a.Fn != b.Fn {
		return a.Fn < b.Fn
	}
	return a.Node < b.Node
}

// Faults of the whole unit: the size comes ahead of all, a fn that none makes behind all.
func TestFirstAndLastCode(t *testing.T) {
	for i, a := range flaws() {
		u := flawless()
		node := a.spoil(&u, 2)
		u.Fns = append(u.Fns, plainFn())
		want(t, "with a fn that none makes", u, a.code, 2, node)
		for len(u.Fns) <= impl.MaxFns {
			u.Fns = append(u.Fns, plainFn())
		}
		if got := impl.CheckUnit(u); got != (impl.Fault{Code: 1}) {
			t.Errorf("flaw %d with too many fns: %v", i, got)
		}
	}
	u := flawless()
	u.Fns = append(u.Fns, plainFn(), plainFn())
	want(t, "two that none makes", u, 9, 3, 0)
}

// Depth stands between the tree and the Refs.
func TestOrderOfDepth(t *testing.T) {
	u := deep(101)
	last := &u.Fns[0].Nodes[len(u.Fns[0].Nodes)-1]
	last.Kids = append(last.Kids, last.Kids[0])
	want(t, "a kid twice, and too deep", u, 4, 0, last.Kids[0])
	s := block(give(use(0)))
	for range 101 {
		s = block(s)
	}
	want(t, "no variable, and too deep", text(0, block(let(3), s)), 5, 0, 1)
	want(t, "a break in no loop, and too deep behind it", text(0, block(at(1, impl.NBreak), s)), 5, 0, 1)
}

// Within one code the number of the node counts, not the walk.
func TestOrderOfNodes(t *testing.T) {
	u := text(0, block(give(use(0)), give(use(1))))
	want(t, "in the order of the walk", u, 6, 0, 0)
	u.Fns[0].Nodes[4].Kids = []int{3, 1}
	want(t, "against it", u, 6, 0, 0)
	u = text(0, block(at(1, impl.NBreak), at(1, impl.NNext)))
	u.Fns[0].Nodes[2].Kids = []int{1, 0}
	want(t, "jumps against it", u, 7, 0, 0)
	u = text(1, block(give(use(0)), let(7), let(0)))
	u.Fns[0].Nodes[4].Kids = []int{2, 3, 1}
	want(t, "a NLet of no variable ahead of none", u, 6, 0, 2)
}
