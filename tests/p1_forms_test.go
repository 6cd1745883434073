package tests

import (
	"math"
	"testing"

	"loop.example/reed/impl"
)

// palette has a node of each kind that is as the tables say, so that any kind can be had as a kid.
func palette() ([]impl.Node, map[int]int) {
	nodes := grow(block(oneOfEach()...))
	places := map[int]int{}
	for n, node := range nodes {
		places[node.Kind] = n
	}
	return nodes, places
}

func oneOfEach() []sprout {
	call := ex(impl.NCall, ex(impl.NNil))
	e := []sprout{
		ex(impl.NTrue), ex(impl.NFalse), ex(impl.NFlt), ex(impl.NStr), use(0), ex(impl.NUp).refs(0),
		ex(impl.NBuiltin), ex(impl.NAnd, whole(1), whole(1)), ex(impl.NOr, whole(1), whole(1)),
		ex(impl.NUnary, whole(1)).op(19), ex(impl.NBinary, whole(1), whole(1)).op(1), ex(impl.NIndex, whole(1), whole(1)),
		ex(impl.NTable), fn(1), ex(impl.NRest), ex(impl.NOne, call),
	}
	return []sprout{
		give(e...), let(0), at(1, impl.NSet, use(0), whole(1)).num(1), at(1, impl.NDo, call), at(1, impl.NDefer, call),
		at(1, impl.NIf, whole(1), block()), at(1, impl.NWhile, whole(1), block()),
		at(1, impl.NFor, whole(1), whole(1), whole(1), block()).refs(0), at(1, impl.NEach, whole(1), block()).refs(0),
		at(1, impl.NBreak), at(1, impl.NNext), at(1, impl.NTry, block(), block()).refs(0, 1), at(1, impl.NThrow, whole(1)),
	}
}

// formFault tells whether a node put behind the palette has the fault 3.
func formFault(t *testing.T, nodes []impl.Node, n impl.Node) bool {
	t.Helper()
	all := append(nodes[:len(nodes):len(nodes)], n, impl.Node{Kind: impl.NBlock, Line: 1})
	got := impl.CheckUnit(impl.Unit{Fns: []impl.Fn{{Vars: []string{"a"}, Nodes: all}}})
	if got.Code == 3 && got.Node != len(nodes) {
		t.Fatalf("the palette is not as the tables say: %v", got)
	}
	return got.Code == 3
}

// sound is a node of each kind that has all that it needs but kids.
func sound(kind int) impl.Node {
	n := impl.Node{Kind: kind}
	if kind < 20 {
		n.Line = 1
	}
	switch kind {
	case impl.NLet, impl.NFor, impl.NEach, impl.NVar, impl.NUp, impl.NFn:
		n.Refs = []int{0}
	case impl.NTry:
		n.Refs = []int{0, 1}
	case impl.NSet:
		n.Num = 1
	case impl.NUnary:
		n.Op = impl.OpNeg
	case impl.NBinary:
		n.Op = impl.OpAdd
	}
	return n
}

func eachKind(do func(kind int)) {
	for kind := range 50 {
		if _, ok := allRows[kind]; ok {
			do(kind)
		}
	}
}

// holdForm holds a node against the second reading.
func holdForm(t *testing.T, nodes []impl.Node, n impl.Node) bool {
	t.Helper()
	fault := formFault(t, nodes, n)
	model := modelForm(append(nodes[:len(nodes):len(nodes)], n), len(nodes))
	if fault == model {
		t.Errorf("%+v: fault %v", n, fault)
	}
	return !fault
}

func forLists(kinds []int, length int, do func(list []int)) {
	if length == 0 {
		do(nil)
		return
	}
	forLists(kinds, length-1, func(list []int) {
		for _, kind := range kinds {
			do(append(list[:len(list):len(list)], kind))
		}
	})
}

// Every kind with every two kids, and with more of those that classes tell apart.
func TestKidsOfEachKind(t *testing.T) {
	nodes, places := palette()
	var every []int
	eachKind(func(kind int) { every = append(every, kind) })
	few := []int{impl.NBlock, impl.NIf, impl.NInt, impl.NVar, impl.NCall, impl.NRest}
	fine := map[int]int{}
	try := func(kind int) func(kinds []int) {
		return func(kinds []int) {
			n := sound(kind)
			for _, k := range kinds {
				n.Kids = append(n.Kids, places[k])
			}
			if holdForm(t, nodes, n) {
				fine[kind]++
			}
			if kind == impl.NTable {
				n.Op = 1
				holdForm(t, nodes, n)
			}
			if kind == impl.NSet {
				n.Num = 2
				holdForm(t, nodes, n)
			}
		}
	}
	eachKind(func(kind int) {
		for length := range 3 {
			forLists(every, length, try(kind))
		}
		for length := 3; length <= 5; length++ {
			if length < 5 || kind == impl.NFor || kind == impl.NSet {
				forLists(few, length, try(kind))
			}
		}
		if fine[kind] == 0 {
			t.Errorf("kind %d was never as the tables say", kind)
		}
	})
}

// What a NTable's Op 1 asks of the last pair, and NSet's Num of the targets, by hand.
func TestTablesAndTargets(t *testing.T) {
	nodes, places := palette()
	kids := func(kinds ...int) []int {
		var list []int
		for _, k := range kinds {
			list = append(list, places[k])
		}
		return list
	}
	for _, c := range []struct {
		n  impl.Node
		ok bool
	}{
		{impl.Node{Kind: impl.NTable}, true},
		{impl.Node{Kind: impl.NTable, Op: 1}, false},
		{impl.Node{Kind: impl.NTable, Op: 2}, false},
		{impl.Node{Kind: impl.NTable, Op: -1}, false},
		{impl.Node{Kind: impl.NTable, Kids: kids(impl.NInt)}, false},
		{impl.Node{Kind: impl.NTable, Kids: kids(impl.NInt, impl.NRest)}, true},
		{impl.Node{Kind: impl.NTable, Op: 1, Kids: kids(impl.NInt, impl.NRest)}, true},
		{impl.Node{Kind: impl.NTable, Op: 1, Kids: kids(impl.NInt, impl.NCall)}, true},
		{impl.Node{Kind: impl.NTable, Op: 1, Kids: kids(impl.NInt, impl.NOne)}, false},
		{impl.Node{Kind: impl.NTable, Op: 1, Kids: kids(impl.NStr, impl.NCall)}, false},
		{impl.Node{Kind: impl.NTable, Op: 1, Kids: kids(impl.NInt, impl.NCall, impl.NStr, impl.NNil)}, false},
		{impl.Node{Kind: impl.NTable, Op: 1, Kids: kids(impl.NStr, impl.NNil, impl.NInt, impl.NCall)}, true},
		{impl.Node{Kind: impl.NSet, Line: 1, Num: 1, Kids: kids(impl.NVar, impl.NInt)}, true},
		{impl.Node{Kind: impl.NSet, Line: 1, Num: 1, Kids: kids(impl.NVar, impl.NVar)}, true},
		{impl.Node{Kind: impl.NSet, Line: 1, Num: 2, Kids: kids(impl.NVar, impl.NVar)}, false},
		{impl.Node{Kind: impl.NSet, Line: 1, Num: 2, Kids: kids(impl.NUp, impl.NIndex, impl.NRest)}, true},
		{impl.Node{Kind: impl.NSet, Line: 1, Num: 2, Kids: kids(impl.NUp, impl.NCall, impl.NRest)}, false},
		{impl.Node{Kind: impl.NSet, Line: 1, Num: 0, Kids: kids(impl.NInt)}, false},
		{impl.Node{Kind: impl.NSet, Line: 1, Num: -1, Kids: kids(impl.NVar, impl.NInt)}, false},
		{impl.Node{Kind: impl.NSet, Line: 1, Num: math.MaxInt64, Kids: kids(impl.NVar, impl.NInt)}, false},
		{impl.Node{Kind: impl.NSet, Line: 1, Num: math.MinInt64, Kids: kids(impl.NVar, impl.NInt)}, false},
		{impl.Node{Kind: impl.NSet, Line: 1, Num: 1<<32 + 1, Kids: kids(impl.NVar, impl.NInt)}, false},
	} {
		if formFault(t, nodes, c.n) == c.ok {
			t.Errorf("%+v: as the tables say: %v", c.n, !c.ok)
		}
	}
}

// fitKids gives a node kids that may stand there.
func fitKids(n impl.Node, places map[int]int) impl.Node {
	e, b := places[impl.NInt], places[impl.NBlock]
	switch n.Kind {
	case impl.NSet:
		n.Kids = []int{places[impl.NVar], e}
	case impl.NDo, impl.NDefer, impl.NOne:
		n.Kids = []int{places[impl.NCall]}
	case impl.NIf, impl.NWhile, impl.NEach:
		n.Kids = []int{e, b}
	case impl.NFor:
		n.Kids = []int{e, e, e, b}
	case impl.NTry:
		n.Kids = []int{b, b}
	case impl.NThrow, impl.NUnary, impl.NCall:
		n.Kids = []int{e}
	case impl.NAnd, impl.NOr, impl.NBinary, impl.NIndex:
		n.Kids = []int{e, e}
	}
	return n
}

// Each field of each kind: as it has to be, and as it must not.
func TestFieldsOfEachKind(t *testing.T) {
	nodes, places := palette()
	zero := math.Copysign(0, -1)
	eachKind(func(kind int) {
		base := fitKids(sound(kind), places)
		if !holdForm(t, nodes, base) {
			t.Errorf("kind %d: %+v has to be as the tables say", kind, base)
		}
		try := func(change func(n *impl.Node)) bool {
			n := base
			change(&n)
			return holdForm(t, nodes, n)
		}
		if !try(func(n *impl.Node) { n.Flt = zero }) {
			t.Errorf("kind %d: a Flt of -0.0 is a 0", kind)
		}
		for _, flt := range []float64{1, -1, math.SmallestNonzeroFloat64, math.Inf(1), math.Inf(-1), math.NaN()} {
			try(func(n *impl.Node) { n.Flt = flt })
		}
		for _, x := range []int{math.MinInt, -1, 0, 1, 2, 14, 15, 18, 19, 22, 23, math.MaxInt} {
			try(func(n *impl.Node) { n.Op = x })
			try(func(n *impl.Node) { n.Num = int64(x) })
			try(func(n *impl.Node) { n.Line = x })
			try(func(n *impl.Node) { n.Kids = append(n.Kids[:len(n.Kids):len(n.Kids)], x) })
		}
		for length := range 7 {
			try(func(n *impl.Node) { n.Refs = make([]int, length) })
		}
		try(func(n *impl.Node) { n.Str = "\x00" })
		if len(base.Kids) == 0 && !try(func(n *impl.Node) { n.Kids = []int{} }) {
			t.Errorf("kind %d: an empty list of kids is none", kind)
		}
		if len(base.Refs) == 0 && !try(func(n *impl.Node) { n.Refs = []int{} }) {
			t.Errorf("kind %d: an empty list of refs is none", kind)
		}
	})
}

func TestKindsThatAreNone(t *testing.T) {
	nodes, _ := palette()
	for _, kind := range []int{math.MinInt, -1, 0, 15, 16, 17, 18, 19, 39, 40, 41, 42, 256 + 20, 1<<32 + 20, math.MaxInt} {
		for line := range 2 {
			if !formFault(t, nodes, impl.Node{Kind: kind, Line: line}) {
				t.Errorf("kind %d is taken", kind)
			}
		}
	}
	u := text(0, block(give()))
	u.Fns[0].Nodes[0].Kind = 15
	want(t, "a kid of no kind", u, 3, 0, 0)
}

func TestFloatsOfNodes(t *testing.T) {
	for _, c := range []struct {
		flt  float64
		code int
	}{{0, 0}, {math.Copysign(0, -1), 0}, {math.Inf(-1), 0}, {math.MaxFloat64, 0}, {math.NaN(), 3}, {math.Float64frombits(0xfff0000000000001), 3}} {
		u := text(0, block(give(sprout{node: impl.Node{Kind: impl.NFlt, Flt: c.flt}})))
		want(t, "a NFlt", u, c.code, 0, 0)
	}
	u := text(0, block(give(whole(3))))
	u.Fns[0].Nodes[0].Flt = math.Copysign(0, -1)
	wantValid(t, "a NInt with a Flt of -0.0", u)
	u.Fns[0].Nodes[0].Flt = math.NaN()
	want(t, "a NInt with a Flt that is a NaN", u, 3, 0, 0)
}

func TestKidsOutside(t *testing.T) {
	for _, kid := range []int{math.MinInt, -1, 1, 2, 3, math.MaxInt} {
		u := text(0, block(give(ex(impl.NNil))))
		u.Fns[0].Nodes[1].Kids[0] = kid
		want(t, "a kid outside", u, 3, 0, 1)
	}
}
