package tests

import (
	"fmt"
	"math"
	"math/rand"
	"slices"
	"strings"
	"testing"

	"loop.example/reed/impl"
)

// One unit for each way of not being valid; all of them have something to fold.
func TestNothingForUnitsThatAreNotValid(t *testing.T) {
	sums := func() impl.Unit {
		u := text(1, block(let(0, binary(impl.OpAdd, whole(1), whole(2))), give(and(truly(), use(0)), fn(1)), give()))
		return with(u, impl.Fn{Params: 1, Vars: names(2), Ups: []impl.Up{local(0)}, Nodes: grow(block(while(null(), block(breaks(), let(1)))))})
	}
	if got := foldKept(t, "as it is", sums()); nodesOf(got) >= nodesOf(sums()) {
		t.Fatal("nothing was folded")
	}
	for code, spoils := range map[int]map[string]func(u *impl.Unit){
		1: {
			"no fns":         func(u *impl.Unit) { u.Fns = nil },
			"too many fns":   func(u *impl.Unit) { *u = manyFns(impl.MaxFns + 1) },
			"too many nodes": func(u *impl.Unit) { *u = manyNodes(impl.MaxNodes + 1) },
		},
		2: {
			"no nodes":           func(u *impl.Unit) { u.Fns[1].Nodes = nil },
			"too many variables": func(u *impl.Unit) { u.Fns[1].Vars = names(impl.MaxVars + 1) },
			"params beyond vars": func(u *impl.Unit) { u.Fns[1].Params = 3 },
			"params below 0":     func(u *impl.Unit) { u.Fns[1].Params = -1 },
			"a fn's line":        func(u *impl.Unit) { u.Fns[1].Line = impl.MaxLine + 1 },
			"a fn's name":        func(u *impl.Unit) { u.Fns[1].Name = strings.Repeat("n", impl.MaxName+1) },
			"no name":            func(u *impl.Unit) { u.Fns[1].Vars[1] = "" },
			"a text with params": func(u *impl.Unit) { u.Fns[0].Params = 1 },
		},
		3: {
			"a kind that is none": func(u *impl.Unit) { u.Fns[0].Nodes[0].Kind = 15 },
			"a line too much":     func(u *impl.Unit) { u.Fns[0].Nodes[0].Line = 3 },
			"no line":             func(u *impl.Unit) { u.Fns[0].Nodes[3].Line = 0 },
			"an op too much":      func(u *impl.Unit) { u.Fns[0].Nodes[0].Op = 1 },
			"an op that is none":  func(u *impl.Unit) { u.Fns[0].Nodes[2].Op = 19 },
			"a NaN":               func(u *impl.Unit) { u.Fns[0].Nodes[0] = impl.Node{Kind: impl.NFlt, Flt: math.NaN()} },
			"a long text":         func(u *impl.Unit) { u.Fns[0].Nodes[0] = quote(strings.Repeat("x", 4001)).node },
			"a builtin":           func(u *impl.Unit) { u.Fns[0].Nodes[0] = builtin(impl.Builtins).node },
			"a kid beyond":        func(u *impl.Unit) { u.Fns[0].Nodes[2].Kids[0] = 5000 },
			"a kid below 0":       func(u *impl.Unit) { u.Fns[0].Nodes[2].Kids[0] = -1 },
			"a kid of itself":     func(u *impl.Unit) { u.Fns[0].Nodes[2].Kids[0] = 2 },
			"a kid too few":       func(u *impl.Unit) { u.Fns[0].Nodes[2].Kids = u.Fns[0].Nodes[2].Kids[:1] },
		},
		4: {
			"a kid twice": func(u *impl.Unit) { u.Fns[0].Nodes[2].Kids[1] = 0 },
			"no kid":      func(u *impl.Unit) { u.Fns[0].Nodes[10].Kids = u.Fns[0].Nodes[10].Kids[:1] },
		},
		5: {"too deep": func(u *impl.Unit) { *u = deep(impl.MaxNest + 1) }},
		6: {"out of scope": func(u *impl.Unit) { u.Fns[0].Nodes[5].Refs[0] = 1 }},
		7: {"a break without a loop": func(u *impl.Unit) { u.Fns[0].Nodes[9].Kind = impl.NBreak }},
		8: {"a fn of itself": func(u *impl.Unit) { u.Fns[1].Nodes = grow(block(show(fn(1)))) }},
		9: {"a fn that is not made": func(u *impl.Unit) { *u = with(*u, plainFn()) }},
	} {
		for what, spoil := range spoils {
			u := sums()
			spoil(&u)
			if got := impl.CheckUnit(u).Code; got != code {
				t.Errorf("%s: code %d, not %d", what, got, code)
			}
			if got := foldKept(t, what, u); len(got.Fns) != 0 {
				t.Errorf("%s: %s", what, sketch(got))
			}
		}
	}
}

func TestFoldKeepsAllElse(t *testing.T) {
	three := binary(impl.OpAdd, whole(1), whole(2))
	u := impl.Unit{Fns: []impl.Fn{
		{Name: "any", Line: 7, Vars: []string{"a", "b", "never"}, Nodes: grow(block(
			at(2, impl.NLet, three, call(builtin(impl.BType), three)).refs(0, 1),
			at(3, impl.NSet, use(1), ex(impl.NIndex, use(0), three), use(0), three, fn(2)).num(3),
			at(4, impl.NReturn, fn(1)),
		).onLine(99))},
		{Name: "same", Line: impl.MaxLine, Params: 2, Rest: true, Vars: []string{"same", "same", "same"}, Ups: []impl.Up{local(1), local(0), local(1)}, Nodes: grow(block(
			at(5, impl.NDo, call(up(2), three, rest())), give(), at(6, impl.NLet).refs(2),
		).onLine(1))},
		{Params: 0, Vars: nil, Ups: []impl.Up{local(1)}, Nodes: grow(block(give(ex(impl.NTable, three, fn(3), whole(1), call(three)).op(1))))},
		{Name: strings.Repeat("n", 40), Ups: []impl.Up{handed(0), handed(0)}, Nodes: grow(block(give(up(1), ex(impl.NTable, three, three))))},
	}}
	wanted := copyUnit(u)
	wanted.Fns[0].Nodes = grow(block(
		at(2, impl.NLet, whole(3), call(builtin(impl.BType), whole(3))).refs(0, 1),
		at(3, impl.NSet, use(1), ex(impl.NIndex, use(0), whole(3)), use(0), whole(3), fn(2)).num(3),
		at(4, impl.NReturn, fn(1)),
	).onLine(99))
	wanted.Fns[1].Nodes = grow(block(at(5, impl.NDo, call(up(2), whole(3), rest())), give()).onLine(1))
	wanted.Fns[2].Nodes = grow(block(give(ex(impl.NTable, whole(3), fn(3), whole(1), call(whole(3))).op(1))))
	wanted.Fns[3].Nodes = grow(block(give(up(1), ex(impl.NTable, whole(3), whole(3)))))
	wantFoldedUnit(t, "all else", u, wanted)

	for _, u := range []impl.Unit{richUnit(), loopUnit(), manyFns(impl.MaxFns), manyNodes(impl.MaxNodes), deep(impl.MaxNest), text(0, block())} {
		holdFold(t, "sample", u)
	}
	wantFoldedUnit(t, "the least unit", text(0, block()), text(0, block()))
}

// The nodes stand in the order of a walk, in whatever order they stood.
func TestFoldOrdersNodes(t *testing.T) {
	u := impl.Unit{Fns: []impl.Fn{{Vars: names(1), Nodes: []impl.Node{
		{Kind: impl.NReturn, Line: 5, Kids: nil},
		{Kind: impl.NInt, Num: 2},
		{Kind: impl.NVar, Refs: []int{0}},
		{Kind: impl.NInt, Num: 1},
		{Kind: impl.NBlock, Line: 4, Kids: []int{0}},
		{Kind: impl.NBinary, Op: impl.OpSub, Kids: []int{3, 1}},
		{Kind: impl.NIf, Line: 3, Kids: []int{2, 4}},
		{Kind: impl.NLet, Line: 2, Refs: []int{0}, Kids: []int{5}},
		{Kind: impl.NBlock, Line: 1, Kids: []int{7, 6}},
	}}}}
	wantFoldedUnit(t, "by hand", u, impl.Unit{Fns: []impl.Fn{{Vars: names(1), Nodes: []impl.Node{
		{Kind: impl.NInt, Num: -1},
		{Kind: impl.NLet, Line: 2, Refs: []int{0}, Kids: []int{0}},
		{Kind: impl.NVar, Refs: []int{0}},
		{Kind: impl.NReturn, Line: 5},
		{Kind: impl.NBlock, Line: 4, Kids: []int{3}},
		{Kind: impl.NIf, Line: 3, Kids: []int{2, 4}},
		{Kind: impl.NBlock, Line: 1, Kids: []int{1, 5}},
	}}}})
	r := rand.New(rand.NewSource(85))
	for round := range 400 {
		u := someUnit(r)
		once := impl.Fold(u)
		for f := range u.Fns {
			u.Fns[f].Nodes = shuffled(r, u.Fns[f].Nodes)
		}
		wantFoldedUnit(t, fmt.Sprintf("round %d", round), u, once)
	}
	// Nothing to fold, but to order.
	turned := impl.Unit{Fns: []impl.Fn{{Vars: names(1), Nodes: []impl.Node{
		{Kind: impl.NReturn, Line: 2}, {Kind: impl.NLet, Line: 1, Refs: []int{0}}, {Kind: impl.NBlock, Line: 1, Kids: []int{1, 0}},
	}}}}
	wantFoldedUnit(t, "turned", turned, impl.Unit{Fns: []impl.Fn{{Vars: names(1), Nodes: []impl.Node{
		{Kind: impl.NLet, Line: 1, Refs: []int{0}}, {Kind: impl.NReturn, Line: 2}, {Kind: impl.NBlock, Line: 1, Kids: []int{0, 1}},
	}}}})
}

// At the limits: as many nodes, fns, kids and as deep as may be.
func TestFoldAtTheLimits(t *testing.T) {
	// A call as deep as may be, which needs a NOne around it.
	below := and(truly(), call(builtin(0)))
	above := single(call(builtin(0)))
	for range impl.MaxNest - 4 {
		below, above = and(use(0), below), and(use(0), above)
	}
	wantFoldedUnit(t, "deep", text(1, block(let(0), give(below))), text(1, block(let(0), give(above))))
	tooDeep := text(1, block(let(0), give(and(use(0), below))))
	if code := impl.CheckUnit(tooDeep).Code; code != 5 || len(foldKept(t, "one too deep", tooDeep).Fns) != 0 {
		t.Errorf("one too deep: code %d", code)
	}

	// A chain of sums, as deep as may be.
	chain := whole(0)
	for range impl.MaxNest - 2 {
		chain = binary(impl.OpAdd, chain, whole(1))
	}
	wantFoldedUnit(t, "chain", text(0, block(give(chain))), text(0, block(give(whole(impl.MaxNest-2)))))

	// As many kids as may be, of which all but one go, or none.
	var many, less []sprout
	for i := range impl.MaxKids {
		many = append(many, show(whole(int64(i))))
	}
	wantFoldedUnit(t, "none of 200 goes", text(0, block(many...)), text(0, block(many...)))
	many[0] = give()
	less = many[:1]
	wantFoldedUnit(t, "199 of 200 go", text(0, block(many...)), text(0, block(less...)))
	many[impl.MaxKids-1] = show(fn(1))
	wantFoldedUnit(t, "a fn is the last of 200", with(text(0, block(many...)), plainFn()), with(text(0, block(many...)), plainFn()))

	// As many fns and nodes as may be: each fn a choice that is known.
	var made []sprout
	for g := 1; g < impl.MaxFns; g++ {
		made = append(made, fn(g))
	}
	u := text(0, block(give(made[:150]...), give(made[150:]...)))
	w := text(0, block(give(made[:150]...), give(made[150:]...)))
	for g := 1; g < impl.MaxFns; g++ {
		u = with(u, impl.Fn{Nodes: grow(block(give(binary(impl.OpAdd, and(truly(), whole(1)), whole(2)))))})
		w = with(w, impl.Fn{Nodes: grow(block(give(whole(3))))})
	}
	wantFoldedUnit(t, "300 fns", u, w)
}

// An answer shares no memory with its argument or another answer, and no two of its lists share any, even where the argument's do.
func TestFoldedUnitsAreNewMemory(t *testing.T) {
	r := rand.New(rand.NewSource(86))
	for range 300 {
		u := shared(someUnit(r))
		kept := copyUnit(u)
		first, second := impl.Fold(u), impl.Fold(u)
		copied := copyUnit(second)
		scribbleAll(t, first)
		if !sameUnit(copyUnit(u), kept) {
			t.Fatal("the argument was written into")
		}
		if !sameUnit(copyUnit(second), copied) || !sameUnit(copyUnit(impl.Fold(u)), copied) {
			t.Fatal("another answer was written into")
		}
	}
}

// shared has the same unit with lists that stand in one and the same memory, each with room behind it.
func shared(u impl.Unit) impl.Unit {
	u = copyUnit(u)
	var all []int
	for _, f := range u.Fns {
		for _, n := range f.Nodes {
			all = append(append(all, n.Refs...), n.Kids...)
		}
	}
	at := 0
	take := func(list []int) []int {
		at += len(list)
		return all[at-len(list) : at]
	}
	vars := append(slices.Clone(u.Fns[0].Vars), make([]string, 5)...)
	u.Fns[0].Vars = vars[:len(u.Fns[0].Vars)]
	for f := range u.Fns {
		for n := range u.Fns[f].Nodes {
			node := &u.Fns[f].Nodes[n]
			node.Refs = take(node.Refs)
			node.Kids = take(node.Kids)
		}
	}
	return u
}
