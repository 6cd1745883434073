package tests

import (
	"math"
	"strings"
	"testing"

	"loop.example/reed/impl"
)

// manyFns is a unit of n fns, all made by fn 0.
func manyFns(n int) impl.Unit {
	var statements []sprout
	for g := 1; g < n; g += impl.MaxKids {
		var made []sprout
		for h := g; h < n && h < g+impl.MaxKids; h++ {
			made = append(made, fn(h))
		}
		statements = append(statements, give(made...))
	}
	u := text(0, block(statements...))
	for range n - 1 {
		u = with(u, plainFn())
	}
	return u
}

// manyNodes is a unit of two fns with n nodes in all.
func manyNodes(n int) impl.Unit {
	left := n - 4 // the NReturn and NFn, the two bodies
	var statements []sprout
	for left > 0 {
		var values []sprout
		for left--; left > 0 && len(values) < impl.MaxKids; left-- {
			values = append(values, ex(impl.NNil))
		}
		statements = append(statements, give(values...))
	}
	f := plainFn()
	f.Nodes = grow(block(statements...))
	return with(text(0, block(give(fn(1)))), f)
}

// deep is a unit whose deepest node has that depth.
func deep(depth int) impl.Unit {
	s := block()
	for range depth {
		s = block(s)
	}
	return text(0, s)
}

func TestSizeOfUnit(t *testing.T) {
	want(t, "no fns", impl.Unit{}, 1, 0, 0)
	want(t, "no fns, not nil", impl.Unit{Fns: []impl.Fn{}}, 1, 0, 0)
	wantValid(t, "one fn", text(0, block()))
	wantValid(t, "300 fns", manyFns(300))
	want(t, "301 fns", manyFns(301), 1, 0, 0)
	want(t, "301 fns without nodes", impl.Unit{Fns: make([]impl.Fn, 301)}, 1, 0, 0)
	want(t, "300 fns without nodes", impl.Unit{Fns: make([]impl.Fn, 300)}, 2, 0, 0)
	for n, code := range map[int]int{2999: 0, 3000: 0, 3001: 1, 4500: 1} {
		u := manyNodes(n)
		if total := len(u.Fns[0].Nodes) + len(u.Fns[1].Nodes); total != n {
			t.Fatalf("%d nodes, not %d", total, n)
		}
		want(t, "nodes", u, code, 0, 0)
	}
}

func TestHeadOfFn(t *testing.T) {
	base := func() impl.Unit {
		u := with(text(1, block(let(0), give(fn(1)))), plainFn())
		u.Fns[1].Vars = names(2)
		return u
	}
	ups := func(n int) []impl.Up {
		list := make([]impl.Up, n)
		for i := range list {
			list[i].Local = true
		}
		return list
	}
	for _, c := range []struct {
		what string
		ok   bool
		set  func(f *impl.Fn)
	}{
		{"nodes nil", false, func(f *impl.Fn) { f.Nodes = nil }},
		{"nodes empty", false, func(f *impl.Fn) { f.Nodes = []impl.Node{} }},
		{"200 vars", true, func(f *impl.Fn) { f.Vars = names(200) }},
		{"201 vars", false, func(f *impl.Fn) { f.Vars = names(201) }},
		{"vars empty", true, func(f *impl.Fn) { f.Vars = []string{} }},
		{"200 ups", true, func(f *impl.Fn) { f.Ups = ups(200) }},
		{"201 ups", false, func(f *impl.Fn) { f.Ups = ups(201) }},
		{"ups empty", true, func(f *impl.Fn) { f.Ups = []impl.Up{} }},
		{"all vars params", true, func(f *impl.Fn) { f.Params = 2 }},
		{"more params than vars", false, func(f *impl.Fn) { f.Params = 3 }},
		{"params below 0", false, func(f *impl.Fn) { f.Params = -1 }},
		{"params far off", false, func(f *impl.Fn) { f.Params = math.MaxInt }},
		{"params far below", false, func(f *impl.Fn) { f.Params = math.MinInt }},
		{"200 params", true, func(f *impl.Fn) { f.Vars, f.Params = names(200), 200 }},
		{"line 0", true, func(f *impl.Fn) { f.Line = 0 }},
		{"line 100000", true, func(f *impl.Fn) { f.Line = 100000 }},
		{"line 100001", false, func(f *impl.Fn) { f.Line = 100001 }},
		{"line -1", false, func(f *impl.Fn) { f.Line = -1 }},
		{"no name", true, func(f *impl.Fn) { f.Name = "" }},
		{"name of 40", true, func(f *impl.Fn) { f.Name = strings.Repeat("n", 40) }},
		{"name of 41", false, func(f *impl.Fn) { f.Name = strings.Repeat("n", 41) }},
		{"name of 40 bytes, 20 letters", true, func(f *impl.Fn) { f.Name = strings.Repeat("\u00e9", 20) }},
		{"name of 42 bytes, 21 letters", false, func(f *impl.Fn) { f.Name = strings.Repeat("\u00e9", 21) }},
		{"a name of no letters", true, func(f *impl.Fn) { f.Name = "\x00 \xff" }},
		{"var of 1", true, func(f *impl.Fn) { f.Vars[1] = "x" }},
		{"var of 40", true, func(f *impl.Fn) { f.Vars[1] = strings.Repeat("x", 40) }},
		{"var of 41", false, func(f *impl.Fn) { f.Vars[1] = strings.Repeat("x", 41) }},
		{"var of 0", false, func(f *impl.Fn) { f.Vars[1] = "" }},
		{"same names", true, func(f *impl.Fn) { f.Vars[1] = f.Vars[0] }},
		{"rest", true, func(f *impl.Fn) { f.Rest = true }},
	} {
		u := base()
		c.set(&u.Fns[1])
		if c.ok {
			wantValid(t, c.what, u)
		} else {
			want(t, c.what, u, 2, 1, 0)
		}
	}
}

func TestHeadOfText(t *testing.T) {
	u := text(2, block())
	u.Fns[0].Params = 1
	want(t, "the text has params", u, 2, 0, 0)
	u = text(2, block())
	u.Fns[0].Ups = []impl.Up{{}}
	want(t, "the text has ups", u, 2, 0, 0)
	u.Fns[0].Ups = []impl.Up{}
	wantValid(t, "the text has an empty list of ups", u)
	u.Fns[0].Rest = false
	wantValid(t, "the text has no rest", u)
	u.Fns[0].Name, u.Fns[0].Line = "", 9
	wantValid(t, "the text has a line and no name", u)
}

func TestLinesAndStringsOfNodes(t *testing.T) {
	for line, code := range map[int]int{math.MinInt: 3, -1: 3, 0: 3, 1: 0, 100000: 0, 100001: 3, math.MaxInt: 3} {
		u := text(0, block(give()))
		u.Fns[0].Nodes[0].Line = line
		want(t, "line of a statement", u, code, 0, 0)
	}
	for line, code := range map[int]int{-1: 3, 0: 0, 1: 3} {
		u := text(0, block(give(ex(impl.NNil))))
		u.Fns[0].Nodes[0].Line = line
		want(t, "line of an expression", u, code, 0, 0)
	}
	for size, code := range map[int]int{0: 0, 4000: 0, 4001: 3} {
		u := text(0, block(give(ex(impl.NStr))))
		u.Fns[0].Nodes[0].Str = strings.Repeat("\xff", size)
		want(t, "size of a string", u, code, 0, 0)
	}
}

func TestNumberOfKids(t *testing.T) {
	many := func(n int) []sprout {
		list := make([]sprout, n)
		for i := range list {
			list[i] = ex(impl.NNil)
		}
		return list
	}
	for n, code := range map[int]int{0: 0, 199: 0, 200: 0, 201: 3} {
		want(t, "kids of a NReturn", text(0, block(give(many(n)...))), code, 0, n*code/3)
	}
	wantValid(t, "a table of 200", text(0, block(give(ex(impl.NTable, many(200)...)))))
	want(t, "a table of 202", text(0, block(give(ex(impl.NTable, many(202)...)))), 3, 0, 202)
	wantValid(t, "a call of 199", text(0, block(give(ex(impl.NCall, many(200)...)))))
	statements := make([]sprout, 201)
	for i := range statements {
		statements[i] = give()
	}
	wantValid(t, "200 statements", text(0, block(statements[:200]...)))
	want(t, "201 statements", text(0, block(statements...)), 3, 0, 201)
}

func TestDepthOfNodes(t *testing.T) {
	wantValid(t, "depth 0", deep(0))
	wantValid(t, "depth 100", deep(100))
	want(t, "depth 101", deep(101), 5, 0, 0)
	want(t, "depth 2999", deep(2999), 5, 0, 0)
	want(t, "too many", deep(3000), 1, 0, 0)
	// The deep ones stand behind a shallow one: the first by its number is told, not the deepest.
	s := block(give())
	for range 101 {
		s = block(s)
	}
	want(t, "a shallow one ahead", text(0, block(give(), s)), 5, 0, 1)
	u := deep(100)
	f := plainFn()
	f.Nodes = deep(102).Fns[0].Nodes
	u = with(with(text(0, block(give(fn(1), fn(2)))), impl.Fn{Nodes: u.Fns[0].Nodes}), f)
	want(t, "in fn 2", u, 5, 2, 0)
	e := ex(impl.NNil)
	for range 98 {
		e = ex(impl.NUnary, e).op(impl.OpNot)
	}
	wantValid(t, "expressions of depth 100", text(0, block(give(e))))
	want(t, "expressions of depth 101", text(0, block(block(give(e)))), 5, 0, 0)
}
