package tests

import (
	"fmt"
	"slices"
	"testing"

	"loop.example/reed/impl"
)

func prints(values ...twig) twig { return does(append([]twig{word("print")}, values...)...) }

func adds(name string, n int64) twig {
	return sets(1, word(name), two(impl.OpAdd, word(name), number(n)))
}

// wantRun asks what a text prints.
func wantRun(t *testing.T, what string, text twig, out []any) {
	t.Helper()
	if got := runs(t, wantBound(t, what, text)); !slices.Equal(got, out) {
		t.Errorf("%s: prints %v, want %v", what, got, out)
	}
}

func TestOwnVariablesOfBlocksInOneAnother(t *testing.T) {
	for n := int64(1); n <= 60; n++ {
		// Each block prints its own variable ahead of the block inside and behind it, where it has grown by 100.
		text := body()
		var ahead, behind []any
		for i := n; i >= 1; i-- {
			inside := []twig{lets(1, "a", number(i)), prints(word("a")), adds("a", 100)}
			if i < n {
				inside = append(inside, text)
			}
			text = body(append(inside, prints(word("a")))...)
		}
		for i := int64(1); i <= n; i++ {
			ahead, behind = append(ahead, i), append(behind, n-i+1+100)
		}
		what := fmt.Sprintf("%d blocks", n)
		wantRun(t, what, text, append(ahead, behind...))
		u := wantBound(t, what, text)
		if vars := u.Fns[0].Vars; len(u.Fns) != 1 || len(vars) != int(n) || slices.ContainsFunc(vars, func(v string) bool { return v != "a" }) {
			t.Fatalf("%s: %v", what, vars)
		}
		wantOwn(t, what, u.Fns[0])
	}
}

// wantOwn asks that every NVar of a fn of blocks is the variable of its own block: the last that is declared there.
func wantOwn(t *testing.T, what string, f impl.Fn) {
	t.Helper()
	parents := parentsOf(f.Nodes)
	for n, node := range f.Nodes {
		if node.Kind != impl.NVar {
			continue
		}
		p := n
		for f.Nodes[p].Kind != impl.NBlock {
			p = parents[p][0]
		}
		if own := f.Nodes[f.Nodes[p].Kids[0]].Refs[0]; node.Refs[0] != own {
			t.Fatalf("%s: node %d is variable %d, not %d", what, n, node.Refs[0], own)
		}
	}
}

// Each block sees that of the one around while its own is being made.
func TestBlocksThatLeanOnOneAnother(t *testing.T) {
	for n := int64(1); n <= 60; n++ {
		var out []any
		text := body()
		for i := n; i >= 1; i-- {
			value := two(impl.OpAdd, word("a"), number(1))
			if i == 1 {
				value = number(1)
			}
			text = body(lets(1, "a", value), text, prints(word("a")))
			out = append(out, i)
		}
		wantRun(t, fmt.Sprintf("%d blocks", n), text, out)
	}
}

// fnsAround puts a statement into so many fns in one another, each of which calls the one inside.
func fnsAround(n int, inside ...twig) []twig {
	for i := n; i >= 1; i-- {
		name := fmt.Sprintf("f%d", i)
		inside = []twig{makes(1, name, lambda(1, nil, inside...)), does(word(name))}
	}
	return inside
}

func wantHandedOn(t *testing.T, what string, u impl.Unit, n int) {
	t.Helper()
	if len(u.Fns) != n+1 {
		t.Fatalf("%s: %d fns", what, len(u.Fns))
	}
	for f := 1; f <= n; f++ {
		expect := handed(0)
		if f == 1 {
			expect = local(0)
		}
		if ups := u.Fns[f].Ups; len(ups) < 1 || ups[0] != expect {
			t.Errorf("%s: fn %d has %v", what, f, ups)
		}
	}
}

func TestOneVariableOfFnsInOneAnother(t *testing.T) {
	for n := 1; n <= 20; n++ {
		what := fmt.Sprintf("%d fns", n)
		// Every call goes all the way in.
		inner := fnsAround(n, adds("x", 1))
		text := body(lets(1, "x", number(0)), inner[0], prints(word("x")), inner[1], prints(word("x")), inner[1], inner[1], prints(word("x")))
		wantRun(t, what, text, []any{int64(0), int64(1), int64(3)})
		wantHandedOn(t, what, wantBound(t, what, text), n)

		// Each fn gives the one inside; the innermost is called alone, from outside.
		value := lambda(1, nil, adds("x", 1), says("x"))
		for range n - 1 {
			value = lambda(1, nil, back(value))
		}
		through := word("f")
		for range n - 1 {
			through = dial(through)
		}
		text = body(lets(1, "x", number(5)), lets(2, "f", value), lets(3, "g", through),
			does(word("g")), prints(word("x")), does(word("g")), does(word("g")), prints(word("x"), dial(word("g")), word("x")),
			sets(1, word("x"), number(40)), does(word("g")), prints(word("x")))
		wantRun(t, what+" from outside", text, []any{int64(6), int64(8), int64(9), int64(9), int64(41)})
		wantHandedOn(t, what+" from outside", wantBound(t, what, text), n)

		// A name of its own in each fn hides nothing but the one around.
		hiding := []twig{adds("x", 1)}
		for i := n; i >= 1; i-- {
			name := fmt.Sprintf("f%d", i)
			hiding = []twig{lets(1, "y", number(int64(i))), makes(1, name, lambda(1, nil, hiding...)), does(word(name)), prints(word("y"), word("x"))}
		}
		var out []any
		for i := n; i >= 1; i-- {
			out = append(out, int64(i), int64(1))
		}
		wantRun(t, what+" with variables", body(append([]twig{lets(1, "x", number(0))}, hiding...)...), out)
	}
}

// Two fns that stand side by side, each far inside, have one variable.
func TestFnsSideBySide(t *testing.T) {
	for n := 1; n <= 20; n++ {
		left, right := fnsAround(n, adds("x", 1)), fnsAround(n, adds("x", 10))
		text := body(lets(1, "x", number(0)), body(append(left, left[1])...), body(append(right, prints(word("x")))...), prints(word("x")))
		wantRun(t, fmt.Sprintf("%d fns", n), text, []any{int64(12), int64(12)})
	}
}
