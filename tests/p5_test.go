package tests

import (
	"fmt"
	"math/rand"
	"slices"
	"testing"

	"loop.example/reed/impl"
)

// wantClosed asks for the names of the parts on these lines that are closed over.
func wantClosed(t *testing.T, what string, text twig, marks ...mark) {
	t.Helper()
	tree := lay(text)
	if got := boundKept(t, what, tree); got.Code != 0 {
		t.Errorf("%s: code %d at part %d", what, got.Code, got.Part)
	}
	var expect []impl.Decl
	for _, m := range marks {
		expect = append(expect, impl.Decl{Part: declaredOn(t, tree, m.line), Place: m.place})
	}
	got := closedKept(t, what, tree)
	if !slices.Equal(got, expect) {
		t.Errorf("%s: %v, want %v", what, got, expect)
	}
	if byUps := localsOf(tree, impl.Bind(tree).Unit); !slices.Equal(got, byUps) {
		t.Errorf("%s: %v, but the Ups name %v", what, got, byUps)
	}
}

// localsOf has the variables that Ups name with Local; which one a number is the second reading says.
func localsOf(tree impl.Tree, u impl.Unit) []impl.Decl {
	var list []impl.Decl
	m := bindingModel(tree)
	around := make([]int, len(u.Fns))
	for f, fn := range u.Fns {
		for _, n := range fn.Nodes {
			if n.Kind == impl.NFn {
				around[n.Refs[0]] = f
			}
		}
	}
	for f, fn := range u.Fns {
		for _, up := range fn.Ups {
			if up.Local {
				list = append(list, m.vars[around[f]][up.Index].decl)
			}
		}
	}
	slices.SortFunc(list, func(a, b impl.Decl) int {
		if a.Part != b.Part {
			return a.Part - b.Part
		}
		return a.Place - b.Place
	})
	return slices.Compact(list)
}

// on is a name of a part on that line.
func on(line, place int) mark { return mark{line: line, place: place} }

func TestClosedByHand(t *testing.T) {
	abc := state(impl.SLet).named("a", "b", "c").line(9)
	wantClosed(t, "nothing", body())
	wantClosed(t, "used at home", body(abc, says("a", "b", "c")))
	wantClosed(t, "used at home in a block", body(abc, body(state(impl.SWhile, word("a"), body(says("b"))))))
	wantClosed(t, "one", body(abc, nameless(says("b"))), on(9, 1))
	wantClosed(t, "by place", body(abc, nameless(says("c", "a"))), on(9, 0), on(9, 2))
	wantClosed(t, "once", body(abc, nameless(says("b", "b"), nameless(says("b"))), nameless(says("b"))), on(9, 1))
	wantClosed(t, "by part", body(lets(3, "x"), lets(2, "y"), lets(5, "z"), nameless(says("z", "x"), nameless(says("y")))), on(3, 0), on(2, 0), on(5, 0))
	wantClosed(t, "a part behind what stands in it", body(makes(3, "f", lambda(4, []string{"p"}, nameless(says("p", "f"))))), on(4, 0), on(3, 0))
	wantClosed(t, "by numbers beyond ten", body(state(impl.SLet).named(someNames(12)...).line(9), nameless(says("n11", "n2", "n10"))), on(9, 2), on(9, 10), on(9, 11))
	wantClosed(t, "only written", body(abc, nameless(sets(1, word("a"), void()))), on(9, 0))
	wantClosed(t, "only written far inside", body(abc, nameless(nameless(sets(2, word("c"), word("b"), void())))), on(9, 1), on(9, 2))
	wantClosed(t, "far inside", body(abc, nameless(nameless(nameless(says("c"))))), on(9, 2))
	wantClosed(t, "no consts", body(fixes(1, "k", number(1)), nameless(says("k"))))
	wantClosed(t, "no builtins", body(nameless(says("print", "cells"))))
	wantClosed(t, "a variable with a builtin's name", body(lets(4, "print"), nameless(says("print"))), on(4, 0))
	wantClosed(t, "hidden by a const", body(lets(4, "k"), fixes(5, "k", number(1)), nameless(says("k"))))
	wantClosed(t, "hidden by a parameter", body(abc, back(lambda(3, []string{"a"}, says("a", "b")))), on(9, 1))
	wantClosed(t, "hidden by one of its own", body(abc, nameless(lets(2, "a", word("b")), says("a"))), on(9, 1))
	wantClosed(t, "ahead of one of its own", body(abc, nameless(lets(2, "a", word("a")), says("a"))), on(9, 0))
	wantClosed(t, "parameters", body(back(lambda(3, []string{"p", "q", "p"}, nameless(says("p"))))), on(3, 2))
	wantClosed(t, "a fn itself", body(makes(3, "f", lambda(0, nil, says("f")))), on(3, 0))
	wantClosed(t, "a fn itself, not used inside", body(makes(3, "f", lambda(0, nil)), says("f")))
	wantClosed(t, "a for", body(state(impl.SFor, void(), void(), body(nameless(says("i")))).named("i").line(6)), on(6, 0))
	wantClosed(t, "an each", body(state(impl.SEach, void(), body(nameless(says("v")))).named("k", "v").line(6)), on(6, 1))
	wantClosed(t, "a try", body(state(impl.STry, body(), body(nameless(says("e")))).named("e").line(6)), on(6, 0))
	wantClosed(t, "a try of two", body(state(impl.STry, body(), body(nameless(says("f", "e")))).named("e", "f").line(6)), on(6, 0), on(6, 1))
	wantClosed(t, "two of one name", body(lets(2, "a"), nameless(says("a")), lets(3, "a"), says("a"), lets(4, "a"), nameless(says("a"))), on(2, 0), on(4, 0))
	wantClosed(t, "in each fn its own", body(lets(2, "a"), nameless(says("a"), lets(3, "a"), nameless(says("a"), lets(4, "a"), says("a")))), on(2, 0), on(3, 0))
}

// What has a fault closes over nothing, though it would without the fault.
func TestClosedOfFaults(t *testing.T) {
	for code := 2; code <= 6; code++ {
		for what, text := range map[string]twig{
			"ahead":  body(flawed()[code], lets(1, "a"), nameless(says("a"))),
			"behind": body(lets(1, "a"), nameless(says("a")), flawed()[code]),
			"inside": body(lets(1, "a"), nameless(says("a"), flawed()[code])),
		} {
			tree := lay(text)
			if got := boundKept(t, what, tree); got.Code != code {
				t.Errorf("%s: code %d, not %d", what, got.Code, code)
			}
			if got := closedKept(t, what, tree); len(got) != 0 {
				t.Errorf("code %d %s: %v", code, what, got)
			}
		}
	}
	tree := lay(body(lets(1, "a"), nameless(says("a"))))
	if len(impl.Closed(tree)) != 1 {
		t.Error("without a fault")
	}
	tree.Parts[0].Op = 1
	if len(impl.Closed(tree)) != 0 {
		t.Error("not sound")
	}
}

func TestClosedAgainstUps(t *testing.T) {
	r := rand.New(rand.NewSource(51))
	closed := map[int]int{}
	for round := range 1500 {
		tree := someBindable(r)
		b := impl.Bind(tree)
		if b.Code != 0 {
			continue
		}
		got := closedKept(t, fmt.Sprintf("round %d", round), tree)
		if expect := localsOf(tree, b.Unit); !slices.Equal(got, expect) {
			t.Fatalf("round %d: %v, want %v, of %+v", round, got, expect, tree)
		}
		for _, d := range got {
			closed[tree.Parts[d.Part].Kind]++
		}
	}
	for _, kind := range []int{impl.SLet, impl.SFn, impl.SFor, impl.SEach, impl.STry, impl.EFn} {
		if closed[kind] < 30 {
			t.Errorf("kind %d was closed over only %d times", kind, closed[kind])
		}
	}
	if closed[impl.SConst] != 0 {
		t.Error("a const is closed over")
	}
}
