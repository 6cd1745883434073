package tests

import (
	"fmt"
	"math/rand"
	"slices"
	"testing"

	"loop.example/reed/impl"
)

// renamed gives every declared name one of its own, and the uses with them; what a name is the second reading says.
func renamed(tree impl.Tree, call func(part, place int) string) impl.Tree {
	out := copyTree(tree)
	for n, p := range tree.Parts {
		for place := range p.Names {
			out.Parts[n].Names[place] = call(n, place)
		}
		if p.Kind != impl.EName {
			continue
		}
		if u := modelUse(tree.Parts, n); u.Decl >= 0 {
			out.Parts[n].Text = call(u.Decl, u.Place)
		}
	}
	return out
}

// nameNone takes all names out of a unit.
func nameNone(u impl.Unit) impl.Unit {
	u = copyUnit(u)
	for f := range u.Fns {
		u.Fns[f].Name = ""
		for v := range u.Fns[f].Vars {
			u.Fns[f].Vars[v] = "v"
		}
	}
	return u
}

// holdRenamed asks that nothing but names changes.
func holdRenamed(t *testing.T, what string, tree impl.Tree, call func(part, place int) string) impl.Bound {
	t.Helper()
	other := renamed(tree, call)
	a, b := boundKept(t, what, tree), boundKept(t, what, other)
	if a.Code != b.Code || a.Part != b.Part || !sameUnit(nameNone(a.Unit), nameNone(b.Unit)) {
		t.Fatalf("%s:\n   got %+v\nbefore %+v\n    of %+v", what, b, a, tree)
	}
	if x, y := usesKept(t, what, tree), usesKept(t, what, other); !slices.Equal(x, y) {
		t.Fatalf("%s: uses\n   got %v\nbefore %v", what, y, x)
	}
	if x, y := closedKept(t, what, tree), closedKept(t, what, other); !slices.Equal(x, y) {
		t.Fatalf("%s: closed over\n   got %v\nbefore %v", what, y, x)
	}
	if x, y := impl.Consts(tree), impl.Consts(other); !slices.EqualFunc(x, y, sameConst) {
		t.Fatalf("%s: consts\n   got %v\nbefore %v", what, y, x)
	}
	holdVars(t, what, other, b.Unit)
	return a
}

// holdVars asks that the names of a unit are those of the tree: what is declared, and nothing else.
func holdVars(t *testing.T, what string, tree impl.Tree, u impl.Unit) {
	t.Helper()
	left := map[string]int{}
	for _, p := range tree.Parts {
		if p.Kind == impl.STry && len(p.Names) == 1 {
			left["_"]++
		}
		for _, name := range p.Names {
			if p.Kind != impl.SConst {
				left[name]++
			}
		}
	}
	for _, f := range u.Fns {
		for _, name := range f.Vars {
			left[name]--
		}
	}
	for name, count := range left {
		if count != 0 && len(u.Fns) > 0 {
			t.Errorf("%s: %s is a variable %d times too few", what, name, count)
		}
	}
}

func ofTheirOwn(part, place int) string { return fmt.Sprintf("own_%d_%d", part, place) }

func TestNamesChangedByHand(t *testing.T) {
	for what, text := range map[string]twig{
		"hidden":       body(lets(1, "a"), body(lets(2, "a", word("a")), says("a")), says("a")),
		"twice":        body(state(impl.SLet).named("a", "a"), says("a"), back(lambda(1, []string{"a", "a"}, says("a")))),
		"a try":        body(lets(1, "_"), state(impl.STry, body(says("_")), body(says("_", "e"))).named("e"), state(impl.STry, body(), body(says("_"))).named("_")),
		"a const":      body(fixes(1, "a", number(1)), fixes(2, "b", word("a")), body(lets(3, "a"), says("a", "b")), says("a")),
		"builtins":     body(lets(1, "print"), says("print", "read"), nameless(says("print", "read")), body(fixes(2, "read", void()), says("read"))),
		"fields":       body(lets(1, "a"), back(field(word("a"), "a"), table(entry("a", word("a")))), sets(1, field(word("a"), "a"), word("a"))),
		"fns":          body(makes(1, "a", lambda(1, []string{"b"}, makes(2, "a", lambda(2, []string{"b"}, says("a", "b"))), says("a", "b"))), says("a")),
		"loops":        body(state(impl.SFor, number(1), number(2), body(state(impl.SEach, word("a"), body(says("a", "b"))).named("a", "b"), says("a"))).named("a")),
		"nothing":      body(lets(1, "a"), says("a", "b")),
		"too large":    body(state(impl.SEach, void(), body(nameless(says("e", "a")))).named("a", "b", "c", "d", "e")),
		"main":         body(lets(1, "main"), nameless(says("main"))),
		"one for each": lifted(richTree()),
	} {
		holdRenamed(t, what, lay(text), ofTheirOwn)
		// Names of which each is the beginning of another, and the longest that there are.
		holdRenamed(t, what, lay(text), func(part, place int) string {
			return fmt.Sprintf("n%0*d", 1+(part*7+place)%30, part*7+place)
		})
		holdRenamed(t, what, lay(text), func(part, place int) string { return fmt.Sprintf("_%039d", part*300+place) })
	}
}

// lifted has the twig of a tree.
func lifted(tree impl.Tree) twig {
	var take func(n int) twig
	take = func(n int) twig {
		t := twig{part: tree.Parts[n]}
		for _, k := range tree.Parts[n].Kids {
			t.kids = append(t.kids, take(k))
		}
		return t
	}
	return take(len(tree.Parts) - 1)
}

func TestNamesChangedInSownTrees(t *testing.T) {
	r := rand.New(rand.NewSource(41))
	codes, closed := map[int]int{}, 0
	for round := range 1200 {
		tree := someBindable(r)
		if round%4 == 0 {
			tree = someTree(r)
		}
		got := holdRenamed(t, fmt.Sprintf("round %d", round), tree, ofTheirOwn)
		codes[got.Code]++
		closed += len(impl.Closed(tree))
	}
	if codes[0] < 500 || codes[2] < 50 || closed < 500 {
		t.Errorf("codes %v, %d closed over", codes, closed)
	}
}
