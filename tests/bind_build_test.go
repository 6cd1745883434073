package tests

import (
	"slices"
	"testing"

	"loop.example/reed/impl"
)

// here says that a part is the one at which a fault should be told: To has no other meaning in these trees.
func (t twig) here() twig {
	t.part.To = 77
	return t
}

// partHere is the part that is so marked.
func partHere(t *testing.T, tree impl.Tree) int {
	t.Helper()
	var found []int
	for n, p := range tree.Parts {
		if p.To == 77 {
			found = append(found, n)
		}
	}
	if len(found) != 1 {
		t.Fatalf("%d parts are marked", len(found))
	}
	return found[0]
}

// rest lets an EFn take further arguments.
func (t twig) rest() twig { return t.op(1) }

func sets(targets int, kids ...twig) twig { return state(impl.SSet, kids...).num(int64(targets)) }

func does(kids ...twig) twig { return state(impl.SDo, dial(kids...)) }

func index(of, key twig) twig { return say(impl.EIndex, of, key) }

func field(of twig, name string) twig { return say(impl.EField, of).text(name) }

func table(entries ...twig) twig { return say(impl.ETable, entries...) }

func item(value twig) twig { return say(impl.NItem, value) }

func pair(key, value twig) twig { return say(impl.NPair, key, value) }

func entry(name string, value twig) twig { return say(impl.NNamed, value).text(name) }

// further is an ERest.
func further() twig { return say(impl.ERest) }

// loops has each kind of loop, with what stands in its first expression and in its block.
func loops(first twig, inside ...twig) map[string]twig {
	return map[string]twig{
		"while":      state(impl.SWhile, first, body(inside...)),
		"for of two": state(impl.SFor, first, number(2), body(inside...)).named("i"),
		"for":        state(impl.SFor, first, number(2), number(3), body(inside...)).named("i"),
		"each":       state(impl.SEach, first, body(inside...)).named("k"),
	}
}

// Nodes as they should come out.

func up(place int) sprout { return ex(impl.NUp).refs(place) }

func builtin(number int64) sprout { return ex(impl.NBuiltin).num(number) }

func quote(text string) sprout { return sprout{node: impl.Node{Kind: impl.NStr, Str: text}} }

func real(f float64) sprout { return sprout{node: impl.Node{Kind: impl.NFlt, Flt: f}} }

func call(kids ...sprout) sprout { return ex(impl.NCall, kids...) }

func (s sprout) onLine(line int) sprout {
	s.node.Line = line
	return s
}

func local(v int) impl.Up { return impl.Up{Local: true, Index: v} }

func handed(place int) impl.Up { return impl.Up{Index: place} }

// textFn is fn 0 with its variables.
func textFn(body sprout, vars ...string) impl.Fn {
	return impl.Fn{Name: "main", Rest: true, Vars: vars, Nodes: grow(body)}
}

// sameBound takes an empty list and nil for the same: a copy of a unit has only the latter.
func sameBound(a, b impl.Bound) bool {
	return a.Code == b.Code && a.Part == b.Part && sameUnit(copyUnit(a.Unit), copyUnit(b.Unit))
}

// boundKept asks twice, that the tree stays as it is, and what holds of every answer.
func boundKept(t *testing.T, what string, tree impl.Tree) impl.Bound {
	t.Helper()
	kept := copyTree(tree)
	got := impl.Bind(tree)
	if !sameBound(impl.Bind(tree), got) {
		t.Errorf("%s: the same tree has another unit", what)
	}
	if !sameTree(tree, kept) {
		t.Errorf("%s: the tree was written into", what)
	}
	switch {
	case got.Code == 0 && impl.CheckUnit(got.Unit) != (impl.Fault{}):
		t.Errorf("%s: a unit that is not valid: %v", what, impl.CheckUnit(got.Unit))
	case got.Code == 0 && got.Part != 0:
		t.Errorf("%s: part %d of no fault", what, got.Part)
	case got.Code != 0 && len(got.Unit.Fns) != 0:
		t.Errorf("%s: fault %d and a unit", what, got.Code)
	case (got.Code == 1 || got.Code == 7) && got.Part != 0:
		t.Errorf("%s: fault %d at part %d", what, got.Code, got.Part)
	}
	return got
}

// closedKept asks twice, and that the tree stays as it is.
func closedKept(t *testing.T, what string, tree impl.Tree) []impl.Decl {
	t.Helper()
	kept := copyTree(tree)
	got := impl.Closed(tree)
	if !slices.Equal(impl.Closed(tree), got) {
		t.Errorf("%s: the same tree closes over something else", what)
	}
	if !sameTree(tree, kept) {
		t.Errorf("%s: the tree was written into", what)
	}
	return got
}

// wantFault asks for a fault of the codes 2 to 6 at the part that is marked.
func wantFault(t *testing.T, what string, text twig, code int) {
	t.Helper()
	tree := lay(text)
	wantSound(t, what, tree)
	fault := impl.Bound{Code: code, Part: partHere(t, tree)}
	if got := boundKept(t, what, tree); !sameBound(got, fault) {
		t.Errorf("%s: code %d at part %d, want %d at %d", what, got.Code, got.Part, fault.Code, fault.Part)
	}
	if closed := closedKept(t, what, tree); len(closed) != 0 {
		t.Errorf("%s: %v is closed over", what, closed)
	}
}

// wantTooLarge asks for the fault 7.
func wantTooLarge(t *testing.T, what string, text twig) {
	t.Helper()
	tree := lay(text)
	wantSound(t, what, tree)
	if got := boundKept(t, what, tree); got.Code != 7 {
		t.Errorf("%s: code %d at part %d", what, got.Code, got.Part)
	}
}

// wantBound asks for a unit, whatever it is.
func wantBound(t *testing.T, what string, text twig) impl.Unit {
	t.Helper()
	tree := lay(text)
	wantSound(t, what, tree)
	got := boundKept(t, what, tree)
	if got.Code != 0 {
		t.Errorf("%s: code %d at part %d", what, got.Code, got.Part)
	}
	return got.Unit
}

// wantUnit asks for just these fns.
func wantUnit(t *testing.T, what string, text twig, fns ...impl.Fn) {
	t.Helper()
	got := copyUnit(wantBound(t, what, text))
	if expect := copyUnit(impl.Unit{Fns: fns}); !sameUnit(got, expect) {
		t.Errorf("%s:\n got %+v\nwant %+v", what, got, expect)
	}
}

// wantNodes asks for a text without fns and what it becomes.
func wantNodes(t *testing.T, what string, text twig, body sprout, vars ...string) {
	t.Helper()
	wantUnit(t, what, text, textFn(body, vars...))
}
