package tests

import (
	"math"
	"reflect"
	"slices"
	"testing"

	"loop.example/reed/impl"
)

// Statements that declare, each with a line of its own as a label by which the tests tell it from the others.

func lets(line int, name string, values ...twig) twig {
	return state(impl.SLet, values...).named(name).line(line)
}

func fixes(line int, name string, value twig) twig {
	return state(impl.SConst, value).named(name).line(line)
}

func makes(line int, name string, fn twig) twig {
	return state(impl.SFn, fn).named(name).line(line)
}

// lambda is an EFn.
func lambda(line int, params []string, statements ...twig) twig {
	return say(impl.EFn, body(statements...)).named(params...).line(line)
}

// nameless is an EFn without parameters, in a statement of its own.
func nameless(statements ...twig) twig {
	return back(lambda(0, nil, statements...))
}

// says has each of the names as a use.
func says(names ...string) twig {
	var words []twig
	for _, name := range names {
		words = append(words, word(name))
	}
	return back(words...)
}

// mark is what a use should be: its kind, the line of what declares it, and its place; for what is not declared the line is 0.
type mark struct{ kind, line, place int }

// declaredOn has the part that has names and that line, -1 for line 0.
func declaredOn(t *testing.T, tree impl.Tree, line int) int {
	t.Helper()
	if line == 0 {
		return -1
	}
	part := -1
	for n, p := range tree.Parts {
		if p.Line == line && len(p.Names) > 0 {
			if part != -1 {
				t.Fatalf("line %d declares twice", line)
			}
			part = n
		}
	}
	if part == -1 {
		t.Fatalf("line %d declares nothing", line)
	}
	return part
}

// wantUses asks for one use for each EName, in order, as the marks say.
func wantUses(t *testing.T, what string, text twig, marks ...mark) {
	t.Helper()
	tree := lay(text)
	wantSound(t, what, tree)
	var want []impl.Use
	for n, p := range tree.Parts {
		if p.Kind != impl.EName {
			continue
		}
		if len(want) == len(marks) {
			t.Fatalf("%s: more names than marks", what)
		}
		m := marks[len(want)]
		want = append(want, impl.Use{Part: n, Kind: m.kind, Decl: declaredOn(t, tree, m.line), Place: m.place})
	}
	if len(want) != len(marks) {
		t.Fatalf("%s: fewer names than marks", what)
	}
	if got := usesKept(t, what, tree); !slices.Equal(got, want) {
		t.Errorf("%s:\n got %v\nwant %v", what, got, want)
	}
}

// usesKept asks twice, and that the tree stays as it is.
func usesKept(t *testing.T, what string, tree impl.Tree) []impl.Use {
	t.Helper()
	kept := copyTree(tree)
	got := impl.Uses(tree)
	if !slices.Equal(impl.Uses(tree), got) {
		t.Errorf("%s: the same tree has other uses", what)
	}
	if !sameTree(tree, kept) {
		t.Errorf("%s: the tree was written into", what)
	}
	return got
}

// constsKept asks twice, and that the tree stays as it is.
func constsKept(t *testing.T, what string, tree impl.Tree) []impl.Const {
	t.Helper()
	kept := copyTree(tree)
	got := impl.Consts(tree)
	if !slices.EqualFunc(impl.Consts(tree), got, sameConst) {
		t.Errorf("%s: the same tree has other consts", what)
	}
	if !sameTree(tree, kept) {
		t.Errorf("%s: the tree was written into", what)
	}
	return got
}

// sameConst tells the zeros apart.
func sameConst(a, b impl.Const) bool {
	if math.Float64bits(a.Value.Flt) != math.Float64bits(b.Value.Flt) {
		return false
	}
	return reflect.DeepEqual(a, b)
}

// Expressions that can be worked out.

func flt(f float64) twig { return twig{part: impl.Part{Kind: impl.EFlt, Flt: f}} }

func str(s string) twig { return say(impl.EStr).text(s) }

func one(op int, x twig) twig { return say(impl.EUnary, x).op(op) }

func two(op int, x, y twig) twig { return say(impl.EBinary, x, y).op(op) }

func void() twig { return say(impl.ENil) }

func yes() twig { return say(impl.ETrue) }

func no() twig { return say(impl.EFalse) }

// nan is the quotient of two zeros: no literal has that value.
func nan() twig { return two(impl.OpDiv, flt(0), flt(0)) }

// Values.

func vNil() impl.Value { return impl.Value{} }

func vBool(b bool) impl.Value {
	if b {
		return impl.Value{Kind: impl.KBool, Num: 1}
	}
	return impl.Value{Kind: impl.KBool}
}

func vInt(n int64) impl.Value { return impl.Value{Kind: impl.KInt, Num: n} }

func vFlt(f float64) impl.Value { return impl.Value{Kind: impl.KFlt, Flt: f} }

func vStr(s string) impl.Value { return impl.Value{Kind: impl.KStr, Str: s} }

func vBuiltin(n int64) impl.Value { return impl.Value{Kind: impl.KBuiltin, Num: n} }

func minusZero() float64 { return math.Copysign(0, -1) }
