package tests

import (
	"fmt"
	"math"
	"slices"
	"testing"

	"loop.example/reed/impl"
)

// Nodes, for what is folded and for what it should become.

func truly() sprout { return ex(impl.NTrue) }

func falsely() sprout { return ex(impl.NFalse) }

func rest() sprout { return ex(impl.NRest) }

func single(kid sprout) sprout { return ex(impl.NOne, kid) }

func and(first, second sprout) sprout { return ex(impl.NAnd, first, second) }

func or(first, second sprout) sprout { return ex(impl.NOr, first, second) }

func unary(op int, x sprout) sprout { return ex(impl.NUnary, x).op(op) }

func binary(op int, x, y sprout) sprout { return ex(impl.NBinary, x, y).op(op) }

func when(kids ...sprout) sprout { return at(1, impl.NIf, kids...) }

func breaks() sprout { return at(1, impl.NBreak) }

func nexts() sprout { return at(1, impl.NNext) }

func throws(x sprout) sprout { return at(1, impl.NThrow, x) }

func set(target, value sprout) sprout { return at(1, impl.NSet, target, value).num(1) }

// show is a statement that can be seen: a print.
func show(values ...sprout) sprout {
	return at(1, impl.NDo, call(append([]sprout{builtin(impl.BPrint)}, values...)...))
}

// literal is the node that gives a value.
func literal(v impl.Value) sprout {
	switch {
	case v.Kind == impl.KNil:
		return null()
	case v.Kind == impl.KBool && v.Num == 1:
		return truly()
	case v.Kind == impl.KBool:
		return falsely()
	case v.Kind == impl.KInt:
		return whole(v.Num)
	case v.Kind == impl.KFlt:
		return real(v.Flt)
	case v.Kind == impl.KStr:
		return quote(v.Str)
	}
	return builtin(v.Num)
}

// trueLiterals and falseLiterals have literals of each kind, by their Truth.
func trueLiterals() []sprout {
	return []sprout{truly(), whole(0), whole(-1), whole(math.MinInt64), real(0), real(minusZero()), real(1.5), real(math.Inf(-1)),
		quote(""), quote("s"), quote("false"), builtin(0), builtin(impl.Builtins - 1)}
}

func falseLiterals() []sprout { return []sprout{null(), falsely()} }

// fnsMade is the greatest number of a fn that a sprout makes.
func fnsMade(s sprout) int {
	most := 0
	if s.node.Kind == impl.NFn {
		most = s.node.Refs[0]
	}
	for _, k := range s.kids {
		most = max(most, fnsMade(k))
	}
	return most
}

// unitFor has statements in a text with variables 0 to 2 declared ahead of them and 3 to 9 for the statements to declare, and the fns that they make.
func unitFor(statements ...sprout) impl.Unit {
	body := block(append([]sprout{at(1, impl.NLet).refs(0, 1, 2)}, statements...)...)
	u := text(10, body)
	for range fnsMade(body) {
		u = with(u, plainFn())
	}
	return u
}

// foldKept asks twice, that the unit stays as it is, and what holds of every answer.
func foldKept(t *testing.T, what string, u impl.Unit) impl.Unit {
	t.Helper()
	kept := copyUnit(u)
	answer := impl.Fold(u)
	got := copyUnit(answer)
	if !sameUnit(copyUnit(impl.Fold(u)), got) {
		t.Errorf("%s: the same unit has another answer", what)
	}
	if !sameUnit(copyUnit(u), kept) {
		t.Errorf("%s: the unit was written into", what)
	}
	if impl.CheckUnit(u) != (impl.Fault{}) {
		if len(got.Fns) != 0 {
			t.Errorf("%s: a unit that is not valid is folded", what)
		}
		return got
	}
	if fault := impl.CheckUnit(answer); fault != (impl.Fault{}) {
		t.Errorf("%s: the folded unit has fault %v", what, fault)
		return got
	}
	if !sameUnit(copyUnit(impl.Fold(answer)), got) {
		t.Errorf("%s: the folded unit is not its own Fold", what)
	}
	holdFns(t, what, kept, got)
	return got
}

// holdFns asks that two units have the same fns, the second with no more nodes, in the order of a walk, and making the same fns.
func holdFns(t *testing.T, what string, before, after impl.Unit) {
	t.Helper()
	if len(before.Fns) != len(after.Fns) {
		t.Fatalf("%s: %d fns became %d", what, len(before.Fns), len(after.Fns))
	}
	for f := range before.Fns {
		b, a := before.Fns[f], after.Fns[f]
		if b.Name != a.Name || b.Line != a.Line || b.Params != a.Params || b.Rest != a.Rest || !slices.Equal(b.Vars, a.Vars) || !slices.Equal(b.Ups, a.Ups) {
			t.Errorf("%s: the head of fn %d is another one", what, f)
		}
		if len(a.Nodes) > len(b.Nodes) {
			t.Errorf("%s: fn %d has %d nodes and had %d", what, f, len(a.Nodes), len(b.Nodes))
		}
		if walk := walkOf(a.Nodes, len(a.Nodes)-1); !slices.IsSorted(walk) {
			t.Errorf("%s: the nodes of fn %d stand in another order: %v", what, f, walk)
		}
		if made := madeIn(b.Nodes); !slices.Equal(made, madeIn(a.Nodes)) {
			t.Errorf("%s: fn %d made %v and makes %v", what, f, made, madeIn(a.Nodes))
		}
	}
}

// walkOf has the places of the nodes in the order of a walk, each behind its kids.
func walkOf(nodes []impl.Node, place int) []int {
	var walk []int
	for _, k := range nodes[place].Kids {
		walk = append(walk, walkOf(nodes, k)...)
	}
	return append(walk, place)
}

// madeIn has the fns that nodes make, by their numbers.
func madeIn(nodes []impl.Node) []int {
	var made []int
	for _, n := range nodes {
		if n.Kind == impl.NFn {
			made = append(made, n.Refs[0])
		}
	}
	slices.Sort(made)
	return made
}

// sketch has a unit's nodes on a few lines.
func sketch(u impl.Unit) string {
	lines := ""
	for f, fn := range u.Fns {
		lines += fmt.Sprintf("\n\tfn %d:", f)
		for n, node := range fn.Nodes {
			lines += fmt.Sprintf(" %d=%d", n, node.Kind)
			if node.Line != 0 {
				lines += fmt.Sprintf(" line %d", node.Line)
			}
			if value, ok := modelLiteral(node); ok {
				lines += fmt.Sprintf(" %v", value)
			}
			if len(node.Refs) > 0 {
				lines += fmt.Sprintf(" refs %v", node.Refs)
			}
			if len(node.Kids) > 0 {
				lines += fmt.Sprintf(" op %d kids %v", node.Op, node.Kids)
			}
			lines += ";"
		}
	}
	return lines
}

// wantFoldedUnit asks for just this unit.
func wantFoldedUnit(t *testing.T, what string, before, after impl.Unit) {
	t.Helper()
	wantValid(t, what, before)
	if got := foldKept(t, what, before); !sameUnit(got, copyUnit(after)) {
		t.Errorf("%s:\n got %s\nwant %s\n  of %s", what, sketch(got), sketch(after), sketch(before))
	}
}

// wantFold asks what one statement becomes.
func wantFold(t *testing.T, what string, before, after sprout) {
	t.Helper()
	wantFolds(t, what, []sprout{before}, []sprout{after})
}

// wantFolds asks what statements become; nil is for none at all.
func wantFolds(t *testing.T, what string, before, after []sprout) {
	t.Helper()
	wantFoldedUnit(t, what, unitFor(before...), unitFor(after...))
}

func wantStays(t *testing.T, what string, statements ...sprout) {
	t.Helper()
	wantFolds(t, what, statements, statements)
}

// placesForValues has statements with an expression in them that fold in no way themselves, whatever it becomes.
func placesForValues() map[string]func(x sprout) sprout {
	return map[string]func(x sprout) sprout{
		"return":            func(x sprout) sprout { return give(x) },
		"return, second":    func(x sprout) sprout { return give(use(0), x, use(1)) },
		"let":               func(x sprout) sprout { return let(3, x) },
		"set":               func(x sprout) sprout { return set(use(0), x) },
		"target's key":      func(x sprout) sprout { return set(ex(impl.NIndex, use(0), x), use(1)) },
		"argument":          func(x sprout) sprout { return show(x) },
		"called":            func(x sprout) sprout { return at(1, impl.NDefer, call(x, use(0))) },
		"key":               func(x sprout) sprout { return give(ex(impl.NTable, x, use(0))) },
		"value":             func(x sprout) sprout { return give(ex(impl.NTable, whole(1), x)) },
		"value, open end":   func(x sprout) sprout { return give(ex(impl.NTable, x, x, whole(1), rest()).op(1)) },
		"indexed":           func(x sprout) sprout { return give(ex(impl.NIndex, x, use(0))) },
		"thrown":            func(x sprout) sprout { return throws(x) },
		"for":               func(x sprout) sprout { return count(x, use(0), use(1), block(), 3) },
		"for, step":         func(x sprout) sprout { return count(use(0), use(1), x, block(), 3) },
		"each":              func(x sprout) sprout { return each(x, block(), 3) },
		"second of and":     func(x sprout) sprout { return give(and(use(0), x)) },
		"second of or":      func(x sprout) sprout { return give(or(use(0), x)) },
		"operand":           func(x sprout) sprout { return give(binary(impl.OpAdd, use(0), x)) },
		"joined":            func(x sprout) sprout { return give(binary(impl.OpJoin, x, quote("s"))) },
		"in one value":      func(x sprout) sprout { return give(single(call(use(0), x))) },
		"in a block":        func(x sprout) sprout { return block(block(show(x), breaksOut(x))) },
		"in a catch":        func(x sprout) sprout { return try(block(show(x)), block(show(use(3), x)), 3, 4) },
		"in a loop":         func(x sprout) sprout { return while(use(0), block(show(x))) },
		"in the third kid":  func(x sprout) sprout { return when(use(0), block(), when(use(1), block(show(x)), block(throws(x)))) },
		"in the second kid": func(x sprout) sprout { return when(use(0), block(show(x))) },
	}
}

// breaksOut is a loop that is left at once.
func breaksOut(x sprout) sprout { return each(x, block(show(x), breaks()), 3) }

// wantGives asks what an expression becomes, in each place where one may stand.
func wantGives(t *testing.T, what string, before, after sprout) {
	t.Helper()
	for where, put := range placesForValues() {
		// A fn is made just once.
		if countFns(put(before)) > countFns(before) {
			continue
		}
		wantFold(t, what+", "+where, put(before), put(after))
	}
}

func countFns(s sprout) int {
	n := 0
	if s.node.Kind == impl.NFn {
		n = 1
	}
	for _, k := range s.kids {
		n += countFns(k)
	}
	return n
}
