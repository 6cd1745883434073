package tests

import (
	"fmt"
	"testing"

	"loop.example/reed/impl"
)

// emptied is a block without statements, on its line.
func emptied(line int) sprout { return block().onLine(line) }

// fnOf is a statement that makes fn g: at once, or far below.
func fnOf(g int) []sprout {
	return []sprout{
		let(5, fn(g)), give(fn(g)), show(use(0), fn(g)), throws(and(use(0), fn(g))), block(block(set(use(0), fn(g)))),
		while(null(), block(show(fn(g)))), when(truly(), block(), block(show(fn(g)))), try(block(), block(give(ex(impl.NTable, whole(1), fn(g)))), 5, 6),
		at(1, impl.NDefer, call(fn(g))), when(or(whole(1), fn(g)), block()),
	}
}

// loses has statements without a fn, that a rule may take away.
func loses() []sprout {
	return []sprout{
		show(use(0)), let(6, use(0)), give(), give(call(use(0)), rest()), throws(use(1)), set(use(0), null()), block(), block(give()),
		when(use(0), block(give()), block()), while(use(0), block(breaks(), nexts())), while(null(), block(show(use(0)))), count(use(0), use(0), use(0), block(nexts()), 7),
		each(use(0), block(show(use(7), use(8))), 7, 8), try(block(throws(use(0))), block(show(use(7))), 7, 8), at(4, impl.NDefer, call(use(0))), show(binary(impl.OpAdd, whole(1), whole(2))),
	}
}

func TestFoldOfIfThatIsTrue(t *testing.T) {
	for i, first := range trueLiterals() {
		what := fmt.Sprintf("literal %d", i)
		yes := block(show(use(0)), give(use(1))).onLine(3)
		wantStays(t, what+", two kids", when(first, yes).onLine(2))
		wantFold(t, what+", three kids", when(first, yes, block(show(use(1))).onLine(4)).onLine(2), when(first, yes).onLine(2))
		wantFold(t, what+", the third empty", when(first, yes, emptied(4)), when(first, yes))
		wantFold(t, what+", the third a NIf", when(first, yes, when(use(0), block(), block(give()))), when(first, yes))
		wantFold(t, what+", all empty", when(first, block(), block()), when(first, block()))
	}
	for i, s := range loses() {
		wantFold(t, fmt.Sprintf("statement %d in the third", i), when(truly(), block(), block(s)), when(truly(), block()))
		wantFold(t, fmt.Sprintf("statement %d in the third's third", i), when(truly(), block(), when(use(0), block(), block(show(use(0)), s))), when(truly(), block()))
	}
	for i, s := range fnOf(1) {
		what := fmt.Sprintf("fn %d", i)
		wantStays(t, what+" in the third", when(truly(), block(show(use(0))), block(show(use(0)), s)))
		wantStays(t, what+" in the third's second", when(truly(), block(), when(use(0), block(s), block(show(use(0))))))
		wantStays(t, what+" in the third's third", when(truly(), block(), when(use(0), block(), when(use(0), block(), block(s)))))
		wantStays(t, what+" in the second, of two", when(truly(), block(s)))
		wantFold(t, what+" in the second", when(truly(), block(s), block(show(use(0)))), when(truly(), block(s)))
	}
	wantStays(t, "fn in the third's first", when(truly(), block(), when(fn(1), block())))
}

func TestFoldOfIfThatIsFalse(t *testing.T) {
	for i, first := range falseLiterals() {
		what := fmt.Sprintf("literal %d", i)
		wantFold(t, what+", two kids", when(first, block(show(use(0))).onLine(3)).onLine(2), when(first, emptied(3)).onLine(2))
		wantStays(t, what+", empty already", when(first, emptied(3)).onLine(2))
		third := block(show(use(1)), throws(use(0))).onLine(4)
		wantFold(t, what+", three kids", when(first, block(show(use(0)), give()).onLine(3), third).onLine(2), when(first, emptied(3), third).onLine(2))
		wantStays(t, what+", three kids, empty already", when(first, emptied(impl.MaxLine), third).onLine(2))
		other := when(use(0), block(show(use(0))), third).onLine(5)
		wantFold(t, what+", the third a NIf", when(first, block(give()).onLine(3), other), when(first, emptied(3), other))
	}
	for i, s := range loses() {
		wantFold(t, fmt.Sprintf("statement %d", i), when(null(), block(s).onLine(9)), when(null(), emptied(9)))
		wantFold(t, fmt.Sprintf("statement %d, with a third", i), when(null(), block(show(use(0)), s).onLine(9), block()), when(null(), emptied(9), block()))
	}
	for i, s := range fnOf(1) {
		what := fmt.Sprintf("fn %d", i)
		wantStays(t, what, when(null(), block(show(use(0)), s)))
		wantStays(t, what+", with a third", when(falsely(), block(show(use(0)), s), block(show(use(0)))))
		wantFold(t, what+" in the third", when(falsely(), block(show(use(0))).onLine(3), block(show(use(0)), s)), when(falsely(), emptied(3), block(show(use(0)), s)))
	}
	wantFold(t, "fn in a third NIf's first", when(null(), block(give()), when(fn(1), block())), when(null(), block(), when(fn(1), block())))
}

func TestFoldOfIfsInOneAnother(t *testing.T) {
	x, y := show(use(0)), show(use(1))
	wantFold(t, "false, then true", when(null(), block(x), when(truly(), block(y), block(x))), when(null(), block(), when(truly(), block(y))))
	wantFold(t, "false, then false", when(null(), block(x), when(null(), block(y), block(x))), when(null(), block(), when(null(), block(), block(x))))
	wantFold(t, "true, then true", when(truly(), block(when(truly(), block(x), block(y))), block(y)), when(truly(), block(when(truly(), block(x)))))
	wantFold(t, "in the second that goes", when(null(), block(when(truly(), block(x), block(y))).onLine(6)), when(null(), emptied(6)))
	wantFold(t, "an unsure one", when(use(0), block(when(null(), block(x))), when(truly(), block(y), block(x))), when(use(0), block(when(null(), block())), when(truly(), block(y))))
	wantFold(t, "a fn in the last of three", when(null(), block(x), when(null(), block(y), block(let(5, fn(1))))), when(null(), block(), when(null(), block(), block(let(5, fn(1))))))
	wantFold(t, "a fn in the last of three, of which the first is true", when(truly(), block(x), when(null(), block(y), block(let(5, fn(1))))), when(truly(), block(x), when(null(), block(), block(let(5, fn(1))))))
	wantFold(t, "a condition that is folded to true", when(binary(impl.OpLt, whole(1), whole(2)), block(x), block(y)), when(truly(), block(x)))
	wantFold(t, "a condition that is folded to false", when(and(null(), call(use(0))), block(x).onLine(2), block(y)), when(null(), emptied(2), block(y)))
	wantFold(t, "a condition that is folded, but not to a literal", when(and(truly(), call(use(0))), block(x), block(y)), when(single(call(use(0))), block(x), block(y)))
	for _, first := range []sprout{use(0), call(use(0)), rest(), binary(impl.OpJoin, whole(1), whole(1)), binary(impl.OpIDiv, whole(1), whole(0)), binary(impl.OpDiv, whole(0), whole(0)), ex(impl.NTable), fn(1), and(null(), fn(1)), or(truly(), fn(1))} {
		wantStays(t, "a condition that is none", when(first, block(x), block(y)), when(use(0), block(x)))
	}
}

func TestFoldOfWhile(t *testing.T) {
	for i, first := range falseLiterals() {
		what := fmt.Sprintf("false literal %d", i)
		wantFold(t, what, while(first, block(show(use(0)), breaks()).onLine(3)).onLine(2), while(first, emptied(3)).onLine(2))
		wantStays(t, what+", empty already", while(first, emptied(3)).onLine(2))
		for j, s := range loses() {
			wantFold(t, fmt.Sprintf("%s, statement %d", what, j), while(first, block(show(use(0)), s).onLine(8)), while(first, emptied(8)))
		}
		for j, s := range fnOf(1) {
			wantStays(t, fmt.Sprintf("%s, fn %d", what, j), while(first, block(show(use(0)), s)))
		}
	}
	for i, first := range trueLiterals() {
		what := fmt.Sprintf("true literal %d", i)
		wantStays(t, what, while(first, block(show(use(0)), breaks()).onLine(3)).onLine(2))
		wantStays(t, what+", empty", while(first, emptied(3)))
		wantStays(t, what+", fn", while(first, block(show(fn(1)))))
	}
	for i, first := range []sprout{use(0), call(use(0)), rest(), single(rest()), binary(impl.OpJoin, whole(1), whole(1)), binary(impl.OpShl, whole(1), whole(-1)), fn(1), and(null(), fn(1))} {
		wantStays(t, fmt.Sprintf("no literal, %d", i), while(first, block(show(use(0)))))
	}
	wantFold(t, "a condition that is folded", while(unary(impl.OpNot, whole(0)), block(show(use(0)))), while(falsely(), block()))
	wantFold(t, "in one another", while(null(), block(while(null(), block(show(use(0)))))), while(null(), block()))
	wantFold(t, "in one that goes on", while(use(0), block(while(null(), block(show(use(0)), breaks()).onLine(7)), nexts())), while(use(0), block(while(null(), emptied(7)), nexts())))
	wantFold(t, "a fn beside", while(null(), block(while(null(), block(show(use(0)))), let(5, fn(1)))), while(null(), block(while(null(), block()), let(5, fn(1)))))
}

// endings has the statements that no run goes on from, as they stand in a loop.
func endings() map[string]sprout {
	return map[string]sprout{
		"return": give(), "return of values": give(use(0), call(use(1)), rest()), "break": breaks(), "next": nexts(), "throw": throws(use(0)),
	}
}

// inLoop puts blocks into each kind of statement that has one, in a loop.
func inLoop(b sprout) map[string]sprout {
	return map[string]sprout{
		"while": while(use(0), b), "while true": while(truly(), b), "for": count(use(0), use(1), use(2), b, 9), "each": each(use(0), b, 9),
		"block": while(use(0), block(b)), "if": while(use(0), block(when(use(0), b))), "else": while(use(0), block(when(use(0), block(), b))),
		"elif": while(use(0), block(when(use(0), block(), when(use(1), b)))), "try": while(use(0), block(try(b, block(), 3, 4))), "catch": while(use(0), block(try(block(), b, 3, 4))),
	}
}

// wantCut asks what a block becomes, wherever it stands.
func wantCut(t *testing.T, what string, before, after []sprout) {
	t.Helper()
	bs, as := inLoop(block(before...).onLine(5)), inLoop(block(after...).onLine(5))
	for where := range bs {
		wantFold(t, what+", "+where, bs[where], as[where])
	}
}

func TestFoldOfBlocksThatEnd(t *testing.T) {
	x, y := show(use(0)), set(use(1), use(0))
	for what, end := range endings() {
		wantCut(t, what+" alone", []sprout{end}, []sprout{end})
		wantCut(t, what+" last", []sprout{x, y, end}, []sprout{x, y, end})
		wantCut(t, what+" first", []sprout{end, x, y}, []sprout{end})
		wantCut(t, what+" in the middle", []sprout{x, end, y, x}, []sprout{x, end})
		wantCut(t, what+" twice", []sprout{x, end, end}, []sprout{x, end})
		for other, too := range endings() {
			wantCut(t, what+" and "+other, []sprout{x, end, y, too, y}, []sprout{x, end})
		}
		for i, s := range loses() {
			wantFold(t, fmt.Sprintf("%s, statement %d", what, i), while(use(0), block(end, s)), while(use(0), block(end)))
		}
		for i, s := range fnOf(1) {
			how := fmt.Sprintf("%s, fn %d", what, i)
			wantFold(t, how+" ahead", while(use(0), block(x, s, y)), while(use(0), block(cutAt(x, s, y)...)))
			wantFold(t, how+" ahead of the end", while(use(0), block(s, end, y)), while(use(0), block(cutAt(s, end, y)...)))
			wantStays(t, how+" behind", while(use(0), block(end, s)))
			wantStays(t, how+" far behind", while(use(0), block(x, end, y, y, s, y)))
			wantStays(t, how+" between two", while(use(0), block(x, end, y, s, end, y)))
			wantStays(t, how+" behind two", while(use(0), block(end, y, end, s)))
		}
	}
	wantFold(t, "a fn in the end itself", give(fn(1)), give(fn(1)))
	wantFolds(t, "a fn in the end itself, and more behind", []sprout{give(fn(1)), x, y}, []sprout{give(fn(1))})
	wantFolds(t, "a text that ends", []sprout{x, throws(null()), x, give()}, []sprout{x, throws(null())})
	wantStays(t, "a text without an end", x, y, x)
	wantStays(t, "what ends, but not among the statements", block(give()), when(truly(), block(give())), while(truly(), block(breaks())), while(use(0), block(nexts())), try(block(give()), block(throws(null())), 3, 4), x)
}

// cutAt has the statements up to the first return or throw; what makes a fn is among those that stay.
func cutAt(statements ...sprout) []sprout {
	for i, s := range statements {
		switch s.node.Kind {
		case impl.NReturn, impl.NThrow, impl.NBreak, impl.NNext:
			return statements[:i+1]
		}
	}
	return statements
}

// What is inside of what goes is folded on the way, or not: no one can tell. What is around it folds by what is left.
func TestFoldOfRulesInOneAnother(t *testing.T) {
	x := show(use(0))
	three := binary(impl.OpAdd, whole(1), whole(2))
	wantFolds(t, "behind an end", []sprout{give(three), when(null(), block(x)), show(and(truly(), rest())), while(null(), block(x))}, []sprout{give(whole(3))})
	wantFold(t, "an end in what is emptied", when(falsely(), block(x, give(three), x).onLine(4), block(x, give(three), x)), when(falsely(), emptied(4), block(x, give(whole(3)))))
	wantFold(t, "a choice in what is left out", when(three, block(x), block(show(or(null(), rest())))), when(whole(3), block(x)))
	wantFold(t, "an emptied block in one that is cut", while(use(0), block(when(null(), block(x, breaks())), nexts(), when(truly(), block(x), block(x)))), while(use(0), block(when(null(), block()), nexts())))
	wantFold(t, "a fn behind an end, in what would go", when(null(), block(give(), let(5, fn(1)), show(three))), when(null(), block(give(), let(5, fn(1)), show(whole(3)))))
	wantFold(t, "what stays for its fn is folded inside", while(null(), block(when(truly(), block(x), block(x)), set(use(0), and(null(), fn(1))), give(three), x)), while(null(), block(when(truly(), block(x)), set(use(0), and(null(), fn(1))), give(whole(3)))))
	wantFolds(t, "a fn far behind an end", []sprout{throws(three), when(null(), block(x)), block(x, give(fn(1)), x)}, []sprout{throws(whole(3)), when(null(), block()), block(x, give(fn(1)))})
	wantFold(t, "a variable that goes with its statements", when(null(), block(let(3, three), show(use(3)))), when(null(), block()))
	wantFolds(t, "a variable that goes with what is behind", []sprout{x, give(), let(3), show(use(3)), each(use(3), block(show(use(4))), 4)}, []sprout{x, give()})
}
