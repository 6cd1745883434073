package tests

import (
	"fmt"
	"math"
	"testing"

	"loop.example/reed/impl"
)

func TestTheText(t *testing.T) {
	wantNodes(t, "empty", body().line(7), block().onLine(7))
	wantNodes(t, "statements", body(back().line(2), back().line(3)).line(4), block(give().onLine(2), give().onLine(3)).onLine(4))
	wantNodes(t, "blocks", body(body(body().line(2)).line(3), body().line(5)).line(100000),
		block(block(block().onLine(2)).onLine(3), block().onLine(5)).onLine(100000))
}

func TestWhatStatementsBecome(t *testing.T) {
	x, y := lets(1, "x"), state(impl.SLet).named("y", "z")
	decl := []sprout{let(0), at(1, impl.NLet).refs(1, 2)}
	in := func(kids ...sprout) sprout { return block(append(append([]sprout{}, decl...), kids...)...) }
	for what, c := range map[string]struct {
		part twig
		node sprout
	}{
		"do":         {does(word("print"), word("x")).line(9), at(9, impl.NDo, call(builtin(0), use(0)))},
		"defer":      {state(impl.SDefer, dial(word("x"))).line(9), at(9, impl.NDefer, call(use(0)))},
		"if":         {state(impl.SIf, word("x"), body(back()).line(3)).line(2), at(2, impl.NIf, use(0), block(give()).onLine(3))},
		"else":       {state(impl.SIf, yes(), body(), body(back()).line(5)).line(4), at(4, impl.NIf, ex(impl.NTrue), block(), block(give()).onLine(5))},
		"elif":       {state(impl.SIf, yes(), body(), state(impl.SIf, no(), body(), body()).line(5)), at(1, impl.NIf, ex(impl.NTrue), block(), at(5, impl.NIf, ex(impl.NFalse), block(), block()))},
		"while":      {state(impl.SWhile, word("y"), body(state(impl.SBreak).line(3), state(impl.SNext).line(4))).line(2), at(2, impl.NWhile, use(1), block(at(3, impl.NBreak), at(4, impl.NNext)))},
		"return":     {back(word("z"), void(), further()).line(8), give(use(2), ex(impl.NNil), ex(impl.NRest)).onLine(8)},
		"bare":       {back().line(8), give().onLine(8)},
		"throw":      {state(impl.SThrow, str("s")).line(100000), at(100000, impl.NThrow, quote("s"))},
		"one target": {sets(1, word("x"), number(1)).line(6), at(6, impl.NSet, use(0), whole(1)).num(1)},
		"targets": {sets(3, word("z"), index(word("x"), word("y")), field(word("x"), "f"), further()).line(6),
			at(6, impl.NSet, use(2), ex(impl.NIndex, use(0), use(1)), ex(impl.NIndex, use(0), quote("f")), ex(impl.NRest)).num(3)},
		"many values": {sets(1, word("x"), number(1), number(2), number(3)), at(1, impl.NSet, use(0), whole(1), whole(2), whole(3)).num(1)},
	} {
		wantNodes(t, what, body(x, y, c.part), in(c.node), "x", "y", "z")
	}
}

func TestWhatDeclares(t *testing.T) {
	wantNodes(t, "a let", body(lets(3, "a", number(5))), block(let(0, whole(5)).onLine(3)), "a")
	wantNodes(t, "a let of several", body(state(impl.SLet, number(1), void()).named("a", "b", "c")),
		block(at(1, impl.NLet, whole(1), ex(impl.NNil)).refs(0, 1, 2)), "a", "b", "c")
	wantNodes(t, "a let of more values", body(lets(1, "a", number(1), number(2))), block(let(0, whole(1), whole(2))), "a")
	wantNodes(t, "a let of the one ahead", body(lets(1, "a"), lets(1, "a", word("a")), says("a")),
		block(let(0), let(1, use(0)), give(use(1))), "a", "a")
	wantNodes(t, "same names of one let", body(state(impl.SLet).named("a", "b", "a"), says("a", "b")),
		block(at(1, impl.NLet).refs(0, 1, 2), give(use(2), use(1))), "a", "b", "a")
	wantNodes(t, "an inner block", body(lets(1, "a"), body(lets(1, "a"), says("a")), says("a"), lets(1, "a"), says("a")),
		block(let(0), block(let(1), give(use(1))), give(use(0)), let(2), give(use(2))), "a", "a", "a")
	wantNodes(t, "a for", body(state(impl.SFor, number(1), number(9), number(2), body(says("i"))).named("i").line(4)),
		block(at(4, impl.NFor, whole(1), whole(9), whole(2), block(give(use(0)))).refs(0)), "i")
	wantNodes(t, "a for of two", body(state(impl.SFor, number(3), number(9), body(says("i"))).named("i").line(4)),
		block(at(4, impl.NFor, whole(3), whole(9), whole(1), block(give(use(0)))).refs(0)), "i")
	wantNodes(t, "a for with the name of another", body(lets(1, "i"), state(impl.SFor, word("i"), word("i"), word("i"), body(says("i"))).named("i"), says("i")),
		block(let(0), at(1, impl.NFor, use(0), use(0), use(0), block(give(use(1)))).refs(1), give(use(0))), "i", "i")
	wantNodes(t, "an each", body(state(impl.SEach, further(), body(says("d", "c", "b", "a"))).named("a", "b", "c", "d").line(6)),
		block(at(6, impl.NEach, ex(impl.NRest), block(give(use(3), use(2), use(1), use(0)))).refs(0, 1, 2, 3)), "a", "b", "c", "d")
	wantNodes(t, "an each of one", body(state(impl.SEach, void(), body(says("k"))).named("k")),
		block(at(1, impl.NEach, ex(impl.NNil), block(give(use(0)))).refs(0)), "k")
	wantNodes(t, "an each of same names", body(state(impl.SEach, void(), body(says("k"))).named("k", "k")),
		block(at(1, impl.NEach, ex(impl.NNil), block(give(use(1)))).refs(0, 1)), "k", "k")
}

func TestTries(t *testing.T) {
	wantNodes(t, "two names", body(state(impl.STry, body(back()).line(3), body(says("e", "f")).line(5)).named("e", "f").line(2)),
		block(at(2, impl.NTry, block(give()).onLine(3), block(give(use(0), use(1))).onLine(5)).refs(0, 1)), "e", "f")
	wantNodes(t, "one name", body(state(impl.STry, body(), body(says("e"))).named("e")),
		block(at(1, impl.NTry, block(), block(give(use(0)))).refs(0, 1)), "e", "_")
	wantNodes(t, "same names", body(state(impl.STry, body(), body(says("e"))).named("e", "e")),
		block(at(1, impl.NTry, block(), block(give(use(1)))).refs(0, 1)), "e", "e")
	wantNodes(t, "one name that is _", body(state(impl.STry, body(), body(says("_"))).named("_")),
		block(at(1, impl.NTry, block(), block(give(use(0)))).refs(0, 1)), "_", "_")
	wantNodes(t, "_ of another", body(lets(1, "_"), state(impl.STry, body(), body(says("_"))).named("e")),
		block(let(0), at(1, impl.NTry, block(), block(give(use(0)))).refs(1, 2)), "_", "e", "_")
	wantNodes(t, "variables of both blocks", body(state(impl.STry, body(lets(1, "a")), body(lets(1, "b"), says("e", "b"))).named("e")),
		block(at(1, impl.NTry, block(let(0)), block(let(3), give(use(1), use(3)))).refs(1, 2)), "a", "e", "_", "b")
	wantNodes(t, "in one another", body(state(impl.STry,
		body(state(impl.STry, body(lets(1, "a")), body(lets(1, "b"))).named("e")),
		body(state(impl.STry, body(lets(1, "c")), body(lets(1, "d"), says("e", "f", "g"))).named("g"))).named("e", "f")),
		block(at(1, impl.NTry,
			block(at(1, impl.NTry, block(let(0)), block(let(3))).refs(1, 2)),
			block(at(1, impl.NTry, block(let(6)), block(let(9), give(use(4), use(5), use(7)))).refs(7, 8))).refs(4, 5)),
		"a", "e", "_", "b", "e", "f", "c", "g", "_", "d")
}

func TestOrderOfVariables(t *testing.T) {
	each := state(impl.SEach, void(), body(lets(1, "b"))).named("k", "v")
	count := state(impl.SFor, void(), void(), body(lets(1, "c"), each)).named("i")
	wantNodes(t, "loops ahead of what is in them", body(lets(1, "a"), count, lets(1, "d")),
		block(let(0), at(1, impl.NFor, ex(impl.NNil), ex(impl.NNil), whole(1), block(let(2),
			at(1, impl.NEach, ex(impl.NNil), block(let(5))).refs(3, 4))).refs(1), let(6)),
		"a", "i", "c", "k", "v", "b", "d")
	// The text's variables do not mix with those of fns in expressions.
	inner := lambda(2, []string{"p"}, lets(2, "q"))
	wantUnit(t, "fns in expressions", body(lets(1, "a", inner, inner), state(impl.SFor, inner, void(), body(lets(1, "b"))).named("i")),
		textFn(block(at(1, impl.NLet, fn(1), fn(2)).refs(0), at(1, impl.NFor, fn(3), ex(impl.NNil), whole(1), block(let(2))).refs(1)), "a", "i", "b"),
		plainInner("p", "q"), plainInner("p", "q"), plainInner("p", "q"))
	wantUnit(t, "a fn of its own ahead of what stands in it", body(makes(5, "f", lambda(6, []string{"p"}, lets(2, "q"))), lets(1, "a")),
		textFn(block(let(0).onLine(5), at(5, impl.NSet, use(0), fn(1)).num(1), let(1)), "f", "a"),
		impl.Fn{Name: "f", Line: 6, Params: 1, Vars: []string{"p", "q"}, Nodes: grow(block(let(1).onLine(2)))})
}

func plainInner(vars ...string) impl.Fn {
	return impl.Fn{Line: 2, Params: 1, Vars: vars, Nodes: grow(block(let(1).onLine(2)))}
}

func TestWhatExpressionsBecome(t *testing.T) {
	for what, c := range map[string]struct {
		part twig
		node sprout
	}{
		"nil": {void(), ex(impl.NNil)}, "true": {yes(), ex(impl.NTrue)}, "false": {no(), ex(impl.NFalse)},
		"int": {number(-5), whole(-5)}, "least": {number(math.MinInt64), whole(math.MinInt64)}, "zero": {number(0), whole(0)},
		"float": {flt(1.5), real(1.5)}, "minus zero": {flt(minusZero()), real(minusZero())}, "infinity": {flt(math.Inf(-1)), real(math.Inf(-1))},
		"string": {str("if so\x00\xff"), quote("if so\x00\xff")}, "empty": {str(""), quote("")},
		"rest": {further(), ex(impl.NRest)}, "one of rest": {say(impl.EOne, further()), ex(impl.NOne, ex(impl.NRest))},
		"one of a call": {say(impl.EOne, dial(word("x"))), ex(impl.NOne, call(use(0)))},
		"and":           {say(impl.EAnd, word("x"), number(1)), ex(impl.NAnd, use(0), whole(1))},
		"or":            {say(impl.EOr, number(1), word("x")), ex(impl.NOr, whole(1), use(0))},
		"index":         {index(word("x"), str("k")), ex(impl.NIndex, use(0), quote("k"))},
		"field":         {field(word("x"), "name"), ex(impl.NIndex, use(0), quote("name"))},
		"field of one":  {field(field(word("x"), "a"), "b"), ex(impl.NIndex, ex(impl.NIndex, use(0), quote("a")), quote("b"))},
		"call":          {dial(word("x")), call(use(0))},
		"arguments":     {dial(word("x"), number(1), further(), dial(word("x"))), call(use(0), whole(1), ex(impl.NRest), call(use(0)))},
		"builtin":       {word("cells"), builtin(14)}, "print": {word("print"), builtin(0)},
	} {
		wantNodes(t, what, body(lets(1, "x"), back(c.part)), block(let(0), give(c.node)), "x")
		// The line of an expression is of no account, nor is where it stands.
		c.part.part.Line, c.part.part.From, c.part.part.To = 9, 4, 12
		wantNodes(t, what+" on a line", body(lets(1, "x"), back(c.part)), block(let(0), give(c.node)), "x")
	}
	for op := impl.OpAdd; op <= impl.OpGe; op++ {
		wantNodes(t, "binary", body(back(two(op, number(1), void()))), block(give(ex(impl.NBinary, whole(1), ex(impl.NNil)).op(op))))
	}
	for op := impl.OpNeg; op <= impl.OpLen; op++ {
		wantNodes(t, "unary", body(back(one(op, number(1)))), block(give(ex(impl.NUnary, whole(1)).op(op))))
	}
	// Nothing is folded here.
	wantNodes(t, "a sum", body(back(two(impl.OpAdd, number(2), two(impl.OpMul, number(3), number(4))))),
		block(give(ex(impl.NBinary, whole(2), ex(impl.NBinary, whole(3), whole(4)).op(impl.OpMul)).op(impl.OpAdd))))
}

// A zero of the other sign may stand in a float field that is not in use; what comes out has none.
func TestZerosThatAreNotInUse(t *testing.T) {
	all := samples()
	for _, kind := range kindsInOrder() {
		if kind == impl.EFlt || kind == impl.SBreak || kind == impl.SNext {
			continue
		}
		sample := all[kind]
		sample.part.Flt = minusZero()
		text := rooted(sample)
		text.kids = append([]twig{lets(1, "x"), lets(1, "f")}, text.kids...)
		for _, f := range wantBound(t, "a zero", text).Fns {
			for _, n := range f.Nodes {
				if math.Signbit(n.Flt) {
					t.Errorf("kind %d: the zero came through", kind)
				}
			}
		}
	}
}

func TestWhatConstsBecome(t *testing.T) {
	k := func(value twig) twig { return fixes(1, "K", value) }
	for what, c := range map[string]struct {
		value twig
		node  sprout
	}{
		"nil": {void(), ex(impl.NNil)}, "true": {yes(), ex(impl.NTrue)}, "false": {no(), ex(impl.NFalse)},
		"not": {one(impl.OpNot, void()), ex(impl.NTrue)}, "int": {number(-7), whole(-7)}, "zero": {number(0), whole(0)},
		"sum": {two(impl.OpAdd, number(2), number(3)), whole(5)}, "wrapped": {two(impl.OpAdd, number(math.MaxInt64), number(1)), whole(math.MinInt64)},
		"float": {flt(2.5), real(2.5)}, "minus zero": {one(impl.OpNeg, flt(0)), real(minusZero())}, "quotient": {two(impl.OpDiv, number(1), number(0)), real(math.Inf(1))},
		"string": {str("s"), quote("s")}, "empty": {str(""), quote("")}, "joined": {two(impl.OpJoin, number(1), flt(1.5)), quote("13p-1")},
		"builtin": {word("read"), builtin(1)}, "print": {word("print"), builtin(0)}, "last": {word("cells"), builtin(14)},
		"an or": {say(impl.EOr, no(), str("x")), quote("x")}, "an and": {say(impl.EAnd, no(), str("x")), ex(impl.NFalse)},
	} {
		wantNodes(t, what, body(k(c.value)), block())
		wantNodes(t, what+" used", body(k(c.value), says("K", "K")), block(give(c.node, c.node)))
		wantNodes(t, what+" of another", body(k(c.value), fixes(1, "L", word("K")), says("L")), block(give(c.node)))
		wantNodes(t, what+" called", body(k(c.value), does(word("K"))), block(at(1, impl.NDo, call(c.node))))
		wantUnit(t, what+" far inside", body(k(c.value), nameless(nameless(says("K")))),
			textFn(block(give(fn(1)))), impl.Fn{Nodes: grow(block(give(fn(2))))}, impl.Fn{Nodes: grow(block(give(c.node)))})
	}
	wantNodes(t, "between statements", body(back(), k(number(1)), back(), fixes(2, "L", number(2)), says("L", "K")),
		block(give(), give(), give(whole(2), whole(1))))
	wantNodes(t, "no variable", body(lets(1, "a"), k(number(1)), lets(1, "b"), says("a", "b", "K")),
		block(let(0), let(1), give(use(0), use(1), whole(1))), "a", "b")
	wantNodes(t, "hidden", body(k(number(1)), body(lets(1, "K"), says("K")), says("K"), k(number(2)), says("K")),
		block(block(let(0), give(use(0))), give(whole(1)), give(whole(2))), "K")
	wantNodes(t, "in a branch", body(state(impl.SIf, yes(), body(k(number(3)), says("K")))),
		block(at(1, impl.NIf, ex(impl.NTrue), block(give(whole(3))))))
}

func TestTablesBecome(t *testing.T) {
	for what, c := range map[string]struct {
		table twig
		node  sprout
	}{
		"empty": {table(), ex(impl.NTable)},
		"items": {table(item(void()), item(yes()), item(str("s"))), ex(impl.NTable, whole(1), ex(impl.NNil), whole(2), ex(impl.NTrue), whole(3), quote("s"))},
		"pairs": {table(pair(str("k"), void()), pair(number(1), yes())), ex(impl.NTable, quote("k"), ex(impl.NNil), whole(1), ex(impl.NTrue))},
		"named": {table(entry("a", void()), entry("b", yes())), ex(impl.NTable, quote("a"), ex(impl.NNil), quote("b"), ex(impl.NTrue))},
		"mixed": {table(entry("a", void()), item(yes()), pair(number(9), no()), item(void()), entry("a", number(4)), item(number(5))),
			ex(impl.NTable, quote("a"), ex(impl.NNil), whole(1), ex(impl.NTrue), whole(9), ex(impl.NFalse), whole(2), ex(impl.NNil), quote("a"), whole(4), whole(3), whole(5))},
		"a call last":          {table(item(void()), item(dial(word("x")))), ex(impl.NTable, whole(1), ex(impl.NNil), whole(2), call(use(0))).op(1)},
		"a rest last":          {table(item(further())), ex(impl.NTable, whole(1), ex(impl.NRest)).op(1)},
		"a call alone":         {table(item(dial(word("x")))), ex(impl.NTable, whole(1), call(use(0))).op(1)},
		"a call, not last":     {table(item(dial(word("x"))), item(void())), ex(impl.NTable, whole(1), call(use(0)), whole(2), ex(impl.NNil))},
		"a rest ahead of pair": {table(item(further()), pair(void(), void())), ex(impl.NTable, whole(1), ex(impl.NRest), ex(impl.NNil), ex(impl.NNil))},
		"a pair of a call":     {table(pair(number(1), dial(word("x")))), ex(impl.NTable, whole(1), call(use(0)))},
		"a pair of a rest":     {table(pair(number(1), further())), ex(impl.NTable, whole(1), ex(impl.NRest))},
		"a named call":         {table(entry("a", dial(word("x")))), ex(impl.NTable, quote("a"), call(use(0)))},
		"a named rest":         {table(entry("a", further())), ex(impl.NTable, quote("a"), ex(impl.NRest))},
		"one of a call":        {table(item(say(impl.EOne, dial(word("x"))))), ex(impl.NTable, whole(1), ex(impl.NOne, call(use(0))))},
		"a sum of calls":       {table(item(two(impl.OpAdd, dial(word("x")), further()))), ex(impl.NTable, whole(1), ex(impl.NBinary, call(use(0)), ex(impl.NRest)).op(impl.OpAdd))},
		"calls, all":           {table(item(dial(word("x"))), item(further()), item(dial(word("x")))), ex(impl.NTable, whole(1), call(use(0)), whole(2), ex(impl.NRest), whole(3), call(use(0))).op(1)},
		"a table in it":        {table(item(table(item(void()), item(further()))), item(void())), ex(impl.NTable, whole(1), ex(impl.NTable, whole(1), ex(impl.NNil), whole(2), ex(impl.NRest)).op(1), whole(2), ex(impl.NNil))},
		"behind one in it":     {table(item(void()), item(table(item(void()))), item(void())), ex(impl.NTable, whole(1), ex(impl.NNil), whole(2), ex(impl.NTable, whole(1), ex(impl.NNil)), whole(3), ex(impl.NNil))},
		"a key of nodes":       {table(pair(field(word("x"), "f"), field(word("x"), "g"))), ex(impl.NTable, ex(impl.NIndex, use(0), quote("f")), ex(impl.NIndex, use(0), quote("g")))},
		"a named of nodes":     {table(entry("n", two(impl.OpAdd, number(1), number(2)))), ex(impl.NTable, quote("n"), ex(impl.NBinary, whole(1), whole(2)).op(impl.OpAdd))},
	} {
		wantNodes(t, what, body(lets(1, "x"), back(c.table)), block(let(0), give(c.node)), "x")
	}
}

func TestHeadsOfFns(t *testing.T) {
	empty := grow(block())
	wantUnit(t, "nameless", body(back(say(impl.EFn, body().line(8)).line(7))), textFn(block(give(fn(1)))),
		impl.Fn{Line: 7, Nodes: grow(block().onLine(8))})
	wantUnit(t, "without a line", body(back(lambda(0, nil))), textFn(block(give(fn(1)))), impl.Fn{Nodes: empty})
	wantUnit(t, "parameters", body(back(lambda(100000, []string{"a", "b", "a"}, says("a", "b")))), textFn(block(give(fn(1)))),
		impl.Fn{Line: 100000, Params: 3, Vars: []string{"a", "b", "a"}, Nodes: grow(block(give(use(2), use(1))))})
	wantUnit(t, "further", body(back(lambda(1, []string{"a"}, back(further())).rest())), textFn(block(give(fn(1)))),
		impl.Fn{Line: 1, Params: 1, Rest: true, Vars: []string{"a"}, Nodes: grow(block(give(ex(impl.NRest))))})
	wantUnit(t, "a parameter and a variable", body(back(lambda(1, []string{"a"}, lets(1, "a", word("a")), says("a")))), textFn(block(give(fn(1)))),
		impl.Fn{Line: 1, Params: 1, Vars: []string{"a", "a"}, Nodes: grow(block(let(1, use(0)), give(use(1))))})
	wantUnit(t, "its own name", body(makes(3, "f", lambda(4, nil, says("f"))), says("f")),
		textFn(block(let(0).onLine(3), at(3, impl.NSet, use(0), fn(1)).num(1), give(use(0))), "f"),
		impl.Fn{Name: "f", Line: 4, Ups: []impl.Up{local(0)}, Nodes: grow(block(give(up(0))))})
	wantUnit(t, "a parameter with its name", body(makes(3, "f", lambda(4, []string{"f"}, says("f")))),
		textFn(block(let(0).onLine(3), at(3, impl.NSet, use(0), fn(1)).num(1)), "f"),
		impl.Fn{Name: "f", Line: 4, Params: 1, Vars: []string{"f"}, Nodes: grow(block(give(use(0))))})
	wantUnit(t, "a fn in a fn has no name of its", body(makes(1, "f", lambda(1, nil, nameless()))),
		textFn(block(let(0), at(1, impl.NSet, use(0), fn(1)).num(1)), "f"),
		impl.Fn{Name: "f", Line: 1, Nodes: grow(block(give(fn(2))))}, impl.Fn{Nodes: empty})
	wantUnit(t, "a let gives no name", body(lets(1, "f", lambda(1, nil))), textFn(block(let(0, fn(1))), "f"), impl.Fn{Line: 1, Nodes: empty})
	wantUnit(t, "a set gives none", body(lets(1, "f"), sets(1, word("f"), lambda(1, nil))),
		textFn(block(let(0), at(1, impl.NSet, use(0), fn(1)).num(1)), "f"), impl.Fn{Line: 1, Nodes: empty})
	wantUnit(t, "two of one name", body(makes(1, "f", lambda(1, nil)), makes(2, "f", lambda(2, nil, says("f"))), says("f")),
		textFn(block(let(0), at(1, impl.NSet, use(0), fn(1)).num(1), let(1).onLine(2), at(2, impl.NSet, use(1), fn(2)).num(1), give(use(1))), "f", "f"),
		impl.Fn{Name: "f", Line: 1, Nodes: empty},
		impl.Fn{Name: "f", Line: 2, Ups: []impl.Up{local(1)}, Nodes: grow(block(give(up(0))))})
}

// fnsNamed has the names of the fns of a unit, by number.
func fnsNamed(u impl.Unit) string {
	all := ""
	for _, f := range u.Fns {
		all += fmt.Sprintf("%s%d ", f.Name, f.Line)
	}
	return all
}

func TestNumbersOfFns(t *testing.T) {
	f := func(name string, line int, inside ...twig) twig {
		return makes(line, name, lambda(line, nil, inside...))
	}
	for what, c := range map[string]struct {
		text  twig
		names string
	}{
		"in a row":       {body(f("a", 1), f("b", 2), f("c", 3)), "main0 a1 b2 c3 "},
		"in one another": {body(f("a", 1, f("b", 2, f("c", 3)))), "main0 a1 b2 c3 "},
		"both":           {body(f("a", 1, f("b", 2), f("c", 3, f("d", 4))), f("e", 5, f("g", 6)), f("h", 7)), "main0 a1 b2 c3 d4 e5 g6 h7 "},
		"in expressions": {body(back(two(impl.OpAdd, lambda(1, nil, back(lambda(2, nil))), lambda(3, nil)))), "main0 1 2 3 "},
		"a table's":      {body(back(table(pair(lambda(1, nil), lambda(2, nil)), item(lambda(3, nil)), entry("x", lambda(4, nil))))), "main0 1 2 3 4 "},
		"a call's":       {body(does(lambda(1, nil, f("a", 2)), lambda(3, nil))), "main0 1 a2 3 "},
		"targets first":  {body(sets(1, index(lambda(1, nil), lambda(2, nil)), lambda(3, nil))), "main0 1 2 3 "},
		"loops'":         {body(state(impl.SFor, lambda(1, nil), lambda(2, nil), lambda(3, nil), body(f("a", 4))).named("i"), f("b", 5)), "main0 1 2 3 a4 b5 "},
		"branches'":      {body(state(impl.SIf, lambda(1, nil), body(f("a", 2)), state(impl.SIf, lambda(3, nil), body(f("b", 4)), body(f("c", 5))))), "main0 1 a2 3 b4 c5 "},
		"a try's":        {body(state(impl.STry, body(f("a", 1)), body(f("b", 2))).named("e")), "main0 a1 b2 "},
	} {
		if got := fnsNamed(wantBound(t, what, c.text)); got != c.names {
			t.Errorf("%s: %s", what, got)
		}
	}
	// The NFns have these numbers, each where its fn stands.
	wantUnit(t, "one in another and one behind", body(back(lambda(1, nil, back(lambda(2, nil)))), back(lambda(3, nil))),
		textFn(block(give(fn(1)), give(fn(3)))),
		impl.Fn{Line: 1, Nodes: grow(block(give(fn(2))))},
		impl.Fn{Line: 2, Nodes: grow(block())}, impl.Fn{Line: 3, Nodes: grow(block())})
}

// The nodes of a statement with one of everything, said one by one.
func TestNodesOneByOne(t *testing.T) {
	text := body(
		lets(2, "t"),
		sets(1, field(word("t"), "a"), table(item(number(5)), entry("b", word("t")), pair(str("k"), further()))).line(3),
		state(impl.SFor, number(1), number(2), body(does(word("print"), word("i")).line(5))).named("i").line(4),
		makes(6, "f", lambda(7, nil, back().line(8))),
	).line(9)
	n := func(kind int, kids ...int) impl.Node { return impl.Node{Kind: kind, Kids: kids} }
	want := []impl.Node{
		{Kind: impl.NLet, Line: 2, Refs: []int{0}},
		{Kind: impl.NVar, Refs: []int{0}},
		{Kind: impl.NStr, Str: "a"},
		n(impl.NIndex, 1, 2),
		{Kind: impl.NInt, Num: 1},
		{Kind: impl.NInt, Num: 5},
		{Kind: impl.NStr, Str: "b"},
		{Kind: impl.NVar, Refs: []int{0}},
		{Kind: impl.NStr, Str: "k"},
		n(impl.NRest),
		n(impl.NTable, 4, 5, 6, 7, 8, 9),
		{Kind: impl.NSet, Line: 3, Num: 1, Kids: []int{3, 10}},
		{Kind: impl.NInt, Num: 1},
		{Kind: impl.NInt, Num: 2},
		{Kind: impl.NInt, Num: 1},
		n(impl.NBuiltin),
		{Kind: impl.NVar, Refs: []int{1}},
		n(impl.NCall, 15, 16),
		{Kind: impl.NDo, Line: 5, Kids: []int{17}},
		{Kind: impl.NBlock, Line: 1, Kids: []int{18}},
		{Kind: impl.NFor, Line: 4, Refs: []int{1}, Kids: []int{12, 13, 14, 19}},
		{Kind: impl.NLet, Line: 6, Refs: []int{2}},
		{Kind: impl.NVar, Refs: []int{2}},
		{Kind: impl.NFn, Refs: []int{1}},
		{Kind: impl.NSet, Line: 6, Num: 1, Kids: []int{22, 23}},
		{Kind: impl.NBlock, Line: 9, Kids: []int{0, 11, 20, 21, 24}},
	}
	wantUnit(t, "all", text,
		impl.Fn{Name: "main", Rest: true, Vars: []string{"t", "i", "f"}, Nodes: want},
		impl.Fn{Name: "f", Line: 7, Nodes: []impl.Node{{Kind: impl.NReturn, Line: 8}, {Kind: impl.NBlock, Line: 1, Kids: []int{0}}}})
}
