package tests

import (
	"fmt"
	"testing"

	"loop.example/reed/impl"
)

func unused() []int { return []int{isUnused} }

func written() []int { return []int{isWritten} }

func writes(name string) twig { return sets(1, word(name), number(1)) }

// readings has statements that read x once, at each place where an expression may stand.
func readings() map[string]twig {
	x, none := word("x"), void()
	return map[string]twig{
		"let":             state(impl.SLet, none, x).named("_l"),
		"const":           fixes(1, "_c", x),
		"set":             sets(1, word("zz"), x),
		"set, second":     sets(1, word("zz"), none, x),
		"itself anew":     sets(1, x, x),
		"one more":        sets(1, x, two(impl.OpAdd, x, number(1))),
		"table of target": sets(1, index(x, none), none),
		"key of target":   sets(1, index(none, x), none),
		"field of target": sets(1, field(x, "x"), none),
		"deep in target":  sets(1, index(index(field(x, "y"), none), none), none),
		"second target":   sets(2, word("zz"), index(x, none), none),
		"target and key":  sets(2, x, index(word("zz"), x), none),
		"do":              does(x),
		"argument":        does(none, none, x),
		"defer":           state(impl.SDefer, dial(x)),
		"if":              state(impl.SIf, x, body()),
		"then":            state(impl.SIf, further(), body(does(x))),
		"else":            state(impl.SIf, further(), body(), body(does(x))),
		"elif":            state(impl.SIf, further(), body(), state(impl.SIf, x, body())),
		"while":           state(impl.SWhile, x, body()),
		"in a while":      state(impl.SWhile, none, body(does(x))),
		"for, from":       state(impl.SFor, x, none, body()).named("_i"),
		"for, to":         state(impl.SFor, none, x, body()).named("_i"),
		"for, by":         state(impl.SFor, none, none, x, body()).named("_i"),
		"in a for":        state(impl.SFor, none, none, body(does(x))).named("_i"),
		"each":            state(impl.SEach, x, body()).named("_i"),
		"in an each":      state(impl.SEach, none, body(does(x))).named("_i"),
		"return":          back(none, x),
		"try":             state(impl.STry, body(does(x)), body()).named("_e"),
		"catch":           state(impl.STry, body(), body(does(x))).named("_e"),
		"throw":           state(impl.SThrow, x),
		"block":           body(body(body(does(x)))),
		"and":             back(say(impl.EAnd, none, x)),
		"or":              back(say(impl.EOr, x, none)),
		"unary":           back(one(impl.OpNot, x)),
		"binary":          back(two(impl.OpEq, none, x)),
		"index":           back(index(x, none)),
		"key":             back(index(none, x)),
		"field":           back(field(x, "y")),
		"one":             back(say(impl.EOne, dial(x))),
		"item":            back(table(item(x))),
		"pair, key":       back(table(pair(x, none))),
		"pair, value":     back(table(pair(none, x))),
		"named entry":     back(table(entry("y", x))),
		"fn":              calls(does(x)),
		"own fn":          makes(1, "_f", lambda(0, nil, does(x))),
		"fn in fns":       calls(calls(calls(does(x)))),
		"fn of a target":  sets(1, index(lambda(0, nil, does(x)), none), none),
	}
}

func TestVariablesUsedNowhere(t *testing.T) {
	wantAtHomes(t, "nothing inside", unused())
	wantAtHomes(t, "others are used", unused(), does(word("print"), word("y"), word("xx"), word("X")))
	wantAtHomes(t, "texts that are no names", unused(), does(field(word("print"), "x"), table(entry("x", void())), str("x")))
	wantAtHomes(t, "another x ahead of it is used", unused(), calls(state(impl.SLet).named("x"), does(word("x"))))
	wantAtHomes(t, "a parameter x is used", unused(), back(lambda(0, []string{"x"}, does(word("x")))))
	wantAtHomes(t, "an x that is hidden", unused(), body(lets(2, "x").noted(isAgain), does(word("x"))))
	wantAtHomes(t, "an x behind the one of the same block", unused(), lets(2, "x").noted(isAgain), does(word("x")))
	wantAtHomes(t, "a const x is used", unused(), fixes(2, "x", void()).noted(isAgain), does(word("x")))
	wantAtHomes(t, "a target that is another x", unused(), calls(state(impl.SLet).named("x").noted(isWritten), writes("x")))
}

// What holds behind a part or in its block alone is not used by the same name elsewhere.
func TestVariablesUsedOnlyOutOfTheirScope(t *testing.T) {
	x := does(word("x"))
	wantAdvice(t, "ahead of a let", body(x, lets(1, "x").noted(isUnused)))
	wantAdvice(t, "in a let's own value", body(lets(1, "x", word("x")).noted(isUnused)))
	wantAdvice(t, "behind a let's block", body(body(lets(1, "x").noted(isUnused)), x))
	wantAdvice(t, "ahead of a fn", body(x, makes(1, "x", lambda(0, nil)).noted(isUnused)))
	for what, part := range map[string]twig{
		"for":  state(impl.SFor, word("x"), word("x"), word("x"), body()).named("x"),
		"each": state(impl.SEach, word("x"), body()).named("x"),
		"try":  state(impl.STry, body(x), body()).named("x"),
	} {
		wantAdvice(t, what, body(x, part.noted(isUnused), x))
	}
	wantAdvice(t, "a parameter", body(x, back(lambda(0, []string{"x"}).noted(isUnused), word("x"))))
	wantAdvice(t, "a new one of the old", body(lets(1, "x"), lets(2, "x", word("x")).noted(isUnused, isAgain)))
}

func TestVariablesOnlyWritten(t *testing.T) {
	x, w := word("x"), writes("x")
	wantAtHomes(t, "once", written(), w)
	wantAtHomes(t, "twice", written(), w, w)
	wantAtHomes(t, "twice by one", written(), sets(2, x, x, void()))
	wantAtHomes(t, "among others", written(), sets(3, word("zz"), x, field(void(), "x"), void()))
	wantAtHomes(t, "the last target of three", written(), sets(3, word("zz"), index(void(), void()), x, void()))
	wantAtHomes(t, "in a block", written(), body(state(impl.SWhile, void(), body(w))))
	wantAtHomes(t, "in a fn", written(), calls(w))
	wantAtHomes(t, "in a fn in fns", written(), calls(calls(w), calls(w)))
	wantAtHomes(t, "and another x is read", written(), w, back(lambda(0, []string{"x"}, does(x))))
	wantAtHomes(t, "of a fn", written(), sets(1, x, lambda(0, nil)))
	// A fn that is written anew by hand, where its own is no use.
	wantAdvice(t, "a fn in its own body", body(makes(1, "x", lambda(0, nil, w)).noted(isWritten)))
}

func TestVariablesRead(t *testing.T) {
	for what, reads := range readings() {
		wantAtHomes(t, what, nil, reads)
		wantAtHomes(t, what+" and written ahead", nil, writes("x"), reads)
		wantAtHomes(t, what+" and written behind", nil, body(reads), writes("x"), calls(writes("x")))
	}
}

// What a SFn writes into its own variable is no use; what its body says is one.
func TestOwnFns(t *testing.T) {
	f := word("f")
	wantAdvice(t, "no use", body(makes(1, "f", lambda(0, nil)).noted(isUnused)))
	wantAdvice(t, "read in its body", body(makes(1, "f", lambda(0, nil, does(f)))))
	wantAdvice(t, "read in a fn of its body", body(makes(1, "f", lambda(0, nil, calls(does(f))))))
	wantAdvice(t, "written in its body", body(makes(1, "f", lambda(0, nil, writes("f"))).noted(isWritten)))
	wantAdvice(t, "written in its body and read behind", body(makes(1, "f", lambda(0, nil, writes("f"))), does(f)))
	wantAdvice(t, "its parameter is read", body(makes(1, "f", lambda(0, []string{"f"}, does(f))).noted(isUnused)))
	wantAdvice(t, "its parameter is not", body(makes(1, "f", lambda(0, []string{"f"}).noted(isUnused)), does(f)))
	wantAdvice(t, "neither is", body(makes(1, "f", lambda(0, []string{"f"}).noted(isUnused)).noted(isUnused)))
	wantAdvice(t, "a variable of its body is read", body(makes(1, "f", lambda(0, nil, lets(2, "f"), does(f))).noted(isUnused)))
	wantAdvice(t, "two that read one another", body(lets(1, "g"), makes(2, "f", lambda(0, nil, does(word("g")))), sets(1, word("g"), lambda(0, nil, does(f)))))
}

// Several names of one part have notes of their own; of a name that a part has twice only the last one is used.
func TestSeveralNamesOfOnePart(t *testing.T) {
	use := []twig{does(word("r")), sets(2, word("w"), word("r"), void())}
	all := []string{"n", "w", "r", "_n", "m"}
	noted := func(part twig) twig {
		return part.named(all...).noted(isUnused).notedAt(1, isWritten).notedAt(4, isUnused)
	}
	wantAdvice(t, "let", body(append([]twig{noted(state(impl.SLet))}, use...)...))
	wantAdvice(t, "each", body(noted(state(impl.SEach, void(), body(use...)))))
	wantAdvice(t, "parameters", body(does(noted(say(impl.EFn, body(use...))))))
	wantAdvice(t, "try, none", body(state(impl.STry, body(), body()).named("e", "f").noted(isUnused).notedAt(1, isUnused)))
	wantAdvice(t, "try, one of each", body(state(impl.STry, body(), body(writes("e"), does(word("f")))).named("e", "f").noted(isWritten)))

	use = []twig{does(word("a"))}
	twice := func(part twig) twig {
		return part.named("a", "b", "a", "a").noted(isUnused).notedAt(1, isUnused).notedAt(2, isUnused)
	}
	wantAdvice(t, "let, three of one name", body(append([]twig{twice(state(impl.SLet))}, use...)...))
	wantAdvice(t, "each, three of one name", body(twice(state(impl.SEach, void(), body(use...)))))
	wantAdvice(t, "parameters, three of one name", body(does(twice(say(impl.EFn, body(use...))))))
	wantAdvice(t, "try, two of one name", body(state(impl.STry, body(), body(does(word("e")))).named("e", "e").noted(isUnused)))
	wantAdvice(t, "two of one name, written", body(state(impl.SLet).named("a", "a").noted(isUnused).notedAt(1, isWritten), writes("a")))
	wantAdvice(t, "two of one name, neither used", body(state(impl.SLet).named("a", "a").noted(isUnused).notedAt(1, isUnused)))
}

func TestConstsThatNothingReads(t *testing.T) {
	k := word("K")
	dead := fixes(1, "K", number(1)).noted(isDeadConst)
	wantAdvice(t, "used nowhere", body(dead))
	wantAdvice(t, "only a target", body(dead, writes("K")))
	wantAdvice(t, "only a target, in a fn", body(dead, calls(sets(2, word("zz"), k, void()))))
	wantAdvice(t, "ahead of it", body(does(k), dead))
	wantAdvice(t, "in its own value", body(fixes(1, "K", k).noted(isDeadConst)))
	wantAdvice(t, "behind its block", body(body(dead), does(k)))
	wantAdvice(t, "hidden by a parameter", body(dead, does(lambda(0, []string{"K"}, does(k)))))
	wantAdvice(t, "that can't be worked out", body(fixes(1, "K", word("zz")).noted(isDeadConst)))
	wantAdvice(t, "that is a NaN", body(fixes(1, "K", nan()).noted(isDeadConst)))
	wantAdvice(t, "in a fn", body(calls(dead)))
	for what, reads := range readings() {
		wantAdvice(t, "read: "+what, body(fixes(1, "x", further()), reads))
		wantAdvice(t, "read in a fn: "+what, body(fixes(1, "x", further()), writes("x"), calls(reads)))
	}
	wantAdvice(t, "of which another const is made", body(fixes(1, "K", number(1)), fixes(2, "L", two(impl.OpAdd, k, number(1))).noted(isDeadConst)))
	wantAdvice(t, "of which two others are made", body(fixes(1, "K", number(1)), fixes(2, "L", k), fixes(3, "M", two(impl.OpAdd, k, word("L"))), does(word("M"))))
	wantAdvice(t, "a new one of the old", body(fixes(1, "K", number(1)), fixes(2, "K", k).noted(isAgain, isDeadConst)))
	wantAdvice(t, "as the table of a target", body(fixes(1, "K", number(1)), sets(1, index(k, void()), void())))
	wantAdvice(t, "as the key of a target", body(fixes(1, "K", number(1)), sets(1, index(void(), k), void())))
}

// Names that begin with _ are never told to be unused, or only written.
func TestNamesThatBeginWithALine(t *testing.T) {
	for _, name := range []string{"_", "__", "_x", "_9", "_print"} {
		x := word(name)
		for what, text := range map[string]func(inside ...twig) twig{
			"let":       func(inside ...twig) twig { return body(append([]twig{lets(1, name)}, inside...)...) },
			"fn":        func(inside ...twig) twig { return body(append([]twig{makes(1, name, lambda(0, nil))}, inside...)...) },
			"const":     func(inside ...twig) twig { return body(append([]twig{fixes(1, name, void())}, inside...)...) },
			"for":       func(inside ...twig) twig { return body(state(impl.SFor, void(), void(), body(inside...)).named(name)) },
			"each":      func(inside ...twig) twig { return body(state(impl.SEach, void(), body(inside...)).named(name, name)) },
			"try":       func(inside ...twig) twig { return body(state(impl.STry, body(), body(inside...)).named(name, name)) },
			"parameter": func(inside ...twig) twig { return body(does(lambda(0, []string{name, name}, inside...))) },
		} {
			what = fmt.Sprintf("%s %s", what, name)
			wantAdvice(t, what, text())
			wantAdvice(t, what+", written", text(writes(name)))
			wantAdvice(t, what+", read", text(does(x)))
			wantAdvice(t, what+", declared again", text(lets(2, name).noted(isAgain), does(x)))
			wantAdvice(t, what+", a const again", text(fixes(2, name, void()).noted(isAgain)))
			wantAdvice(t, what+", in another fn", text(calls(lets(2, name))))
		}
		wantAdvice(t, name+" behind a return", body(back(), lets(1, name).noted(isBehind)))
		wantAdvice(t, name+" in a condition", body(fixes(1, name, void()), state(impl.SIf, x.noted(isKnown), body())))
	}
	for _, name := range []string{"x_", "x_y", "X", "a9"} {
		wantAdvice(t, "a line elsewhere", body(lets(1, name).noted(isUnused), fixes(1, name+"_", void()).noted(isDeadConst)))
	}
}
