package tests

import (
	"fmt"
	"slices"
	"testing"

	"loop.example/reed/impl"
)

func TestBindOfTreesThatAreNotSound(t *testing.T) {
	for what, tree := range map[string]impl.Tree{
		"no parts":             {},
		"no block":             {Parts: []impl.Part{{Kind: impl.ENil}}},
		"a block without line": {Parts: []impl.Part{{Kind: impl.SBlock}}},
		"an op of a name":      lay(body(back(word("zz").op(1)))),
		"names that are none":  lay(body(back(word("if")), state(impl.SBreak))),
		"two texts":            {Parts: []impl.Part{{Kind: impl.SBlock, Line: 1}, {Kind: impl.SBlock, Line: 1}}},
		"too deep":             lay(nested(101)),
		"too many parts":       wide(3001),
	} {
		if impl.TreeOk(tree).Code == 0 {
			t.Fatalf("%s: sound", what)
		}
		if got := boundKept(t, what, tree); got.Code != 1 {
			t.Errorf("%s: code %d", what, got.Code)
		}
		if closed := closedKept(t, what, tree); len(closed) != 0 {
			t.Errorf("%s: %v", what, closed)
		}
	}
	// The faults of names are told of no tree that is not sound, even if they stand ahead of what is wrong.
	tree := lay(body(says("zz"), state(impl.SBreak), lets(1, "a"), nameless(says("a"))))
	tree.Parts[len(tree.Parts)-1].Line = 0
	if got := boundKept(t, "names first", tree); got.Code != 1 {
		t.Error(got)
	}
}

func TestNamesThatAreNothing(t *testing.T) {
	zz := word("zz").here()
	for what, text := range map[string]twig{
		"alone":               body(back(zz)),
		"called":              body(does(zz)),
		"an argument":         body(does(word("print"), zz)),
		"a target":            body(sets(1, zz, void())),
		"a second target":     body(lets(1, "a"), sets(2, word("a"), zz, void())),
		"in a target":         body(sets(1, index(zz, void()), void())),
		"a key in a target":   body(lets(1, "a"), sets(1, index(word("a"), zz), void())),
		"a field's table":     body(sets(1, field(zz, "zz"), void())),
		"in its own let":      body(lets(1, "zz", zz)),
		"ahead of its let":    body(back(zz), lets(1, "zz")),
		"behind its block":    body(body(lets(1, "zz")), back(zz)),
		"in its own const":    body(fixes(1, "zz", zz)),
		"in a fn":             body(nameless(back(zz))),
		"in an entry":         body(back(table(entry("zz", zz)))),
		"in a first block":    body(state(impl.STry, body(back(zz)), body()).named("zz")),
		"in a for's limits":   body(state(impl.SFor, zz, void(), body()).named("zz")),
		"in what each is for": body(state(impl.SEach, zz, body()).named("zz")),
		"a fn's own, outside": body(back(lambda(1, []string{"zz"})), back(zz)),
		"the text":            body(back(word("main").here())),
		"the hidden variable": body(state(impl.STry, body(), body(back(word("_").here()))).named("e")),
	} {
		wantFault(t, what, text, 2)
	}
	wantFault(t, "in a block of its own", body(state(impl.STry, body(), body(fixes(1, "k", zz))).named("e")), 2)
}

// targetsOf has SSets with a target, in several places.
func targetsOf(target twig) map[string]twig {
	return map[string]twig{
		"alone":      sets(1, target, void()),
		"the second": body(lets(5, "v"), sets(2, word("v"), target, void(), void())),
		"the first":  body(lets(5, "v"), sets(2, target, word("v"), void())),
		"in a fn":    nameless(nameless(sets(1, target, void()))),
		"in a loop":  state(impl.SWhile, yes(), body(sets(1, target, void()))),
	}
}

func TestTargetsThatAreFixed(t *testing.T) {
	known, print := word("K").here(), word("print").here()
	for what, text := range targetsOf(known) {
		wantFault(t, "a const "+what, body(fixes(1, "K", number(1)), text), 3)
		wantFault(t, "a const that is a builtin "+what, body(fixes(1, "K", word("print")), text), 3)
		wantFault(t, "a const of a fn around "+what, body(fixes(1, "K", number(1)), nameless(text)), 3)
		wantFault(t, "nothing "+what, body(text), 2)
		wantBound(t, "a variable "+what, body(lets(1, "K"), text))
		wantBound(t, "a variable that hides a const "+what, body(fixes(1, "K", number(1)), lets(2, "K"), text))
		wantFault(t, "a const that hides a variable "+what, body(lets(1, "K"), fixes(2, "K", number(1)), text), 3)
		wantBound(t, "a fn "+what, body(makes(1, "K", lambda(1, nil, text)), text))
	}
	for what, text := range targetsOf(print) {
		wantFault(t, "a builtin "+what, body(text), 3)
		wantBound(t, "a variable with a builtin's name "+what, body(lets(1, "print"), text))
		wantFault(t, "a const with a builtin's name "+what, body(fixes(1, "print", void()), text), 3)
	}
	for _, name := range []string{"K", "print"} {
		k := word(name)
		for what, set := range map[string]twig{
			"in an index":        sets(1, index(k, void()), void()),
			"a key":              sets(1, index(index(k, k), k), void()),
			"in a field":         sets(1, field(k, name), void()),
			"a value":            body(lets(2, "v"), sets(1, word("v"), k)),
			"two values for one": body(lets(2, "v"), sets(1, word("v"), k, k)),
			"in a fn":            body(lets(2, "v"), sets(1, word("v"), lambda(2, nil, back(k)))),
		} {
			wantBound(t, name+" "+what, body(fixes(1, "K", str("s")), set))
		}
	}
	// A target in a fn that stands in a target.
	wantFault(t, "far inside", body(fixes(1, "K", void()),
		sets(1, index(lambda(1, nil, sets(1, known, void())), void()), void())), 3)
}

func TestJumpsOutsideOfLoops(t *testing.T) {
	for _, kind := range []int{impl.SBreak, impl.SNext} {
		jump := state(kind).here()
		for what, text := range map[string]twig{
			"in the text":    body(jump),
			"in a block":     body(body(body(jump))),
			"in a branch":    body(state(impl.SIf, yes(), body(), body(jump))),
			"in a try":       body(state(impl.STry, body(jump), body()).named("e")),
			"in its catch":   body(state(impl.STry, body(), body(jump)).named("e")),
			"in a fn":        body(nameless(jump)),
			"in a fn of its": body(makes(1, "f", lambda(1, nil, body(jump)))),
			"in a deferred":  body(state(impl.SDefer, dial(lambda(1, nil, jump)))),
		} {
			wantFault(t, what, text, 4)
		}
		for what, loop := range loops(yes(), body()) {
			wantFault(t, "behind a "+what, body(loop, jump), 4)
			wantFault(t, "ahead of a "+what, body(jump, loop), 4)
		}
		for what, loop := range loops(lambda(1, nil, jump)) {
			wantFault(t, "in the first of a "+what, body(loop), 4)
			wantFault(t, "in the first of a "+what+" in a loop", body(state(impl.SWhile, yes(), body(loop))), 4)
		}
		for what, loop := range loops(yes(), nameless(jump)) {
			wantFault(t, "in a fn in a "+what, body(loop), 4)
			wantFault(t, "in a fn in a "+what+" in a fn", body(nameless(loop)), 4)
		}
		for what, loop := range loops(yes(), body(makes(1, "f", lambda(1, nil, state(impl.SIf, yes(), body(jump)))))) {
			wantFault(t, "in a branch of a fn in a "+what, body(loop), 4)
		}
		thirds := state(impl.SFor, void(), void(), lambda(1, nil, jump), body()).named("i")
		wantFault(t, "in the third of a for", body(thirds), 4)
		wantFault(t, "in the third of a for in a loop", body(state(impl.SWhile, yes(), body(thirds))), 4)
	}
}

func TestJumpsInsideOfLoops(t *testing.T) {
	for _, kind := range []int{impl.SBreak, impl.SNext} {
		jump := state(kind)
		insides := map[string]twig{
			"straight":              jump,
			"in a block":            body(body(jump)),
			"in a branch":           state(impl.SIf, yes(), body(jump)),
			"in another":            state(impl.SIf, yes(), body(), state(impl.SIf, yes(), body(jump), body(jump))),
			"in a try":              state(impl.STry, body(jump), body(jump)).named("e"),
			"in a loop":             state(impl.SWhile, yes(), body(jump)),
			"behind a loop":         body(state(impl.SWhile, yes(), body()), jump),
			"behind a fn":           body(nameless(), jump),
			"in a loop of a fn":     nameless(state(impl.SWhile, yes(), body(jump))),
			"twice":                 body(jump, jump),
			"in a branch in a loop": state(impl.SEach, void(), body(state(impl.SIf, yes(), body(jump)))).named("k"),
		}
		for inside, statement := range insides {
			for what, loop := range loops(yes(), statement) {
				wantBound(t, inside+" of a "+what, body(loop))
				wantBound(t, inside+" of a "+what+" in a fn", body(nameless(body(loop))))
			}
		}
	}
}

func TestFurtherArguments(t *testing.T) {
	free, bad := further(), further().here()
	plain := func(statements ...twig) twig { return lambda(1, nil, statements...) }
	taking := func(statements ...twig) twig { return plain(statements...).rest() }
	for what, text := range map[string]twig{
		"the text":              body(back(free)),
		"a block of it":         body(body(back(free))),
		"a fn with them":        body(back(taking(back(free)))),
		"a named fn with them":  body(makes(1, "f", taking(back(free)))),
		"behind a fn without":   body(back(plain()), back(free)),
		"beside a fn without":   body(back(plain(), free)),
		"with, inside of with":  body(back(taking(back(taking(back(free)), free)))),
		"with, in one without":  body(back(plain(back(taking(back(free)))))),
		"one of them":           body(back(say(impl.EOne, free))),
		"in a loop of it":       body(state(impl.SWhile, free, body(back(free)))),
		"behind one in a fn":    body(back(taking(back(plain()), back(free)))),
		"parameters beside":     body(back(lambda(1, []string{"a", "b"}, back(free)).rest())),
		"as the last of a call": body(does(word("print"), free)),
	} {
		wantBound(t, what, text)
	}
	for what, text := range map[string]twig{
		"a fn without":              body(back(plain(back(bad)))),
		"a named fn without":        body(makes(1, "f", plain(back(bad)))),
		"with parameters, without":  body(back(lambda(1, []string{"a"}, back(bad)))),
		"without, inside of with":   body(back(taking(back(plain(back(bad)))))),
		"without, twice":            body(back(plain(back(plain(back(bad)))))),
		"behind one with":           body(back(plain(back(taking(back(free))), back(bad)))),
		"one of them":               body(back(plain(back(say(impl.EOne, bad))))),
		"in a table":                body(back(plain(back(table(item(bad)))))),
		"in a loop's expression":    body(back(plain(state(impl.SWhile, bad, body())))),
		"in a block of a loop":      body(back(plain(state(impl.SWhile, yes(), body(back(bad)))))),
		"in a target":               body(back(plain(sets(1, index(void(), bad), void())))),
		"of a call":                 body(back(plain(does(word("print"), bad)))),
		"in a const of such a fn":   body(back(plain(fixes(1, "k", bad)))),
		"without, deep in two with": body(back(taking(back(taking(back(plain(back(bad)))))))),
	} {
		wantFault(t, what, text, 5)
	}
}

// unworkable are expressions that can't be worked out, none of which has a fault of its own where v is a variable.
func unworkable() map[string]twig {
	return map[string]twig{
		"a variable":       word("v"),
		"a sum with one":   two(impl.OpAdd, number(1), word("v")),
		"a sum of strings": two(impl.OpAdd, str("1"), str("2")),
		"a division by 0":  two(impl.OpIDiv, number(1), number(0)),
		"a NaN":            nan(),
		"a call":           dial(word("print")),
		"a table":          table(),
		"a fn":             lambda(1, nil),
		"further":          further(),
		"one of a call":    say(impl.EOne, dial(word("print"))),
		"an index":         index(str("s"), number(1)),
		"a field":          field(str("s"), "s"),
		"an and":           say(impl.EAnd, no(), word("v")),
		"an or":            say(impl.EOr, yes(), dial(word("print"))),
	}
}

func TestConstsThatCannotBeWorkedOut(t *testing.T) {
	v := lets(1, "v")
	for what, value := range unworkable() {
		bad := fixes(2, "k", value).here()
		wantFault(t, what, body(v, bad), 6)
		wantFault(t, what+", used", body(v, bad, says("k")), 6)
		wantFault(t, what+", used by a const", body(v, bad, fixes(3, "l", word("k")), says("l")), 6)
		wantFault(t, what+", a target", body(v, bad, sets(1, word("k"), void())), 6)
		wantFault(t, what+", in a fn", body(v, back(lambda(4, nil, body(bad)).rest())), 6)
		wantFault(t, what+", behind one that can", body(v, fixes(3, "k", number(1)), says("k"), bad), 6)
	}
	for what, value := range map[string]twig{
		"a builtin": word("print"), "a minus": one(impl.OpNeg, flt(0)), "an and": say(impl.EAnd, void(), number(1)), "an infinity": two(impl.OpDiv, number(1), number(0)),
	} {
		wantBound(t, what, body(v, fixes(2, "k", value)))
		wantBound(t, what+", used", body(v, fixes(2, "k", value), says("k"), fixes(3, "l", word("k")), says("l")))
	}
}

// flawed are statements with one fault each, by their codes, which can stand in any block of the text or a fn.
func flawed() map[int]twig {
	return map[int]twig{
		2: says("zz"),
		3: sets(1, word("print"), void()),
		4: state(impl.SBreak),
		5: back(lambda(1, nil, back(further()))),
		6: fixes(1, "k", dial(word("print"))),
	}
}

// marked marks the part of a flawed statement at which its fault is.
func marked(code int) twig {
	s := flawed()[code]
	switch code {
	case 2:
		return back(word("zz").here())
	case 3:
		return sets(1, word("print").here(), void())
	case 5:
		return back(lambda(1, nil, back(further().here())))
	}
	return s.here()
}

func TestTheLeastOfTwoFaults(t *testing.T) {
	for first := 2; first <= 6; first++ {
		for second := 2; second <= 6; second++ {
			what := fmt.Sprintf("%d ahead of %d", first, second)
			a, b := marked(first), flawed()[second]
			wantFault(t, what, body(a, b), first)
			wantFault(t, what+" in blocks", body(body(body(a)), body(b)), first)
			wantFault(t, what+" in fns", body(nameless(a), makes(1, "f", lambda(1, nil, b))), first)
			wantFault(t, what+" in a fn inside", body(nameless(nameless(a), b), b), first)
			wantFault(t, what+" in branches", body(state(impl.SIf, yes(), body(a), body(b))), first)
			wantFault(t, what+" in a try", body(state(impl.STry, body(a), body(b)).named("e")), first)
			wantFault(t, what+" among others", body(lets(1, "v"), fixes(2, "c", number(1)), says("v", "c"), a, says("v"), b, b), first)
			if first != 4 && second != 4 {
				wantFault(t, what+" in a loop", body(state(impl.SWhile, yes(), body(a, b))), first)
			}
		}
	}
}

// A part stands behind those below it, so that one of those is told of ahead of what it stands in.
func TestFaultsBelowFaults(t *testing.T) {
	for code := 2; code <= 6; code++ {
		inner := lambda(1, nil, marked(code))
		wantFault(t, fmt.Sprintf("%d in a const", code), body(fixes(1, "k", inner)), code)
		wantFault(t, fmt.Sprintf("%d in a const in a const", code), body(fixes(1, "k", lambda(1, nil, fixes(2, "l", inner)))), code)
		wantFault(t, fmt.Sprintf("%d in a const of a loop", code), body(state(impl.SWhile, yes(), body(fixes(1, "k", inner)))), code)
		wantFault(t, fmt.Sprintf("%d in a target", code), body(sets(2, index(inner, void()), word("print"), void())), code)
		wantFault(t, fmt.Sprintf("%d in a call of nothing", code), body(does(inner, word("zz"))), code)
	}
	// The target stands ahead of the values, whatever a walk asks first.
	wantFault(t, "a target ahead of a value", body(sets(1, word("print").here(), word("zz"))), 3)
	wantFault(t, "a value ahead of nothing", body(lets(1, "v"), sets(1, word("v"), word("zz").here())), 2)
	wantFault(t, "a target behind a target", body(sets(2, index(word("zz").here(), void()), word("print"), void())), 2)
	wantFault(t, "two targets", body(sets(2, word("print").here(), word("zz"), void())), 3)
	wantFault(t, "two targets the other way", body(sets(2, word("zz").here(), word("print"), void())), 2)
	wantFault(t, "two of one code", body(sets(2, word("print").here(), word("read"), void())), 3)
	wantFault(t, "nothing in a const", body(fixes(1, "k", word("zz").here()), says("zz")), 2)
	wantFault(t, "a callee ahead of its arguments", body(does(word("yy").here(), word("zz"))), 2)
	wantFault(t, "an entry's key", body(back(table(pair(word("yy").here(), word("zz"))))), 2)
	wantFault(t, "a first loop expression", body(state(impl.SFor, word("yy").here(), word("zz"), body(state(impl.SBreak))).named("i")), 2)
}

func TestAllFaultsInOneTree(t *testing.T) {
	codes := []int{2, 3, 4, 5, 6}
	for shift := range codes {
		turned := append(slices.Clone(codes[shift:]), codes[:shift]...)
		text := body()
		for i, code := range turned {
			if i == 0 {
				text.kids = append(text.kids, marked(code))
			} else {
				text.kids = append(text.kids, flawed()[code])
			}
		}
		wantFault(t, fmt.Sprint(turned), text, turned[0])
		// Too large, besides: that is told only when there is none of the others.
		five := state(impl.SEach, void(), body()).named("a", "b", "c", "d", "e")
		text.kids = append([]twig{five}, text.kids...)
		wantFault(t, "five names and others", text, turned[0])
	}
}
