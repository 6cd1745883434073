package tests

import (
	"math"
	"slices"
	"strings"
	"testing"

	"loop.example/reed/impl"
)

// leavers has each statement behind which another is told of.
func leavers() map[string]twig {
	return map[string]twig{
		"return":            back(),
		"return of a value": back(void(), further()),
		"break":             state(impl.SBreak),
		"next":              state(impl.SNext),
		"throw":             state(impl.SThrow, void()),
	}
}

// fillers has a statement of each kind, by kind; none has a note of its own.
func fillers() map[int]twig {
	return map[int]twig{
		impl.SBlock: body(), impl.SLet: state(impl.SLet).named("_a"), impl.SConst: fixes(1, "_b", void()), impl.SFn: makes(1, "_c", lambda(0, nil)),
		impl.SSet: writes("zz"), impl.SDo: does(void()), impl.SIf: state(impl.SIf, further(), body()), impl.SWhile: state(impl.SWhile, void(), body()),
		impl.SFor: state(impl.SFor, void(), void(), body()).named("_d"), impl.SEach: state(impl.SEach, void(), body()).named("_e"),
		impl.SBreak: state(impl.SBreak), impl.SNext: state(impl.SNext), impl.SReturn: back(), impl.STry: state(impl.STry, body(), body()).named("_f"),
		impl.SThrow: state(impl.SThrow, void()), impl.SDefer: state(impl.SDefer, dial(void())),
	}
}

func TestBehindWhatLeaves(t *testing.T) {
	quiet := does(void())
	for what, leaves := range leavers() {
		wantAdvice(t, what+" alone", body(leaves))
		wantAdvice(t, what+" at the end", body(quiet, quiet, leaves))
		wantAdvice(t, what+", two behind", body(leaves, quiet.noted(isBehind), quiet, quiet))
		wantAdvice(t, what+" twice", body(leaves, quiet.noted(isBehind), leaves, quiet.noted(isBehind), quiet))
		for kind, filler := range fillers() {
			wantAdvice(t, what+" and one of each kind", body(quiet, leaves, filler.noted(isBehind)))
			if !slices.Contains([]int{impl.SReturn, impl.SBreak, impl.SNext, impl.SThrow}, kind) {
				wantAdvice(t, what+", two behind", body(leaves, filler.noted(isBehind), quiet))
			}
			wantAdvice(t, what+" in a block of its own", body(body(leaves), filler))
			wantAdvice(t, what+" in a fn", body(calls(leaves), filler))
			wantAdvice(t, what+" in a then", body(state(impl.SIf, further(), body(leaves)), filler))
			wantAdvice(t, what+" in both of an if", body(state(impl.SIf, further(), body(leaves), body(leaves)), filler))
			wantAdvice(t, what+" in a loop", body(state(impl.SWhile, void(), body(leaves)), filler))
			wantAdvice(t, what+" in a try", body(state(impl.STry, body(leaves), body(leaves)).named("_e"), filler))
		}
		for next, behind := range leavers() {
			wantAdvice(t, what+" and "+next, body(leaves, behind.noted(isBehind), quiet.noted(isBehind), quiet))
			wantAdvice(t, what+" and "+next+", each in a block", body(body(leaves, quiet.noted(isBehind)), body(behind, quiet.noted(isBehind)), quiet))
		}
		for kind, filler := range fillers() {
			if !slices.Contains([]int{impl.SReturn, impl.SBreak, impl.SNext, impl.SThrow}, kind) {
				wantAdvice(t, "behind what does not leave", body(filler, quiet, leaves))
			}
		}
	}
}

// In the block of each part that has one.
func TestBehindWhatLeavesInAllBlocks(t *testing.T) {
	in := body(back(), does(void()).noted(isBehind), back(), does(void()).noted(isBehind))
	for what, part := range map[string]twig{
		"block": in,
		"while": state(impl.SWhile, void(), in),
		"for":   state(impl.SFor, void(), void(), in).named("_i"),
		"each":  state(impl.SEach, void(), in).named("_i"),
		"if":    state(impl.SIf, further(), in),
		"else":  state(impl.SIf, further(), body(), in),
		"elif":  state(impl.SIf, further(), in, state(impl.SIf, further(), in, in)),
		"try":   state(impl.STry, in, in).named("_i"),
		"fn":    does(say(impl.EFn, in)),
		"own":   makes(1, "_i", say(impl.EFn, in)),
		"entry": back(table(entry("k", say(impl.EFn, in)))),
	} {
		wantAdvice(t, what, body(part))
	}
	wantAdvice(t, "the text itself", in)
}

func asks(first twig, rest ...twig) twig {
	return state(impl.SIf, append([]twig{first, body()}, rest...)...)
}

// settledOnes has expressions that can be worked out where K, T and N are consts, N one that is nil.
func settledOnes() map[string]twig {
	k, n := word("K"), word("N")
	return map[string]twig{
		"nil": void(), "true": yes(), "false": no(), "int": number(0), "float": flt(0.5), "text": str(""),
		"builtin": word("print"), "another builtin": word("cells"),
		"const": k, "const that is nil": n, "text of a const": word("T"),
		"not": one(impl.OpNot, k), "minus": one(impl.OpNeg, k), "length": one(impl.OpLen, word("T")),
		"sum": two(impl.OpAdd, k, number(1)), "order": two(impl.OpLt, k, number(3)), "same": two(impl.OpEq, word("print"), void()),
		"and": say(impl.EAnd, n, k), "or": say(impl.EOr, n, k), "deep": one(impl.OpNot, say(impl.EOr, two(impl.OpEq, k, n), one(impl.OpNot, k))),
		"nan": nan(), "a nan in it": two(impl.OpLt, nan(), k), "minus nan": one(impl.OpNeg, nan()), "nan or": say(impl.EOr, nan(), k), "and nan": say(impl.EAnd, k, nan()),
		"inf less inf": two(impl.OpSub, flt(math.Inf(1)), flt(math.Inf(1))), "joined": two(impl.OpJoin, nan(), word("T")),
	}
}

// openOnes has expressions that can't be worked out where v is a variable, Q a const that can't be worked out and W one that would be a NaN.
func openOnes() map[string]twig {
	v := word("v")
	return map[string]twig{
		"variable": v, "nothing": word("zz"), "const that can't be": word("Q"), "const that is a nan": word("W"),
		"of such a const": two(impl.OpEq, word("W"), word("W")), "not of such a const": one(impl.OpNot, word("W")),
		"rest": further(), "call": dial(word("print")), "one": say(impl.EOne, dial(word("print"))), "one of rest": say(impl.EOne, further()),
		"table": table(), "fn": lambda(0, nil), "index": index(str("s"), number(1)), "field": field(str("s"), "s"),
		"and, first": say(impl.EAnd, v, no()), "and, second": say(impl.EAnd, no(), v), "or, first": say(impl.EOr, v, yes()), "or, second": say(impl.EOr, yes(), v),
		"not": one(impl.OpNot, v), "sum": two(impl.OpAdd, number(1), v), "of a call": two(impl.OpEq, dial(word("print")), number(1)),
		"by zero": two(impl.OpIDiv, number(1), number(0)), "rest by zero": two(impl.OpMod, number(1), number(0)), "shift below 0": two(impl.OpShl, number(1), number(-1)),
		"kinds that don't fit": two(impl.OpAdd, str("s"), number(1)), "order of kinds": two(impl.OpLt, void(), number(1)), "minus a text": one(impl.OpNeg, str("s")),
		"length of an int": one(impl.OpLen, number(1)), "or of a fault": say(impl.EOr, yes(), two(impl.OpIDiv, number(1), number(0))),
		"too long": two(impl.OpJoin, str(strings.Repeat("x", impl.MaxStr)), str("y")),
	}
}

// inConsts puts statements behind what settledOnes and openOnes name, all of which is read.
func inConsts(statements ...twig) twig {
	ahead := []twig{
		fixes(1, "K", number(2)), fixes(2, "T", str("t")), fixes(3, "N", void()), lets(4, "v"), fixes(5, "Q", word("v")), fixes(6, "W", nan()),
		does(word("K"), word("T"), word("N"), word("v"), word("Q"), word("W")),
	}
	return body(append(ahead, statements...)...)
}

func TestConditionsThatAreKnown(t *testing.T) {
	for what, first := range settledOnes() {
		known := first.noted(isKnown)
		wantAdvice(t, what, inConsts(asks(known)))
		wantAdvice(t, what+", with an else", inConsts(asks(known, body())))
		wantAdvice(t, what+", elif", inConsts(asks(further(), asks(known))))
		wantAdvice(t, what+", elif of elif", inConsts(asks(further(), asks(further(), asks(known, body())))))
		wantAdvice(t, what+", both", inConsts(asks(known, asks(known))))
		wantAdvice(t, what+", if in an else", inConsts(asks(further(), body(asks(known)))))
		wantAdvice(t, what+", in a fn", inConsts(calls(body(asks(known)))))
		wantAdvice(t, what+", in a loop", inConsts(state(impl.SWhile, first, body(asks(known)))))
		wantAdvice(t, what+", of a loop", inConsts(state(impl.SWhile, first, body()), state(impl.SFor, first, first, first, body()).named("_i"), state(impl.SEach, first, body()).named("_i")))
		wantAdvice(t, what+", elsewhere", inConsts(does(first, first), lets(1, "_l", first), fixes(2, "_k", first), back(say(impl.EAnd, first, first))))
		wantAdvice(t, what+", inside", inConsts(asks(say(impl.EOr, first, word("v"))), asks(dial(first)), asks(index(word("v"), first))))
	}
}

func TestConditionsThatAreNotKnown(t *testing.T) {
	for what, first := range openOnes() {
		wantAdvice(t, what, inConsts(asks(first)))
		wantAdvice(t, what+", elif", inConsts(asks(yes().noted(isKnown), asks(first, body()))))
		wantAdvice(t, what+", in a fn", inConsts(calls(asks(first, asks(first)))))
	}
	k := word("K")
	wantAdvice(t, "a variable hides the const", inConsts(calls(lets(9, "K"), asks(k)), asks(k.noted(isKnown))))
	wantAdvice(t, "a parameter hides the const", inConsts(does(lambda(0, []string{"K"}, asks(k))), asks(k.noted(isKnown))))
	wantAdvice(t, "a const hides the variable", inConsts(calls(fixes(9, "v", void()), asks(word("v").noted(isKnown))), asks(word("v"))))
	wantAdvice(t, "a variable hides the builtin", body(asks(word("print").noted(isKnown)), lets(1, "print"), asks(word("print"))))
	wantAdvice(t, "ahead of the const", body(asks(k), fixes(1, "K", void()), asks(k.noted(isKnown))))
	wantAdvice(t, "as long as may be", inConsts(asks(two(impl.OpJoin, str(strings.Repeat("x", impl.MaxStr-1)), str("y")).noted(isKnown))))
}

// The words of the document: by Part, then Place, then Code.
func TestOrderOfNotes(t *testing.T) {
	wantAdvice(t, "all that a let may have", body(lets(1, "a"), does(word("a")), lets(2, "c"), does(word("c")), back(),
		state(impl.SLet).named("a", "b", "c").noted(isUnused, isAgain, isBehind).notedAt(1, isWritten).notedAt(2, isAgain), writes("b"), does(word("c"))))
	wantAdvice(t, "a name that is written, and declared already, behind a return", body(lets(1, "a").noted(isUnused), back(), lets(2, "a").noted(isWritten, isAgain, isBehind), writes("a")))
	wantAdvice(t, "all that a const may have", body(lets(1, "a"), does(word("a")), back(), fixes(2, "a", void()).noted(isAgain, isBehind, isDeadConst)))
	wantAdvice(t, "a part behind those below it", body(back(), state(impl.SEach, lambda(0, []string{"p", "q"}, back(), state(impl.SIf, no().noted(isKnown), body()).noted(isBehind)).noted(isUnused).notedAt(1, isUnused),
		body(lets(1, "l").noted(isUnused))).named("i", "j").noted(isUnused, isBehind).notedAt(1, isUnused)))
	wantAdvice(t, "a fn behind its parameters", body(state(impl.SThrow, void()), makes(1, "f", lambda(0, []string{"p"}, asks(void().noted(isKnown))).noted(isUnused)).noted(isUnused, isBehind)))
	many := make([]string, 0, impl.MaxKids)
	wide := state(impl.SLet)
	for i := range impl.MaxKids {
		many = append(many, "n"+strings.Repeat("x", i%30)+string(rune('a'+i/30)))
		wide = wide.notedAt(i, isUnused, isAgain)
		if i == 0 {
			wide = wide.noted(isBehind)
		}
	}
	wantAdvice(t, "200 names", body(state(impl.SLet).named(many...), says(many...), wide.named(many...)))
}

func TestAdviceOfTheRichTree(t *testing.T) {
	tree := richTree()
	if got, want := adviceKept(t, "rich", tree), modelAdvice(tree); !slices.Equal(got, want) || len(got) < 8 {
		t.Errorf("\n got %v\nwant %v", got, want)
	}
}

func TestNoAdviceForTreesThatAreNotSound(t *testing.T) {
	text := body(fixes(1, "a", number(1)), lets(2, "a"), back(), asks(yes()))
	deep := text
	for range 97 {
		deep = body(deep)
	}
	for what, spoil := range map[string]func(tree *impl.Tree){
		"no parts":            func(tree *impl.Tree) { tree.Parts = nil },
		"no block last":       func(tree *impl.Tree) { tree.Parts = tree.Parts[:len(tree.Parts)-1] },
		"too many":            func(tree *impl.Tree) { tree.Parts = append(make([]impl.Part, impl.MaxNodes), tree.Parts...) },
		"a name that is none": func(tree *impl.Tree) { tree.Parts[2].Names = []string{"if"} },
		"a name too much":     func(tree *impl.Tree) { tree.Parts[1].Names = []string{"a", "b"} },
		"names of a return":   func(tree *impl.Tree) { tree.Parts[3].Names = []string{"a"} },
		"an op too much":      func(tree *impl.Tree) { tree.Parts[0].Op = 1 },
		"no line":             func(tree *impl.Tree) { tree.Parts[2].Line = 0 },
		"a kid below 0":       func(tree *impl.Tree) { tree.Parts[1].Kids[0] = -1 },
		"a kid of its own":    func(tree *impl.Tree) { tree.Parts[1].Kids[0] = 1 },
		"a kid far away":      func(tree *impl.Tree) { tree.Parts[6].Kids[0] = math.MaxInt },
		"kids turned round":   func(tree *impl.Tree) { slices.Reverse(tree.Parts[7].Kids) },
		"a kid left out":      func(tree *impl.Tree) { tree.Parts[7].Kids = tree.Parts[7].Kids[1:] },
		"an if of one":        func(tree *impl.Tree) { tree.Parts[6].Kids = tree.Parts[6].Kids[:1] },
		"a NaN":               func(tree *impl.Tree) { tree.Parts[0] = impl.Part{Kind: impl.EFlt, Flt: math.NaN()} },
		"too deep":            func(tree *impl.Tree) { *tree = lay(body(body(deep))) },
	} {
		tree := lay(text)
		if len(impl.Advice(tree)) != 5 {
			t.Fatal("the tree has not what it should")
		}
		spoil(&tree)
		if impl.TreeOk(tree).Code == 0 {
			t.Errorf("%s: sound", what)
		}
		if got := adviceKept(t, what, tree); len(got) != 0 {
			t.Errorf("%s: %v", what, got)
		}
	}
	if len(impl.Advice(lay(body(deep)))) != 5 {
		t.Error("as deep as may be")
	}
	for _, tree := range []impl.Tree{{}, {Parts: []impl.Part{}}, {Parts: []impl.Part{{}}}, {Parts: make([]impl.Part, 4000)}} {
		if got := adviceKept(t, "nothing", tree); len(got) != 0 {
			t.Errorf("%v", got)
		}
	}
}
