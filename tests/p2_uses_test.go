package tests

import (
	"fmt"
	"strings"
	"testing"

	"loop.example/reed/impl"
)

const (
	isNone    = impl.UNone
	isVar     = impl.UVar
	isUp      = impl.UUp
	isConst   = impl.UConst
	isBuiltin = impl.UBuiltin
)

// nothing is a name that is not declared and no builtin.
var nothing = mark{isNone, 0, 0}

func TestKindsOfUses(t *testing.T) {
	wantUses(t, "no statement", body())
	wantUses(t, "no name", body(lets(1, "a", number(1)), back(number(2))))
	wantUses(t, "a variable", body(lets(1, "a"), says("a")), mark{isVar, 1, 0})
	wantUses(t, "a const", body(fixes(1, "a", number(1)), says("a")), mark{isConst, 1, 0})
	wantUses(t, "a builtin", body(says("print")), mark{isBuiltin, 0, 0})
	wantUses(t, "nothing", body(says("a")), nothing)
	wantUses(t, "names that differ in case", body(lets(1, "a"), says("A", "a")), nothing, mark{isVar, 1, 0})
	wantUses(t, "names of which one begins the other", body(lets(1, "ab"), says("a", "abc", "ab")), nothing, nothing, mark{isVar, 1, 0})
	wantUses(t, "all of a let", body(state(impl.SLet).named("a", "b", "c").line(1), says("c", "a", "b")),
		mark{isVar, 1, 2}, mark{isVar, 1, 0}, mark{isVar, 1, 1})
	wantUses(t, "a variable of a fn around", body(lets(1, "a"), nameless(says("a"))), mark{isUp, 1, 0})
	wantUses(t, "a const of a fn around", body(fixes(1, "a", number(1)), nameless(says("a"))), mark{isConst, 1, 0})
	wantUses(t, "a parameter", body(back(lambda(2, []string{"a", "b"}, says("b", "a")))), mark{isVar, 2, 1}, mark{isVar, 2, 0})
}

func TestBuiltins(t *testing.T) {
	list := strings.Fields("print read type text setkind kind rawget rawset task resume yield status giveup collect cells")
	if len(list) != impl.Builtins {
		t.Fatal(len(list))
	}
	for number, name := range list {
		wantUses(t, name, body(says(name)), mark{isBuiltin, 0, number})
		wantUses(t, name+" in a fn", body(nameless(nameless(says(name)))), mark{isBuiltin, 0, number})
		for _, other := range []string{strings.ToUpper(name), name + "s", name[:len(name)-1], "_" + name, name + "_", name[1:]} {
			if other != "kind" {
				wantUses(t, other, body(says(other)), nothing)
			}
		}
		for by := range hiders(name) {
			wantHidden(t, name, by, number)
		}
	}
	for _, name := range []string{"main", "_", "error", "pairs", "len", "builtin", "self", "table", "set", "raw", "give"} {
		wantUses(t, name, body(says(name)), nothing)
	}
}

// hiders are texts that declare a name on line 1 and use it once.
func hiders(name string) map[string]twig {
	return map[string]twig{
		"let":   body(lets(1, name), says(name)),
		"const": body(fixes(1, name, number(1)), says(name)),
		"fn":    body(makes(1, name, lambda(0, nil)), says(name)),
		"param": body(back(lambda(1, []string{name}, says(name)))),
		"for":   body(state(impl.SFor, number(1), number(2), body(says(name))).named(name)),
		"each":  body(state(impl.SEach, void(), body(says(name))).named(name)),
		"try":   body(state(impl.STry, body(), body(says(name))).named(name)),
	}
}

// wantHidden asks that the name is no builtin where it is declared, and that it is one again behind the block.
func wantHidden(t *testing.T, name, by string, number int) {
	t.Helper()
	text := hiders(name)[by]
	kind := isVar
	if by == "const" {
		kind = isConst
	}
	wantUses(t, by+" hides "+name, body(text, says(name)), mark{kind, 1, 0}, mark{isBuiltin, 0, number})
}

func TestSeveralDeclarationsInOneBlock(t *testing.T) {
	wantUses(t, "each one holds until the next",
		body(says("a"), lets(1, "a"), says("a"), lets(2, "a"), says("a"), fixes(3, "a", number(1)), says("a"),
			makes(4, "a", lambda(0, nil, says("a"))), says("a"), lets(5, "a"), says("a")),
		nothing, mark{isVar, 1, 0}, mark{isVar, 2, 0}, mark{isConst, 3, 0}, mark{isUp, 4, 0}, mark{isVar, 4, 0}, mark{isVar, 5, 0})
	wantUses(t, "a new one of the old",
		body(lets(1, "a", word("a")), lets(2, "a", word("a")), fixes(3, "a", word("a")), fixes(4, "a", word("a")), says("a")),
		nothing, mark{isVar, 1, 0}, mark{isVar, 2, 0}, mark{isConst, 3, 0}, mark{isConst, 4, 0})
	wantUses(t, "fns between two see the one ahead",
		body(lets(1, "a"), nameless(says("a")), lets(2, "a"), nameless(says("a"))),
		mark{isUp, 1, 0}, mark{isUp, 2, 0})
	wantUses(t, "blocks between two see the one ahead",
		body(lets(1, "a"), body(says("a")), lets(2, "a"), body(says("a"))),
		mark{isVar, 1, 0}, mark{isVar, 2, 0})
	wantUses(t, "an inner block has several, too",
		body(lets(1, "a"), body(says("a"), lets(2, "a"), says("a"), lets(3, "a"), says("a")), says("a"), lets(4, "a"), says("a")),
		mark{isVar, 1, 0}, mark{isVar, 2, 0}, mark{isVar, 3, 0}, mark{isVar, 1, 0}, mark{isVar, 4, 0})
	wantUses(t, "one of several names anew",
		body(state(impl.SLet).named("a", "b").line(1), lets(2, "a"), says("a", "b")),
		mark{isVar, 2, 0}, mark{isVar, 1, 1})
}

func TestSameNamesOfOneDeclaration(t *testing.T) {
	names := []string{"a", "b", "a", "c", "b"}
	all := []mark{{isVar, 1, 2}, {isVar, 1, 4}, {isVar, 1, 3}}
	use := says("a", "b", "c")
	wantUses(t, "let", body(state(impl.SLet).named(names...).line(1), use), all...)
	wantUses(t, "each", body(state(impl.SEach, void(), body(use)).named(names...)).line(9), all...)
	wantUses(t, "params", body(back(lambda(1, names, use)).line(2)), all...)
	wantUses(t, "try", body(state(impl.STry, body(), body(says("e"))).named("e", "e")).line(9), mark{isVar, 1, 1})
	wantUses(t, "try with two", body(state(impl.STry, body(), body(says("e", "f"))).named("e", "f")).line(9), mark{isVar, 1, 0}, mark{isVar, 1, 1})
	wantUses(t, "params in a fn inside", body(back(lambda(1, names, nameless(use).line(3))).line(2)),
		mark{isUp, 1, 2}, mark{isUp, 1, 4}, mark{isUp, 1, 3})
	many := make([]string, 200)
	for i := range many {
		many[i] = "a"
	}
	wantUses(t, "200 of one name", body(state(impl.SLet).named(many...).line(1), says("a")), mark{isVar, 1, 199})
}

func TestUseInTheDeclaringStatement(t *testing.T) {
	i := word("i")
	wantUses(t, "let", body(lets(1, "i", i, i)), nothing, nothing)
	wantUses(t, "const", body(fixes(1, "i", i)), nothing)
	wantUses(t, "let of a fn", body(lets(1, "i", lambda(0, nil, says("i"))), says("i")), nothing, mark{isVar, 1, 0})
	wantUses(t, "const of a fn", body(fixes(1, "i", lambda(0, nil, says("i"))), says("i")), nothing, mark{isConst, 1, 0})
	wantUses(t, "let with one ahead", body(lets(1, "i"), lets(2, "i", i)), mark{isVar, 1, 0})
	wantUses(t, "own fn", body(makes(1, "i", lambda(2, nil, says("i"))), says("i")), mark{isUp, 1, 0}, mark{isVar, 1, 0})
	wantUses(t, "own fn with one ahead", body(lets(1, "i"), makes(2, "i", lambda(3, nil, says("i")))), mark{isUp, 2, 0})
	wantUses(t, "own fn with a const ahead", body(fixes(1, "i", void()), makes(2, "i", lambda(3, nil, says("i")))), mark{isUp, 2, 0})
	wantUses(t, "own fn with a parameter of its name", body(makes(1, "i", lambda(2, []string{"i"}, says("i"))), says("i")), mark{isVar, 2, 0}, mark{isVar, 1, 0})
	wantUses(t, "own fn, from a fn inside", body(makes(1, "i", lambda(2, nil, nameless(says("i"))))), mark{isUp, 1, 0})
	wantUses(t, "own fn, not ahead", body(says("i"), makes(1, "i", lambda(2, nil))), nothing)
	three := []twig{i, i, i}
	wantUses(t, "for", body(state(impl.SFor, append(three, body(says("i")))...).named("i"), says("i")).line(9),
		nothing, nothing, nothing, mark{isVar, 1, 0}, nothing)
	wantUses(t, "for of two", body(state(impl.SFor, i, i, body(says("i"))).named("i"), says("i")).line(9),
		nothing, nothing, mark{isVar, 1, 0}, nothing)
	wantUses(t, "for with one ahead", body(lets(2, "i"), state(impl.SFor, i, i, body(says("i"))).named("i"), says("i")).line(9),
		mark{isVar, 2, 0}, mark{isVar, 2, 0}, mark{isVar, 1, 0}, mark{isVar, 2, 0})
	inside := lambda(0, nil, says("i"))
	wantUses(t, "for of fns", body(state(impl.SFor, inside, inside, inside, body(back(inside).line(3))).named("i")).line(9),
		nothing, nothing, nothing, mark{isUp, 1, 0})
	wantUses(t, "each", body(state(impl.SEach, i, body(says("i", "j"))).named("i", "j"), says("j")).line(9),
		nothing, mark{isVar, 1, 0}, mark{isVar, 1, 1}, nothing)
}

func TestBlocksOfTry(t *testing.T) {
	use := says("e", "f")
	wantUses(t, "first and second", body(state(impl.STry, body(use), body(use)).named("e", "f"), use).line(9),
		nothing, nothing, mark{isVar, 1, 0}, mark{isVar, 1, 1}, nothing, nothing)
	wantUses(t, "what the first declares", body(state(impl.STry, body(lets(2, "f"), says("f")), body(use)).named("e"), use),
		mark{isVar, 2, 0}, mark{isVar, 1, 0}, nothing, nothing, nothing)
	wantUses(t, "what the second declares", body(state(impl.STry, body(use), body(use, lets(2, "e"), use)).named("e").line(7), use).line(9),
		nothing, nothing, mark{isVar, 7, 0}, nothing, mark{isVar, 2, 0}, nothing, nothing, nothing)
	wantUses(t, "one ahead", body(lets(2, "e"), state(impl.STry, body(says("e")), body(says("e"))).named("e").line(3), says("e")),
		mark{isVar, 2, 0}, mark{isVar, 3, 0}, mark{isVar, 2, 0})
	wantUses(t, "in fns", body(state(impl.STry, body(nameless(use)), body(nameless(use))).named("e", "f").line(3), nameless(use)),
		nothing, nothing, mark{isUp, 3, 0}, mark{isUp, 3, 1}, nothing, nothing)
}

// Each statement that has a block: what that declares ends with it.
func TestNamesBehindTheirBlock(t *testing.T) {
	in := body(lets(5, "a"), says("a"))
	use := says("a")
	for what, inner := range map[string]twig{
		"block": in,
		"while": state(impl.SWhile, void(), in),
		"for":   state(impl.SFor, void(), void(), in).named("i"),
		"each":  state(impl.SEach, void(), in).named("i"),
		"if":    state(impl.SIf, void(), in),
		"else":  state(impl.SIf, void(), body(), in),
		"elif":  state(impl.SIf, void(), body(), state(impl.SIf, void(), in)),
		"try":   state(impl.STry, in, body()).named("i"),
		"catch": state(impl.STry, body(), in).named("i"),
		"fn":    back(say(impl.EFn, in)),
		"own":   makes(1, "i", say(impl.EFn, in)),
	} {
		wantUses(t, what, body(use, inner, use), nothing, mark{isVar, 5, 0}, nothing)
		up := isVar
		if what == "fn" || what == "own" {
			up = isUp
		}
		wantUses(t, what+" in one with the name", body(lets(4, "a"), inner, use), mark{isVar, 5, 0}, mark{isVar, 4, 0})
		inner = replaceBlock(inner, body(use))
		wantUses(t, what+" that declares nothing", body(lets(4, "a"), inner, use), mark{up, 4, 0}, mark{isVar, 4, 0})
	}
	declares := body(lets(5, "a"))
	wantUses(t, "then, elif, else", body(state(impl.SIf, word("a"), declares, state(impl.SIf, word("a"), body(use), body(use)))),
		nothing, nothing, nothing, nothing)
	wantUses(t, "two fns", body(back(say(impl.EFn, declares), lambda(0, nil, use), lambda(7, []string{"a"}), lambda(0, nil, use))), nothing, nothing)
}

// replaceBlock puts a block in the place of the one that declares a on line 5.
func replaceBlock(t twig, block twig) twig {
	if t.part.Kind == impl.SBlock && len(t.kids) > 0 && t.kids[0].part.Line == 5 {
		return block
	}
	kids := t.kids
	t.kids = nil
	for _, k := range kids {
		t.kids = append(t.kids, replaceBlock(k, block))
	}
	return t
}

func TestFnsInOneAnother(t *testing.T) {
	use := says("a", "b", "c", "K", "f")
	text := body(lets(1, "a"), fixes(2, "K", number(1)), makes(3, "f", lambda(4, []string{"b"},
		use,
		back(lambda(5, []string{"c"}, use, nameless(use, lets(6, "a"), use), use)),
		use)), use)
	inF := []mark{{isUp, 1, 0}, {isVar, 4, 0}, nothing, {isConst, 2, 0}, {isUp, 3, 0}}
	inG := []mark{{isUp, 1, 0}, {isUp, 4, 0}, {isVar, 5, 0}, {isConst, 2, 0}, {isUp, 3, 0}}
	inH := []mark{{isUp, 1, 0}, {isUp, 4, 0}, {isUp, 5, 0}, {isConst, 2, 0}, {isUp, 3, 0}}
	own := []mark{{isVar, 6, 0}, {isUp, 4, 0}, {isUp, 5, 0}, {isConst, 2, 0}, {isUp, 3, 0}}
	behind := []mark{{isVar, 1, 0}, nothing, nothing, {isConst, 2, 0}, {isVar, 3, 0}}
	var all []mark
	for _, list := range [][]mark{inF, inG, inH, own, inG, inF, behind} {
		all = append(all, list...)
	}
	wantUses(t, "three deep", text, all...)
	wantUses(t, "a parameter hides the one around's", body(back(lambda(1, []string{"a"}, back(lambda(2, []string{"a"}, says("a"))).line(3), says("a")).line(1))),
		mark{isVar, 2, 0}, mark{isVar, 1, 0})
	wantUses(t, "a let hides a parameter", body(back(lambda(1, []string{"a"}, says("a").line(4), lets(2, "a", word("a")), says("a").line(4)))),
		mark{isVar, 1, 0}, mark{isVar, 1, 0}, mark{isVar, 2, 0})
	wantUses(t, "a loop's variable in a fn", body(state(impl.SFor, void(), void(), body(nameless(says("i")))).named("i").line(3)), mark{isUp, 3, 0})
	wantUses(t, "a loop in a fn", body(nameless(state(impl.SEach, void(), body(says("i"))).named("i").line(3))), mark{isVar, 3, 0})
}

// consts and variables that hide one another, in inner blocks, fns and loops.
func TestHiding(t *testing.T) {
	a := says("a")
	wantUses(t, "a const hides a variable", body(lets(1, "a"), body(fixes(2, "a", void()), a), a), mark{isConst, 2, 0}, mark{isVar, 1, 0})
	wantUses(t, "a variable hides a const", body(fixes(1, "a", void()), body(lets(2, "a"), a), a), mark{isVar, 2, 0}, mark{isConst, 1, 0})
	wantUses(t, "a const hides a parameter", body(back(lambda(4, []string{"a"}, fixes(2, "a", word("a")), a)), a), mark{isVar, 4, 0}, mark{isConst, 2, 0}, nothing)
	wantUses(t, "a parameter hides a const", body(fixes(1, "a", void()), back(lambda(2, []string{"a"}, a)).line(7), a), mark{isVar, 2, 0}, mark{isConst, 1, 0})
	wantUses(t, "a const in a fn hides a variable around it", body(lets(1, "a"), nameless(fixes(2, "a", void()), nameless(a)), a), mark{isConst, 2, 0}, mark{isVar, 1, 0})
	wantUses(t, "a loop's variable hides a const", body(fixes(2, "a", void()), state(impl.SFor, word("a"), void(), body(a)).named("a"), a).line(9),
		mark{isConst, 2, 0}, mark{isVar, 1, 0}, mark{isConst, 2, 0})
	wantUses(t, "a const hides a loop's variable", body(state(impl.SEach, void(), body(a, fixes(2, "a", word("a")), a)).named("a").line(3)),
		mark{isVar, 3, 0}, mark{isVar, 3, 0}, mark{isConst, 2, 0})
	wantUses(t, "a caught one hides a const", body(fixes(2, "a", void()), state(impl.STry, body(a), body(a)).named("a").line(3)), mark{isConst, 2, 0}, mark{isVar, 3, 0})
	wantUses(t, "a fn hides a const", body(fixes(2, "a", void()), body(makes(3, "a", lambda(0, nil, a)), a), a), mark{isUp, 3, 0}, mark{isVar, 3, 0}, mark{isConst, 2, 0})
	wantUses(t, "a builtin that is hidden, within", body(says("print"), body(lets(1, "print", word("print")), says("print")), fixes(2, "print", word("print")), nameless(says("print")), says("print")),
		mark{isBuiltin, 0, 0}, mark{isBuiltin, 0, 0}, mark{isVar, 1, 0}, mark{isBuiltin, 0, 0}, mark{isConst, 2, 0}, mark{isConst, 2, 0})
}

// A name at each place where an expression may stand; texts of fields and entries are no uses.
func TestPlacesOfNames(t *testing.T) {
	a := word("a")
	all := []twig{
		lets(2, "z", a, a), fixes(3, "z", a),
		state(impl.SSet, a, say(impl.EIndex, a, a), say(impl.EField, a).text("a"), a, a).num(3),
		state(impl.SDo, dial(a, a, a)), state(impl.SDefer, dial(a, a)), state(impl.SThrow, a),
		state(impl.SIf, a, body(back(a)), state(impl.SIf, a, body(back(a)), body(back(a)))),
		state(impl.SWhile, a, body(back(a))),
		state(impl.SFor, a, a, a, body(back(a))).named("i").line(4),
		state(impl.SEach, a, body(back(a))).named("i").line(5),
		state(impl.STry, body(back(a)), body(back(a))).named("e").line(6),
		back(one(impl.OpNot, a), two(impl.OpAdd, a, a), say(impl.EAnd, a, a), say(impl.EOr, a, a), say(impl.EOne, dial(a))),
		back(say(impl.ETable, say(impl.NItem, a), say(impl.NPair, a, a), say(impl.NNamed, a).text("a"))),
	}
	count := 0
	for _, part := range lay(body(all...)).Parts {
		if part.Kind == impl.EName {
			count++
		}
	}
	marks := make([]mark, count)
	wantUses(t, "not declared", body(all...), marks...)
	for i := range marks {
		marks[i] = mark{isVar, 1000, 0}
	}
	wantUses(t, "declared", body(append([]twig{lets(1000, "a")}, all...)...), marks...)
	for i := range marks {
		marks[i] = mark{isUp, 1000, 0}
	}
	wantUses(t, "in a fn", body(lets(1000, "a"), nameless(all...)), marks...)
	for i := range marks {
		marks[i] = mark{isConst, 1000, 0}
	}
	wantUses(t, "a const in a fn", body(fixes(1000, "a", void()), nameless(all...)), marks...)
}

// Blocks in one another, each with a variable of one name, see their own; a variable outside of fns in one another is seen by all.
func TestUsesManyDeep(t *testing.T) {
	for n := 1; n <= 60; n++ {
		text, marks := body(), []mark(nil)
		for line := n; line >= 1; line-- {
			text = body(says("v"), lets(line, "v"), says("v"), text, says("v"))
		}
		for line := 1; line <= n; line++ {
			outer := mark{isVar, line - 1, 0}
			if line == 1 {
				outer = nothing
			}
			marks = append(marks, outer, mark{isVar, line, 0})
		}
		for line := n; line >= 1; line-- {
			marks = append(marks, mark{isVar, line, 0})
		}
		wantUses(t, fmt.Sprintf("%d blocks", n), text, marks...)
	}
	for n := 1; n <= 20; n++ {
		text, marks := says("v", "K"), []mark(nil)
		for range n {
			text = body(says("v"), nameless(text), says("v"))
		}
		for i := range n {
			marks = append(marks, mark{[]int{isVar, isUp}[min(i, 1)], 1000, 0})
		}
		marks = append(marks, mark{isUp, 1000, 0}, mark{isConst, 1001, 0})
		for i := n - 1; i >= 0; i-- {
			marks = append(marks, mark{[]int{isVar, isUp}[min(i, 1)], 1000, 0})
		}
		wantUses(t, fmt.Sprintf("%d fns", n), body(lets(1000, "v"), fixes(1001, "K", void()), text), marks...)
	}
}
