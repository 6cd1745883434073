package tests

import (
	"testing"

	"loop.example/reed/impl"
)

// twig is a part with what stands below it, before it has a place. notes are those that Advice should have for it; their Part is not known yet.
type twig struct {
	part  impl.Part
	kids  []twig
	notes []impl.Note
}

// lay puts a twig down as a tree, each part behind those below it.
func lay(t twig) impl.Tree {
	var parts []impl.Part
	layInto(t, &parts)
	return impl.Tree{Parts: parts}
}

func layInto(t twig, parts *[]impl.Part) int {
	p := t.part
	p.Kids = nil
	for _, k := range t.kids {
		p.Kids = append(p.Kids, layInto(k, parts))
	}
	*parts = append(*parts, p)
	return len(*parts) - 1
}

func (t twig) size() int {
	n := 1
	for _, k := range t.kids {
		n += k.size()
	}
	return n
}

// state makes a statement, say an expression or an entry.
func state(kind int, kids ...twig) twig {
	return twig{part: impl.Part{Kind: kind, Line: 1}, kids: kids}
}

func say(kind int, kids ...twig) twig { return twig{part: impl.Part{Kind: kind}, kids: kids} }

func (t twig) named(names ...string) twig {
	t.part.Names = names
	return t
}

func (t twig) text(text string) twig {
	t.part.Text = text
	return t
}

func (t twig) op(op int) twig {
	t.part.Op = op
	return t
}

func (t twig) num(num int64) twig {
	t.part.Num = num
	return t
}

func (t twig) line(line int) twig {
	t.part.Line = line
	return t
}

func body(kids ...twig) twig { return state(impl.SBlock, kids...) }

func word(text string) twig { return say(impl.EName).text(text) }

func number(n int64) twig { return say(impl.EInt).num(n) }

func back(values ...twig) twig { return state(impl.SReturn, values...) }

func dial(kids ...twig) twig { return say(impl.ECall, kids...) }

func wantTree(t *testing.T, what string, tree impl.Tree, code, part int) {
	t.Helper()
	wrong := impl.Wrong{Code: code, Part: part}
	if got := impl.TreeOk(tree); got != wrong {
		t.Errorf("%s: %v, want %v", what, got, wrong)
	}
}

func wantSound(t *testing.T, what string, tree impl.Tree) {
	t.Helper()
	wantTree(t, what, tree, 0, 0)
}

// samples has of every kind one part that is as its row says, with what stands below it.
func samples() map[int]twig {
	none := say(impl.ENil)
	return map[int]twig{
		impl.SBlock: body(), impl.SLet: state(impl.SLet).named("a"), impl.SConst: state(impl.SConst, none).named("c"),
		impl.SFn:  state(impl.SFn, say(impl.EFn, body())).named("f"),
		impl.SSet: state(impl.SSet, word("x"), none).num(1), impl.SDo: state(impl.SDo, dial(word("f"))),
		impl.SIf: state(impl.SIf, none, body()), impl.SWhile: state(impl.SWhile, none, body()),
		impl.SFor:  state(impl.SFor, none, none, body()).named("i"),
		impl.SEach: state(impl.SEach, none, body()).named("k"), impl.SBreak: state(impl.SBreak), impl.SNext: state(impl.SNext),
		impl.SReturn: back(), impl.STry: state(impl.STry, body(), body()).named("e"),
		impl.SThrow: state(impl.SThrow, none), impl.SDefer: state(impl.SDefer, dial(word("f"))),
		impl.ENil: none, impl.ETrue: say(impl.ETrue), impl.EFalse: say(impl.EFalse), impl.EInt: number(-3),
		impl.EFlt: {part: impl.Part{Kind: impl.EFlt, Flt: 1.5}}, impl.EStr: say(impl.EStr).text("if so"),
		impl.EName: word("x"), impl.ERest: say(impl.ERest), impl.EAnd: say(impl.EAnd, none, none), impl.EOr: say(impl.EOr, none, none),
		impl.EUnary: say(impl.EUnary, none).op(impl.OpNeg), impl.EBinary: say(impl.EBinary, none, none).op(impl.OpAdd),
		impl.EIndex: say(impl.EIndex, none, none), impl.EField: say(impl.EField, none).text("y"),
		impl.ECall: dial(none), impl.ETable: say(impl.ETable), impl.EFn: say(impl.EFn, body()), impl.EOne: say(impl.EOne, say(impl.ERest)),
		impl.NItem: say(impl.NItem, none), impl.NPair: say(impl.NPair, none, none), impl.NNamed: say(impl.NNamed, none).text("z"),
	}
}

// kindsInOrder has all kinds of parts, statements first.
func kindsInOrder() []int {
	var kinds []int
	for kind := range 60 {
		if _, ok := samples()[kind]; ok {
			kinds = append(kinds, kind)
		}
	}
	return kinds
}

// rooted puts a part of any kind into a text, where it stands first.
func rooted(t twig) twig {
	switch kind := t.part.Kind; {
	case kind < impl.ENil:
		return body(t)
	case kind < impl.NItem:
		return body(back(t))
	}
	return body(back(say(impl.ETable, t)))
}

// richTree has every kind of part, and rows with all that they may have.
func richTree() impl.Tree {
	call := dial(word("print"), word("a"), say(impl.ERest))
	table := say(impl.ETable,
		say(impl.NItem, number(1)),
		say(impl.NPair, say(impl.EStr).text("k"), say(impl.EOne, call)),
		say(impl.NNamed, say(impl.ETable)).text("n"),
		say(impl.NItem, say(impl.ERest)))
	flt := twig{part: impl.Part{Kind: impl.EFlt, Flt: -0.5, From: 3, To: 9, Line: 2}}
	jump := func(kind int) twig { return body(state(kind)) }
	return lay(body(
		state(impl.SLet, number(1), flt).named("a", "b", "a").line(2),
		state(impl.SConst, say(impl.EBinary, number(2), number(3)).op(impl.OpMul)).named("six"),
		state(impl.SFn, say(impl.EFn, body(back(word("p"), word("_q2"), say(impl.ERest)))).named("p", "_q2").op(1)).named("f"),
		state(impl.SSet, word("a"), say(impl.EIndex, word("b"), number(1)), say(impl.EField, word("b")).text("Z"), table, say(impl.ENil)).num(3),
		state(impl.SDo, call),
		state(impl.SIf, say(impl.ETrue), body(), state(impl.SIf, say(impl.EFalse), body(), body(back()))),
		state(impl.SWhile, say(impl.EAnd, word("a"), say(impl.EOr, word("b"), word("six"))), jump(impl.SBreak)),
		state(impl.SFor, number(1), number(2), body()).named("i"),
		state(impl.SFor, number(1), number(2), number(1), jump(impl.SNext)).named("i"),
		state(impl.SEach, word("b"), body()).named("k", "v", "w", "x", "y"),
		state(impl.STry, body(state(impl.SThrow, say(impl.EUnary, word("a")).op(impl.OpLen))), body()).named("e", "trace"),
		state(impl.STry, body(), body()).named("e"),
		state(impl.SDefer, dial(say(impl.EFn, body()))),
		back(),
	))
}

func TestSampleTreesAreSound(t *testing.T) {
	wantSound(t, "rich", richTree())
	have := map[int]int{}
	for _, p := range richTree().Parts {
		have[p.Kind]++
	}
	for kind, sample := range samples() {
		if have[kind] == 0 {
			t.Errorf("the rich tree lacks kind %d", kind)
		}
		wantSound(t, "sample", lay(rooted(sample)))
	}
	if n := len(samples()); n != 16+18+3 {
		t.Errorf("%d kinds", n)
	}
}
