package tests

import (
	"fmt"
	"math"
	"slices"
	"strings"
	"testing"

	"loop.example/reed/impl"
)

// wantConsts asks for one const for each SConst, in order: nil where it can't be worked out.
func wantConsts(t *testing.T, what string, text twig, values ...*impl.Value) {
	t.Helper()
	tree := lay(text)
	wantSound(t, what, tree)
	var want []impl.Const
	for n, p := range tree.Parts {
		if p.Kind != impl.SConst {
			continue
		}
		if len(want) == len(values) {
			t.Fatalf("%s: more consts than values", what)
		}
		c := impl.Const{Part: n, Code: 1}
		if v := values[len(want)]; v != nil {
			c = impl.Const{Part: n, Value: *v}
		}
		want = append(want, c)
	}
	if len(want) != len(values) {
		t.Fatalf("%s: fewer consts than values", what)
	}
	if got := constsKept(t, what, tree); !slices.EqualFunc(got, want, sameConst) {
		t.Errorf("%s:\n got %v\nwant %v", what, got, want)
	}
}

func is(v impl.Value) *impl.Value { return &v }

// reckoning is an expression, and what it gives: nil where it can't be worked out.
type reckoning struct {
	what  string
	twig  twig
	value *impl.Value
}

func wantReckonings(t *testing.T, list []reckoning) {
	t.Helper()
	for i, c := range list {
		wantConsts(t, fmt.Sprintf("case %d, %s", i, c.what), body(fixes(1, "K", c.twig)), c.value)
	}
}

const (
	least = math.MinInt64
	most  = math.MaxInt64
	two53 = 1 << 53
)

func TestConstsOfLiterals(t *testing.T) {
	wantReckonings(t, []reckoning{
		{"nil", void(), is(vNil())}, {"true", yes(), is(vBool(true))}, {"false", no(), is(vBool(false))},
		{"0", number(0), is(vInt(0))}, {"least", number(least), is(vInt(least))}, {"most", number(most), is(vInt(most))},
		{"0.0", flt(0), is(vFlt(0))}, {"-0.0", flt(minusZero()), is(vFlt(minusZero()))}, {"1.5", flt(1.5), is(vFlt(1.5))},
		{"inf", flt(math.Inf(1)), is(vFlt(math.Inf(1)))}, {"-inf", flt(math.Inf(-1)), is(vFlt(math.Inf(-1)))},
		{"the least float above 0", flt(math.SmallestNonzeroFloat64), is(vFlt(5e-324))},
		{"the empty text", str(""), is(vStr(""))}, {"a text", str("a\x00\xff"), is(vStr("a\x00\xff"))},
		{"a long text", str(strings.Repeat("x", 4000)), is(vStr(strings.Repeat("x", 4000)))},
		{"an int whose float is a zero of the other sign", twig{part: impl.Part{Kind: impl.EInt, Num: 2, Flt: minusZero(), From: 1, To: 2, Line: 3}}, is(vInt(2))},
		{"a nil whose float is a zero of the other sign", twig{part: impl.Part{Kind: impl.ENil, Flt: minusZero()}}, is(vNil())},
		{"a true whose float is a zero of the other sign", twig{part: impl.Part{Kind: impl.ETrue, Flt: minusZero()}}, is(vBool(true))},
		{"a text whose float is a zero of the other sign", twig{part: impl.Part{Kind: impl.EStr, Text: "s", Flt: minusZero()}}, is(vStr("s"))},
	})
	for n, name := range strings.Fields(builtinsInOrder) {
		wantConsts(t, name, body(fixes(1, "K", word(name)), fixes(2, "L", word("K"))), is(vBuiltin(int64(n))), is(vBuiltin(int64(n))))
		wantConsts(t, name+" in itself", body(fixes(1, name, word(name)), fixes(2, name, word(name))), is(vBuiltin(int64(n))), is(vBuiltin(int64(n))))
		wantConsts(t, name+" as a variable", body(lets(1, name), fixes(2, "K", word(name))), nil)
	}
}

// What is no literal, name or operation of such can't be worked out, nor what is made of it.
func TestConstsOfOtherExpressions(t *testing.T) {
	zero := number(0)
	others := map[string]twig{
		"rest": say(impl.ERest), "index": say(impl.EIndex, str("s"), zero), "field": say(impl.EField, str("s")).text("x"),
		"call": dial(word("print")), "call of a text": dial(str("s"), zero), "table": say(impl.ETable), "table of one": say(impl.ETable, say(impl.NItem, zero)),
		"fn": lambda(0, nil), "one": say(impl.EOne, dial(word("print"))), "one of rest": say(impl.EOne, say(impl.ERest)),
		"a variable": word("v"), "nothing": word("zz"), "itself": word("K"), "a const that can't": word("C"),
	}
	v, c := lets(2, "v", zero), fixes(3, "C", word("v"))
	for what, x := range others {
		for how, made := range map[string]twig{
			"plain": x, "not": one(impl.OpNot, x), "neg": one(impl.OpNeg, x), "len": one(impl.OpLen, x),
			"equal, first": two(impl.OpEq, x, zero), "equal, second": two(impl.OpEq, zero, x), "equal, both": two(impl.OpEq, x, x),
			"join": two(impl.OpJoin, str(""), x), "add": two(impl.OpAdd, x, zero),
			"and, first": say(impl.EAnd, x, zero), "or, first": say(impl.EOr, x, zero),
			"and, second of true": say(impl.EAnd, yes(), x), "and, second of false": say(impl.EAnd, no(), x),
			"or, second of true": say(impl.EOr, yes(), x), "or, second of false": say(impl.EOr, no(), x),
			"deep": one(impl.OpNot, say(impl.EOr, yes(), say(impl.EAnd, no(), one(impl.OpNot, x)))),
		} {
			wantConsts(t, what+", "+how, body(v, c, fixes(1, "K", made)), nil, nil)
		}
	}
	wantConsts(t, "a variable of a fn around", body(v, nameless(fixes(1, "K", word("v")))), nil)
	wantConsts(t, "a parameter", body(back(lambda(4, []string{"v"}, fixes(1, "K", word("v"))))), nil)
	wantConsts(t, "a loop's variable", body(state(impl.SFor, zero, zero, body(fixes(2, "K", word("i")))).named("i")), nil)
	wantConsts(t, "a fn's name", body(makes(2, "f", lambda(0, nil, fixes(3, "K", word("f")))), fixes(1, "K", word("f"))), nil, nil)
}

func TestConstsOfConsts(t *testing.T) {
	a := word("a")
	plus := func(x twig) twig { return two(impl.OpAdd, x, number(1)) }
	wantConsts(t, "no const", body(lets(1, "a", number(1))))
	wantConsts(t, "of one ahead", body(fixes(1, "a", number(1)), fixes(2, "b", plus(a)), fixes(3, "c", two(impl.OpMul, word("b"), word("b")))), is(vInt(1)), is(vInt(2)), is(vInt(4)))
	wantConsts(t, "of one behind", body(fixes(1, "b", a), fixes(2, "a", number(1))), nil, is(vInt(1)))
	wantConsts(t, "one name again and again", body(fixes(1, "a", number(1)), fixes(2, "a", plus(a)), fixes(3, "a", plus(a))), is(vInt(1)), is(vInt(2)), is(vInt(3)))
	wantConsts(t, "one that can't, in the middle", body(fixes(1, "a", number(1)), fixes(2, "b", dial(a)), fixes(3, "c", word("b")), fixes(4, "d", plus(a)), fixes(5, "e", say(impl.EOr, a, word("c")))),
		is(vInt(1)), nil, nil, is(vInt(2)), nil)
	wantConsts(t, "a variable between", body(fixes(1, "a", number(1)), lets(2, "a", number(2)), fixes(3, "b", a), fixes(4, "a", number(4)), fixes(5, "c", a)), is(vInt(1)), nil, is(vInt(4)), is(vInt(4)))
	wantConsts(t, "a const that hides a variable", body(lets(1, "a"), body(fixes(2, "a", number(2)), fixes(3, "b", a)), fixes(4, "c", a)), is(vInt(2)), is(vInt(2)), nil)
	wantConsts(t, "an inner block", body(fixes(1, "a", number(1)), body(fixes(2, "a", plus(a)), fixes(3, "b", a)), fixes(4, "c", a)), is(vInt(1)), is(vInt(2)), is(vInt(2)), is(vInt(1)))
	wantConsts(t, "in fns", body(fixes(1, "a", number(1)), nameless(fixes(2, "b", plus(a)), nameless(fixes(3, "c", plus(word("b")))))), is(vInt(1)), is(vInt(2)), is(vInt(3)))
	wantConsts(t, "in a fn in a const", body(fixes(1, "a", number(1)), fixes(2, "f", lambda(0, nil, fixes(3, "b", plus(a)), fixes(4, "c", word("f")))), fixes(5, "d", word("f"))),
		is(vInt(1)), is(vInt(2)), nil, nil, nil)
	wantConsts(t, "behind its block", body(body(fixes(1, "a", number(1))), fixes(2, "b", a)), is(vInt(1)), nil)
	wantConsts(t, "with a text", body(fixes(1, "a", str("x")), fixes(2, "b", two(impl.OpJoin, a, a)), fixes(3, "c", one(impl.OpLen, word("b")))), is(vStr("x")), is(vStr("xx")), is(vInt(2)))
	wantConsts(t, "of all kinds of statements", body(
		state(impl.SIf, void(), body(fixes(1, "a", number(1))), body(fixes(2, "a", number(2)))),
		state(impl.SWhile, void(), body(fixes(3, "a", number(3)))),
		state(impl.STry, body(fixes(4, "a", number(4))), body(fixes(5, "a", number(5)))).named("e"),
		state(impl.SSet, word("a"), lambda(0, nil, fixes(6, "a", number(6)))).num(1),
		back(say(impl.ETable, say(impl.NNamed, lambda(0, nil, fixes(7, "a", number(7)))).text("x")))),
		is(vInt(1)), is(vInt(2)), is(vInt(3)), is(vInt(4)), is(vInt(5)), is(vInt(6)), is(vInt(7)))
}

// A const that is a NaN can't be worked out, and so none that names it; a NaN inside of an expression may be.
func TestConstsAndNaN(t *testing.T) {
	wantReckonings(t, []reckoning{
		{"0.0 / 0.0", nan(), nil}, {"0 / 0", two(impl.OpDiv, number(0), number(0)), nil},
		{"- nan", one(impl.OpNeg, nan()), nil}, {"nan + 1", two(impl.OpAdd, nan(), number(1)), nil},
		{"inf - inf", two(impl.OpSub, flt(math.Inf(1)), flt(math.Inf(1))), nil}, {"inf * 0", two(impl.OpMul, flt(math.Inf(1)), number(0)), nil},
		{"1.0 mod 0", two(impl.OpMod, flt(1), number(0)), nil}, {"0.0 idiv 0", two(impl.OpIDiv, flt(0), number(0)), nil},
		{"nan or 1", say(impl.EOr, nan(), number(1)), nil}, {"1 and nan", say(impl.EAnd, number(1), nan()), nil},
		{"nan and 1", say(impl.EAnd, nan(), number(1)), is(vInt(1))}, {"1 or nan", say(impl.EOr, number(1), nan()), is(vInt(1))},
		{"nil and nan", say(impl.EAnd, void(), nan()), is(vNil())}, {"nil or nan", say(impl.EOr, void(), nan()), nil},
		{"nan = nan", two(impl.OpEq, nan(), nan()), is(vBool(false))}, {"nan <> nan", two(impl.OpNe, nan(), nan()), is(vBool(true))},
		{"nan = nil", two(impl.OpEq, nan(), void()), is(vBool(false))}, {"nan <> 1", two(impl.OpNe, nan(), number(1)), is(vBool(true))},
		{"nan < 1", two(impl.OpLt, nan(), number(1)), is(vBool(false))}, {"nan <= 1", two(impl.OpLe, nan(), number(1)), is(vBool(false))},
		{"1 > nan", two(impl.OpGt, number(1), nan()), is(vBool(false))}, {"1.5 >= nan", two(impl.OpGe, flt(1.5), nan()), is(vBool(false))},
		{"nan >= nan", two(impl.OpGe, nan(), nan()), is(vBool(false))}, {"nan <= nan", two(impl.OpLe, nan(), nan()), is(vBool(false))},
		{"nan < text", two(impl.OpLt, nan(), str("")), nil}, {"nan .. x", two(impl.OpJoin, nan(), str("x")), is(vStr("nanx"))},
		{"- nan .. 1", two(impl.OpJoin, one(impl.OpNeg, nan()), number(1)), is(vStr("nan1"))}, {"not nan", one(impl.OpNot, nan()), is(vBool(false))},
		{"len nan", one(impl.OpLen, nan()), nil}, {"flip nan", one(impl.OpFlip, nan()), nil}, {"nan & 1", two(impl.OpAnd, nan(), number(1)), nil},
	})
	a := word("a")
	wantConsts(t, "of a const that is one", body(fixes(1, "a", nan()), fixes(2, "b", two(impl.OpEq, a, a)), fixes(3, "c", one(impl.OpNot, a)), fixes(4, "d", say(impl.EOr, number(1), a))), nil, nil, nil, nil)
}

func TestConstsOfAndAndOr(t *testing.T) {
	first := []struct {
		twig  twig
		value impl.Value
		truth bool
	}{
		{void(), vNil(), false}, {no(), vBool(false), false}, {yes(), vBool(true), true}, {number(0), vInt(0), true}, {number(-1), vInt(-1), true},
		{flt(0), vFlt(0), true}, {flt(minusZero()), vFlt(minusZero()), true}, {str(""), vStr(""), true}, {str("false"), vStr("false"), true}, {word("print"), vBuiltin(0), true},
	}
	for i, x := range first {
		for j, y := range first {
			what := fmt.Sprintf("%d with %d", i, j)
			both, either := y.value, x.value
			if !x.truth {
				both, either = x.value, y.value
			}
			wantConsts(t, what, body(fixes(1, "K", say(impl.EAnd, x.twig, y.twig)), fixes(2, "L", say(impl.EOr, x.twig, y.twig))), is(both), is(either))
		}
		wantConsts(t, fmt.Sprintf("not %d", i), body(fixes(1, "K", one(impl.OpNot, x.twig))), is(vBool(!x.truth)))
		for _, fails := range []twig{two(impl.OpIDiv, number(1), number(0)), word("zz")} {
			wantConsts(t, fmt.Sprintf("%d with one that can't", i),
				body(fixes(1, "K", say(impl.EAnd, x.twig, fails)), fixes(1, "K", say(impl.EOr, x.twig, fails)), fixes(1, "K", say(impl.EAnd, fails, x.twig)), fixes(1, "K", say(impl.EOr, fails, x.twig))),
				nil, nil, nil, nil)
		}
	}
}

func TestConstsOfInts(t *testing.T) {
	type ints struct {
		op   int
		a, b int64
		want *impl.Value
	}
	var list []reckoning
	for _, c := range []ints{
		{impl.OpAdd, 2, 3, is(vInt(5))}, {impl.OpAdd, most, 1, is(vInt(least))}, {impl.OpAdd, least, least, is(vInt(0))},
		{impl.OpSub, 2, 3, is(vInt(-1))}, {impl.OpSub, least, 1, is(vInt(most))}, {impl.OpSub, 0, least, is(vInt(least))},
		{impl.OpMul, -4, 3, is(vInt(-12))}, {impl.OpMul, least, -1, is(vInt(least))}, {impl.OpMul, most, 2, is(vInt(-2))}, {impl.OpMul, 1 << 32, 1 << 32, is(vInt(0))}, {impl.OpMul, 3037000500, 3037000500, is(vInt(-9223372036709301616))},
		{impl.OpDiv, 1, 2, is(vFlt(0.5))}, {impl.OpDiv, 4, 2, is(vFlt(2))}, {impl.OpDiv, 1, 0, is(vFlt(math.Inf(1)))}, {impl.OpDiv, -1, 0, is(vFlt(math.Inf(-1)))}, {impl.OpDiv, 0, 0, nil}, {impl.OpDiv, 0, -1, is(vFlt(minusZero()))}, {impl.OpDiv, two53 + 1, 1, is(vFlt(two53))}, {impl.OpDiv, two53 + 3, 1, is(vFlt(two53 + 4))}, {impl.OpDiv, most, most, is(vFlt(1))},
		{impl.OpIDiv, 7, 2, is(vInt(3))}, {impl.OpIDiv, -7, 2, is(vInt(-4))}, {impl.OpIDiv, 7, -2, is(vInt(-4))}, {impl.OpIDiv, -7, -2, is(vInt(3))}, {impl.OpIDiv, 6, -3, is(vInt(-2))}, {impl.OpIDiv, -6, 3, is(vInt(-2))}, {impl.OpIDiv, 1, 7, is(vInt(0))}, {impl.OpIDiv, -1, 7, is(vInt(-1))}, {impl.OpIDiv, 0, -7, is(vInt(0))}, {impl.OpIDiv, least, -1, is(vInt(least))}, {impl.OpIDiv, least, most, is(vInt(-2))}, {impl.OpIDiv, most, least, is(vInt(-1))}, {impl.OpIDiv, 1, 0, nil}, {impl.OpIDiv, 0, 0, nil}, {impl.OpIDiv, least, 0, nil},
		{impl.OpMod, 7, 3, is(vInt(1))}, {impl.OpMod, -7, 3, is(vInt(2))}, {impl.OpMod, 7, -3, is(vInt(-2))}, {impl.OpMod, -7, -3, is(vInt(-1))}, {impl.OpMod, 6, 3, is(vInt(0))}, {impl.OpMod, -6, 3, is(vInt(0))}, {impl.OpMod, least, -1, is(vInt(0))}, {impl.OpMod, least, most, is(vInt(most - 1))}, {impl.OpMod, 5, 0, nil}, {impl.OpMod, 0, 0, nil},
		{impl.OpAnd, 12, 10, is(vInt(8))}, {impl.OpOr, 12, 10, is(vInt(14))}, {impl.OpXor, 12, 10, is(vInt(6))}, {impl.OpAnd, -1, least, is(vInt(least))}, {impl.OpOr, least, most, is(vInt(-1))}, {impl.OpXor, -1, most, is(vInt(least))},
		{impl.OpShl, 1, 0, is(vInt(1))}, {impl.OpShl, 3, 2, is(vInt(12))}, {impl.OpShl, 1, 63, is(vInt(least))}, {impl.OpShl, 3, 63, is(vInt(least))}, {impl.OpShl, 1, 64, is(vInt(0))}, {impl.OpShl, -1, 65, is(vInt(0))}, {impl.OpShl, -1, 1 << 32, is(vInt(0))}, {impl.OpShl, 1, most, is(vInt(0))}, {impl.OpShl, 1, -1, nil}, {impl.OpShl, 0, -64, nil}, {impl.OpShl, 1, least, nil},
		{impl.OpShr, 12, 2, is(vInt(3))}, {impl.OpShr, -1, 0, is(vInt(-1))}, {impl.OpShr, -1, 1, is(vInt(most))}, {impl.OpShr, -1, 63, is(vInt(1))}, {impl.OpShr, least, 63, is(vInt(1))}, {impl.OpShr, -1, 64, is(vInt(0))}, {impl.OpShr, -1, 1 << 32, is(vInt(0))}, {impl.OpShr, -1, most, is(vInt(0))}, {impl.OpShr, 8, -1, nil}, {impl.OpShr, 0, least, nil},
		{impl.OpEq, 2, 2, is(vBool(true))}, {impl.OpEq, 2, 3, is(vBool(false))}, {impl.OpNe, 2, 2, is(vBool(false))}, {impl.OpNe, 2, 3, is(vBool(true))},
		{impl.OpLt, 2, 3, is(vBool(true))}, {impl.OpLt, 3, 3, is(vBool(false))}, {impl.OpLt, 4, 3, is(vBool(false))}, {impl.OpLe, 2, 3, is(vBool(true))}, {impl.OpLe, 3, 3, is(vBool(true))}, {impl.OpLe, 4, 3, is(vBool(false))},
		{impl.OpGt, 2, 3, is(vBool(false))}, {impl.OpGt, 3, 3, is(vBool(false))}, {impl.OpGt, 4, 3, is(vBool(true))}, {impl.OpGe, 2, 3, is(vBool(false))}, {impl.OpGe, 3, 3, is(vBool(true))}, {impl.OpGe, 4, 3, is(vBool(true))},
		{impl.OpLt, least, most, is(vBool(true))}, {impl.OpGt, most, least, is(vBool(true))}, {impl.OpEq, two53, two53 + 1, is(vBool(false))}, {impl.OpLt, most - 1, most, is(vBool(true))},
		{impl.OpJoin, 1, -2, is(vStr("1-2"))}, {impl.OpJoin, least, most, is(vStr("-92233720368547758089223372036854775807"))},
	} {
		list = append(list, reckoning{fmt.Sprintf("op %d of %d and %d", c.op, c.a, c.b), two(c.op, number(c.a), number(c.b)), c.want})
	}
	wantReckonings(t, list)
	wantReckonings(t, []reckoning{
		{"- 5", one(impl.OpNeg, number(5)), is(vInt(-5))}, {"- 0", one(impl.OpNeg, number(0)), is(vInt(0))}, {"- least", one(impl.OpNeg, number(least)), is(vInt(least))},
		{"flip 0", one(impl.OpFlip, number(0)), is(vInt(-1))}, {"flip least", one(impl.OpFlip, number(least)), is(vInt(most))}, {"flip 5", one(impl.OpFlip, number(5)), is(vInt(-6))},
		{"len 5", one(impl.OpLen, number(5)), nil},
	})
}

func TestConstsOfFloats(t *testing.T) {
	inf, zero := math.Inf(1), minusZero()
	num := func(x any) twig {
		if n, ok := x.(int); ok {
			return number(int64(n))
		}
		return flt(x.(float64))
	}
	type pair struct {
		op   int
		a, b any
		want *impl.Value
	}
	var list []reckoning
	for _, c := range []pair{
		{impl.OpAdd, 0.1, 0.2, is(vFlt(0.30000000000000004))}, {impl.OpAdd, 1, 0.5, is(vFlt(1.5))}, {impl.OpAdd, 0.5, 1, is(vFlt(1.5))}, {impl.OpAdd, two53 + 1, 0.0, is(vFlt(two53))}, {impl.OpAdd, two53 + 3, 0.0, is(vFlt(two53 + 4))}, {impl.OpAdd, most, 0.0, is(vFlt(1 << 63))}, {impl.OpAdd, 0, zero, is(vFlt(0))}, {impl.OpAdd, zero, zero, is(vFlt(zero))}, {impl.OpAdd, math.MaxFloat64, math.MaxFloat64, is(vFlt(inf))},
		{impl.OpSub, zero, 0, is(vFlt(zero))}, {impl.OpSub, 0, 0.0, is(vFlt(0))}, {impl.OpSub, 1.0, 1, is(vFlt(0))}, {impl.OpSub, -inf, inf, is(vFlt(-inf))},
		{impl.OpMul, 0.0, -1, is(vFlt(zero))}, {impl.OpMul, 0, -1.0, is(vFlt(zero))}, {impl.OpMul, 2, 1.5, is(vFlt(3))}, {impl.OpMul, 5e-324, 0.5, is(vFlt(0))}, {impl.OpMul, 5e-324, 0.75, is(vFlt(5e-324))}, {impl.OpMul, 1e200, -1e200, is(vFlt(-inf))},
		{impl.OpDiv, 1.0, 0, is(vFlt(inf))}, {impl.OpDiv, 1, zero, is(vFlt(-inf))}, {impl.OpDiv, 1, -inf, is(vFlt(zero))}, {impl.OpDiv, 1, 3.0, is(vFlt(1.0 / 3.0))}, {impl.OpDiv, 7.5, 2, is(vFlt(3.75))},
		{impl.OpIDiv, 7.5, 2, is(vFlt(3))}, {impl.OpIDiv, -7.5, 2, is(vFlt(-4))}, {impl.OpIDiv, 7, -2.0, is(vFlt(-4))}, {impl.OpIDiv, 6.0, 2, is(vFlt(3))}, {impl.OpIDiv, 1.0, 0, is(vFlt(inf))}, {impl.OpIDiv, -1, 0.0, is(vFlt(-inf))}, {impl.OpIDiv, zero, 1, is(vFlt(zero))}, {impl.OpIDiv, 0.5, 1, is(vFlt(0))}, {impl.OpIDiv, -0.5, 1, is(vFlt(-1))}, {impl.OpIDiv, -1, inf, is(vFlt(zero))}, {impl.OpIDiv, 1e300, 1, is(vFlt(1e300))}, {impl.OpIDiv, -5e-324, 1, is(vFlt(-1))},
		{impl.OpMod, 5.5, 2, is(vFlt(1.5))}, {impl.OpMod, -5.5, 2, is(vFlt(0.5))}, {impl.OpMod, 5.5, -2, is(vFlt(-0.5))}, {impl.OpMod, -5.5, -2.0, is(vFlt(-1.5))}, {impl.OpMod, 1.0, 0.1, is(vFlt(0))}, {impl.OpMod, 1, 0.1, is(vFlt(0))}, {impl.OpMod, 0.3, 0.1, is(vFlt(0.3 - float64(2)*0.1))}, {impl.OpMod, zero, 1, is(vFlt(0))}, {impl.OpMod, 5.0, inf, nil}, {impl.OpMod, inf, 1, nil}, {impl.OpMod, -6.0, 3, is(vFlt(0))},
		{impl.OpAnd, 1.0, 1, nil}, {impl.OpOr, 1, 1.0, nil}, {impl.OpXor, 1.0, 1.0, nil}, {impl.OpShl, 1, 1.0, nil}, {impl.OpShl, 1.0, 1, nil}, {impl.OpShr, 1.0, 1, nil}, {impl.OpShr, 1, 1.0, nil}, {impl.OpShr, 1, zero, nil},
	} {
		list = append(list, reckoning{fmt.Sprintf("op %d of %v and %v", c.op, c.a, c.b), two(c.op, num(c.a), num(c.b)), c.want})
	}
	wantReckonings(t, list)
	wantReckonings(t, []reckoning{
		{"- 0.0", one(impl.OpNeg, flt(0)), is(vFlt(zero))}, {"- -0.0", one(impl.OpNeg, flt(zero)), is(vFlt(0))}, {"- inf", one(impl.OpNeg, flt(inf)), is(vFlt(-inf))}, {"- 1.5", one(impl.OpNeg, flt(1.5)), is(vFlt(-1.5))},
		{"flip 1.0", one(impl.OpFlip, flt(1)), nil}, {"len 1.0", one(impl.OpLen, flt(1)), nil},
	})
}

func TestConstsOfComparisons(t *testing.T) {
	inf, zero := math.Inf(1), minusZero()
	end := float64(1 << 63)
	// Each with how the first stands to the second.
	for i, c := range []struct {
		a, b  twig
		order int
	}{
		{number(1), flt(1), 0}, {number(0), flt(zero), 0}, {flt(0), flt(zero), 0}, {flt(1.5), number(1), 1}, {flt(-1.5), number(-1), -1}, {flt(-1.5), number(-2), 1},
		{number(two53), flt(two53), 0}, {number(two53 + 1), flt(two53), 1}, {number(two53 - 1), flt(two53), -1}, {number(two53 + 1), flt(two53 + 2), -1}, {number(-two53 - 1), flt(-two53), -1}, {number(-two53), flt(-two53), 0},
		{number(most), flt(end), -1}, {number(most - 1023), flt(math.Nextafter(end, 0)), 0}, {number(most), flt(math.Nextafter(end, 0)), 1}, {number(least), flt(-end), 0}, {number(least + 1), flt(-end), 1}, {number(least), flt(math.Nextafter(-end, -inf)), 1}, {number(least), flt(math.Nextafter(-end, 0)), -1},
		{number(most), flt(inf), -1}, {number(least), flt(-inf), 1}, {number(0), flt(5e-324), -1}, {number(0), flt(-5e-324), 1}, {number(most), flt(1e300), -1}, {number(most), flt(-1e300), 1},
		{flt(inf), flt(inf), 0}, {flt(-inf), flt(inf), -1}, {flt(1), flt(math.Nextafter(1, 2)), -1},
		{str(""), str(""), 0}, {str(""), str("a"), -1}, {str("a"), str("ab"), -1}, {str("b"), str("ab"), 1}, {str("B"), str("a"), -1}, {str("\xff"), str("z"), 1}, {str("a\x00"), str("a"), 1}, {str("10"), str("9"), -1},
	} {
		for _, turned := range []bool{false, true} {
			a, b, order := c.a, c.b, c.order
			if turned {
				a, b, order = b, a, -order
			}
			answers := map[int]bool{impl.OpEq: order == 0, impl.OpNe: order != 0, impl.OpLt: order < 0, impl.OpLe: order <= 0, impl.OpGt: order > 0, impl.OpGe: order >= 0}
			for op, want := range answers {
				wantConsts(t, fmt.Sprintf("case %d, turned %v, op %d", i, turned, op), body(fixes(1, "K", two(op, a, b))), is(vBool(want)))
			}
		}
	}
}

// Values of kinds that are not alike: they can be the same or not, and nothing else.
func TestConstsOfKindsThatDoNotFit(t *testing.T) {
	kinds := []twig{void(), no(), yes(), number(0), number(1), flt(2.5), str(""), str("1"), word("print"), word("read")}
	for i, a := range kinds {
		for op, fits := range map[int]bool{impl.OpNeg: i >= 3 && i <= 5, impl.OpFlip: i == 3 || i == 4, impl.OpNot: true, impl.OpLen: i == 6 || i == 7} {
			got := impl.Consts(lay(body(fixes(1, "K", one(op, a)))))
			if len(got) != 1 || (got[0].Code == 0) != fits || !fits && got[0].Value != (impl.Value{}) {
				t.Errorf("op %d of kind %d: %v", op, i, got)
			}
		}
		for j, b := range kinds {
			wantConsts(t, fmt.Sprintf("kinds %d and %d, the same", i, j), body(fixes(1, "K", two(impl.OpEq, a, b)), fixes(2, "L", two(impl.OpNe, a, b))), is(vBool(i == j)), is(vBool(i != j)))
			isNum, isStr := i >= 3 && i <= 5 && j >= 3 && j <= 5, (i == 6 || i == 7) && (j == 6 || j == 7)
			for op := impl.OpAdd; op <= impl.OpGe; op++ {
				fits := op == impl.OpEq || op == impl.OpNe
				switch {
				case op <= impl.OpDiv:
					fits = isNum
				case op == impl.OpIDiv || op == impl.OpMod:
					fits = isNum && (j != 3 || i == 5 && op == impl.OpIDiv)
				case op <= impl.OpShr:
					fits = isNum && i < 5 && j < 5
				case op == impl.OpJoin:
					fits = i >= 3 && i <= 7 && j >= 3 && j <= 7
				case op >= impl.OpLt:
					fits = isNum || isStr
				}
				if op == impl.OpDiv && i == 3 && j == 3 {
					fits = false
				}
				got := impl.Consts(lay(body(fixes(1, "K", two(op, a, b)))))
				if len(got) != 1 || (got[0].Code == 0) != fits || got[0].Code > 1 || !fits && got[0].Value != (impl.Value{}) {
					t.Errorf("op %d of kinds %d and %d: %v", op, i, j, got)
				}
			}
		}
	}
}

func TestConstsOfJoins(t *testing.T) {
	text := func(f float64) twig { return two(impl.OpJoin, flt(f), str("")) }
	long := func(n int) twig { return str(strings.Repeat("x", n)) }
	wantReckonings(t, []reckoning{
		{"two texts", two(impl.OpJoin, str("ab"), str("c")), is(vStr("abc"))}, {"two empty ones", two(impl.OpJoin, str(""), str("")), is(vStr(""))},
		{"1.5", text(1.5), is(vStr("3p-1"))}, {"-8.0", text(-8), is(vStr("-1p3"))}, {"1.0", text(1), is(vStr("1p0"))}, {"6.0", text(6), is(vStr("3p1"))}, {"0.1", text(0.1), is(vStr("3602879701896397p-55"))},
		{"inf", text(math.Inf(1)), is(vStr("inf"))}, {"-inf", text(math.Inf(-1)), is(vStr("-inf"))}, {"0.0", text(0), is(vStr("0p0"))}, {"-0.0", text(minusZero()), is(vStr("-0p0"))},
		{"the least", text(5e-324), is(vStr("1p-1074"))}, {"the greatest", text(-math.MaxFloat64), is(vStr("-9007199254740991p971"))}, {"the least of full width", text(math.Ldexp(1, -1022)), is(vStr("1p-1022"))}, {"below full width", text(math.Ldexp(3, -1074)), is(vStr("3p-1074"))}, {"2^53 less 1", text(two53 - 1), is(vStr("9007199254740991p0"))}, {"2^53", text(two53), is(vStr("1p53"))},
		{"int and float", two(impl.OpJoin, number(-3), flt(2.5)), is(vStr("-35p-1"))}, {"float and int", two(impl.OpJoin, flt(2.5), number(3)), is(vStr("5p-13"))},
		{"4000", two(impl.OpJoin, long(2000), long(2000)), is(vStr(strings.Repeat("x", 4000)))}, {"4001", two(impl.OpJoin, long(2000), long(2001)), nil}, {"4000 and none", two(impl.OpJoin, long(4000), str("")), is(vStr(strings.Repeat("x", 4000)))},
		{"none and 4000", two(impl.OpJoin, str(""), long(4000)), is(vStr(strings.Repeat("x", 4000)))}, {"3999 and a digit", two(impl.OpJoin, long(3999), number(7)), is(vStr(strings.Repeat("x", 3999) + "7"))}, {"3999 and two digits", two(impl.OpJoin, long(3999), number(10)), nil}, {"8000", two(impl.OpJoin, long(4000), long(4000)), nil},
		{"len of 4000", one(impl.OpLen, long(4000)), is(vInt(4000))}, {"len of none", one(impl.OpLen, str("")), is(vInt(0))}, {"len of two bytes", one(impl.OpLen, str("\u00e9")), is(vInt(2))},
	})
	statements := []twig{fixes(1, "s", str("x"))}
	values := []*impl.Value{is(vStr("x"))}
	for n := 2; n <= 8192; n *= 2 {
		statements = append(statements, fixes(1, "s", two(impl.OpJoin, word("s"), word("s"))))
		if n <= 4000 {
			values = append(values, is(vStr(strings.Repeat("x", n))))
		} else {
			values = append(values, nil)
		}
	}
	wantConsts(t, "twice as long each time", body(statements...), values...)
}
