package tests

import (
	"fmt"
	"math"
	"strings"
	"testing"

	"loop.example/reed/impl"
)

// operands are values of each kind that have a literal.
func operands() []impl.Value {
	return []impl.Value{vNil(), vBool(true), vBool(false),
		vInt(0), vInt(1), vInt(-1), vInt(2), vInt(-7), vInt(63), vInt(64), vInt(most), vInt(least), vInt(two53 + 1),
		vFlt(0), vFlt(minusZero()), vFlt(1), vFlt(1.5), vFlt(-2.5), vFlt(two53), vFlt(math.MaxFloat64), vFlt(5e-324), vFlt(math.Inf(1)), vFlt(math.Inf(-1)),
		vStr(""), vStr("a"), vStr("ab"), vStr("1"), vBuiltin(0), vBuiltin(1), vBuiltin(14)}
}

// wantWorked asks what an operation on literals becomes: a literal, or what it was.
func wantWorked(t *testing.T, what string, before sprout, v impl.Value, ok bool) {
	t.Helper()
	if ok && v.Flt == v.Flt {
		wantFold(t, what, give(before), give(literal(v)))
		return
	}
	wantStays(t, what, give(before))
}

func TestFoldOfEachUnary(t *testing.T) {
	codes := map[int][2]int{}
	for op := impl.OpNeg; op <= impl.OpLen; op++ {
		for _, v := range operands() {
			got, ok := modelUnary(op, v)
			wantWorked(t, fmt.Sprintf("op %d of %v", op, v), unary(op, literal(v)), got, ok)
			c := codes[op]
			c[map[bool]int{true: 0, false: 1}[ok]]++
			codes[op] = c
		}
	}
	for op := impl.OpNeg; op <= impl.OpLen; op++ {
		if c := codes[op]; c[0] == 0 || c[1] == 0 && op != impl.OpNot {
			t.Errorf("op %d: %v", op, c)
		}
	}
}

func TestFoldOfEachBinary(t *testing.T) {
	for op := impl.OpAdd; op <= impl.OpGe; op++ {
		worked, stayed := 0, 0
		for _, a := range operands() {
			for _, b := range operands() {
				what := fmt.Sprintf("op %d of %v and %v", op, a, b)
				x := binary(op, literal(a), literal(b))
				if op == impl.OpJoin {
					wantStays(t, what, give(x))
					continue
				}
				got, ok := modelBinary(op, a, b)
				wantWorked(t, what, x, got, ok)
				if ok && got.Flt == got.Flt {
					worked++
				} else {
					stayed++
				}
			}
		}
		if op != impl.OpJoin && (worked == 0 || stayed == 0 && op != impl.OpEq && op != impl.OpNe) {
			t.Errorf("op %d: %d worked out, %d not", op, worked, stayed)
		}
	}
}

// sum is an operation on literals and what it should become.
type sum struct {
	what   string
	before sprout
	after  sprout
}

func wantSums(t *testing.T, list []sum) {
	t.Helper()
	for _, s := range list {
		wantGives(t, s.what, s.before, s.after)
	}
}

func TestFoldOfOperationsByHand(t *testing.T) {
	inf, one, zero := real(math.Inf(1)), whole(1), whole(0)
	wantSums(t, []sum{
		{"1 + 2", binary(impl.OpAdd, one, whole(2)), whole(3)},
		{"most + 1", binary(impl.OpAdd, whole(most), one), whole(least)},
		{"1 + 0.5", binary(impl.OpAdd, one, real(0.5)), real(1.5)},
		{"0 - 1", binary(impl.OpSub, zero, one), whole(-1)},
		{"0.0 * -1", binary(impl.OpMul, real(0), whole(-1)), real(minusZero())},
		{"-0.0 + 0.0", binary(impl.OpAdd, real(minusZero()), real(0)), real(0)},
		{"-0.0 - 0.0", binary(impl.OpSub, real(minusZero()), real(0)), real(minusZero())},
		{"6 / 4", binary(impl.OpDiv, whole(6), whole(4)), real(1.5)},
		{"1 / 0", binary(impl.OpDiv, one, zero), inf},
		{"-1 / 0.0", binary(impl.OpDiv, whole(-1), real(0)), real(math.Inf(-1))},
		{"1 / -0.0", binary(impl.OpDiv, one, real(minusZero())), real(math.Inf(-1))},
		{"0 / -1", binary(impl.OpDiv, zero, whole(-1)), real(minusZero())},
		{"the greatest float * 2", binary(impl.OpMul, real(math.MaxFloat64), whole(2)), inf},
		{"-7 idiv 2", binary(impl.OpIDiv, whole(-7), whole(2)), whole(-4)},
		{"least idiv -1", binary(impl.OpIDiv, whole(least), whole(-1)), whole(least)},
		{"-7 mod 2", binary(impl.OpMod, whole(-7), whole(2)), one},
		{"-0.0 idiv 1", binary(impl.OpIDiv, real(minusZero()), one), real(minusZero())},
		{"6 & 3", binary(impl.OpAnd, whole(6), whole(3)), whole(2)},
		{"6 | 3", binary(impl.OpOr, whole(6), whole(3)), whole(7)},
		{"6 ^ 3", binary(impl.OpXor, whole(6), whole(3)), whole(5)},
		{"1 << 63", binary(impl.OpShl, one, whole(63)), whole(least)},
		{"1 << 64", binary(impl.OpShl, one, whole(64)), zero},
		{"-1 >> 63", binary(impl.OpShr, whole(-1), whole(63)), one},
		{"1 = 1.0", binary(impl.OpEq, one, real(1)), truly()},
		{"0.0 = -0.0", binary(impl.OpEq, real(0), real(minusZero())), truly()},
		{"print = print", binary(impl.OpEq, builtin(0), builtin(0)), truly()},
		{"print = read", binary(impl.OpEq, builtin(0), builtin(1)), falsely()},
		{"print = 0", binary(impl.OpEq, builtin(0), zero), falsely()},
		{"false = 0", binary(impl.OpEq, falsely(), zero), falsely()},
		{"nil <> false", binary(impl.OpNe, null(), falsely()), truly()},
		{"2^53 + 1 > 2.0^53", binary(impl.OpGt, whole(two53+1), real(two53)), truly()},
		{"a < ab", binary(impl.OpLt, quote("a"), quote("ab")), truly()},
		{"- 0.0", unary(impl.OpNeg, real(0)), real(minusZero())},
		{"- -0.0", unary(impl.OpNeg, real(minusZero())), real(0)},
		{"- least", unary(impl.OpNeg, whole(least)), whole(least)},
		{"- inf", unary(impl.OpNeg, inf), real(math.Inf(-1))},
		{"~ 0", unary(impl.OpFlip, zero), whole(-1)},
		{"not nil", unary(impl.OpNot, null()), truly()},
		{"not 0", unary(impl.OpNot, zero), falsely()},
		{"not print", unary(impl.OpNot, builtin(0)), falsely()},
		{"len of a text", unary(impl.OpLen, quote("a\x00\xff")), whole(3)},
		{"len of a long text", unary(impl.OpLen, quote(strings.Repeat("x", impl.MaxStr))), whole(impl.MaxStr)},
	})
}

// What has no value, and what has one that no literal has, is left for the run.
func TestFoldOfOperationsThatStay(t *testing.T) {
	inf, one, zero, nan := real(math.Inf(1)), whole(1), whole(0), binary(impl.OpDiv, whole(0), whole(0))
	for what, x := range map[string]sprout{
		"1 idiv 0": binary(impl.OpIDiv, one, zero), "1 mod 0": binary(impl.OpMod, one, zero),
		"1 << -1": binary(impl.OpShl, one, whole(-1)), "1 >> least": binary(impl.OpShr, one, whole(least)),
		"1 & 1.0": binary(impl.OpAnd, one, real(1)), "1 + text": binary(impl.OpAdd, one, quote("1")), "nil + nil": binary(impl.OpAdd, null(), null()),
		"1 < text": binary(impl.OpLt, one, quote("1")), "true >= false": binary(impl.OpGe, truly(), falsely()), "print < read": binary(impl.OpLt, builtin(0), builtin(1)),
		"- text": unary(impl.OpNeg, quote("1")), "~ 1.0": unary(impl.OpFlip, real(1)), "len 1": unary(impl.OpLen, one), "len nil": unary(impl.OpLen, null()),
		"0 / 0": nan, "0.0 / -0.0": binary(impl.OpDiv, real(0), real(minusZero())), "inf - inf": binary(impl.OpSub, inf, inf), "inf * 0": binary(impl.OpMul, inf, zero),
		"1.0 mod 0": binary(impl.OpMod, real(1), zero), "0.0 idiv 0": binary(impl.OpIDiv, real(0), zero), "inf idiv inf": binary(impl.OpIDiv, inf, inf),
		"- NaN": unary(impl.OpNeg, nan), "not NaN": unary(impl.OpNot, nan), "NaN = NaN": binary(impl.OpEq, nan, nan), "NaN < 1": binary(impl.OpLt, nan, one),
		"join of texts": binary(impl.OpJoin, quote("a"), quote("b")), "join of nothing": binary(impl.OpJoin, quote(""), quote("")),
		"join of numbers": binary(impl.OpJoin, one, real(1.5)), "join of what can't be": binary(impl.OpJoin, null(), truly()),
		"join that is too long":  binary(impl.OpJoin, quote(strings.Repeat("x", 4000)), quote("x")),
		"join of joins":          binary(impl.OpJoin, binary(impl.OpJoin, one, one), binary(impl.OpJoin, one, one)),
		"len of a join":          unary(impl.OpLen, binary(impl.OpJoin, quote("a"), quote("b"))),
		"not of a join":          unary(impl.OpNot, binary(impl.OpJoin, quote("a"), quote("b"))),
		"a join, compared":       binary(impl.OpEq, binary(impl.OpJoin, quote("a"), quote("b")), quote("ab")),
		"a join that goes first": and(binary(impl.OpJoin, quote("a"), quote("b")), one),
		"NaN that goes first":    or(nan, one),
		"a variable":             binary(impl.OpAdd, use(0), one), "a variable, second": binary(impl.OpAdd, one, use(0)), "a variable and itself": binary(impl.OpEq, use(0), use(0)),
		"not of a variable": unary(impl.OpNot, use(0)), "times 0": binary(impl.OpMul, use(0), zero), "rest": unary(impl.OpNot, rest()),
		"a call": binary(impl.OpEq, call(builtin(0)), one), "not of a call": unary(impl.OpNot, call(builtin(0))), "one of a call": unary(impl.OpNot, single(call(builtin(0)))),
		"a table": unary(impl.OpNot, ex(impl.NTable)), "len of a table": unary(impl.OpLen, ex(impl.NTable)), "a table and nil": binary(impl.OpEq, ex(impl.NTable), null()),
		"a fn": unary(impl.OpNot, fn(1)), "a fn and nil": binary(impl.OpNe, null(), fn(1)), "an index of literals": ex(impl.NIndex, quote("a"), one),
		"a call of literals": call(quote("a"), one), "a table of literals": ex(impl.NTable, one, one),
	} {
		wantGives(t, what, x, x)
	}
}

func TestFoldOfOperationsInOneAnother(t *testing.T) {
	join := func(x, y sprout) sprout { return binary(impl.OpJoin, x, y) }
	three := binary(impl.OpAdd, whole(1), whole(2))
	nan := binary(impl.OpDiv, whole(0), whole(0))
	wantSums(t, []sum{
		{"two sums", binary(impl.OpMul, three, three), whole(9)},
		{"not of a sum", unary(impl.OpNot, three), falsely()},
		{"a chain", unary(impl.OpNeg, unary(impl.OpFlip, unary(impl.OpLen, quote("abc")))), whole(4)},
		{"beside a variable", binary(impl.OpAdd, three, use(0)), binary(impl.OpAdd, whole(3), use(0))},
		{"far from a variable", binary(impl.OpAdd, binary(impl.OpAdd, use(0), whole(1)), three), binary(impl.OpAdd, binary(impl.OpAdd, use(0), whole(1)), whole(3))},
		{"below a join", join(three, unary(impl.OpNot, null())), join(whole(3), truly())},
		{"below two joins", join(join(three, three), three), join(join(whole(3), whole(3)), whole(3))},
		{"a join below", binary(impl.OpEq, join(three, quote("x")), three), binary(impl.OpEq, join(whole(3), quote("x")), whole(3))},
		{"below what stays", binary(impl.OpIDiv, three, binary(impl.OpSub, whole(1), whole(1))), binary(impl.OpIDiv, whole(3), whole(0))},
		{"beside a NaN", binary(impl.OpAdd, nan, three), binary(impl.OpAdd, nan, whole(3))},
		{"a NaN of sums", binary(impl.OpDiv, binary(impl.OpSub, whole(1), whole(1)), real(0)), binary(impl.OpDiv, whole(0), real(0))},
		{"an infinity on the way", binary(impl.OpDiv, whole(1), binary(impl.OpDiv, whole(1), whole(0))), real(0)},
		{"a -0.0 on the way", binary(impl.OpDiv, whole(1), unary(impl.OpNeg, real(0))), real(math.Inf(-1))},
		{"beside a fn", binary(impl.OpEq, three, fn(1)), binary(impl.OpEq, whole(3), fn(1))},
		{"in a call", call(use(0), three, three), call(use(0), whole(3), whole(3))},
		{"in a table", ex(impl.NTable, three, three, quote("k"), call(three)), ex(impl.NTable, whole(3), whole(3), quote("k"), call(whole(3)))},
		{"in a table with an open end", ex(impl.NTable, three, three, whole(1), call(three, three)).op(1), ex(impl.NTable, whole(3), whole(3), whole(1), call(whole(3), whole(3))).op(1)},
		{"a table's last key, without an open end", ex(impl.NTable, three, call(use(0))), ex(impl.NTable, whole(3), call(use(0)))},
		{"in an index", ex(impl.NIndex, ex(impl.NTable), three), ex(impl.NIndex, ex(impl.NTable), whole(3))},
		{"in one value", single(call(three)), single(call(whole(3)))},
	})
	wantFold(t, "in all of a set", at(3, impl.NSet, ex(impl.NIndex, use(0), three), use(1), three, call(use(0), three)).num(2),
		at(3, impl.NSet, ex(impl.NIndex, use(0), whole(3)), use(1), whole(3), call(use(0), whole(3))).num(2))
	wantFold(t, "in a for", count(three, three, three, block(show(three)), 3), count(whole(3), whole(3), whole(3), block(show(whole(3))), 3))
	wantFold(t, "in an each", each(three, block(show(three)), 3, 4, 5, 6), each(whole(3), block(show(whole(3))), 3, 4, 5, 6))
	wantFold(t, "in a return of many", give(three, rest(), three, call(three)), give(whole(3), rest(), whole(3), call(whole(3))))
}

// Fields that a node does not use may be a zero of either sign; the values of literals hang on no such thing.
func TestFoldAndUnusedFloats(t *testing.T) {
	odd := func(s sprout) sprout {
		s.node.Flt = minusZero()
		return s
	}
	wantFold(t, "worked out", give(odd(binary(impl.OpAdd, odd(whole(1)), odd(whole(2))))), give(whole(3)))
	wantFold(t, "same", give(binary(impl.OpEq, odd(quote("s")), quote("s"))), give(truly()))
	wantFold(t, "same nil", give(binary(impl.OpEq, odd(null()), null())), give(truly()))
	wantFold(t, "same builtin", give(binary(impl.OpEq, odd(builtin(3)), builtin(3))), give(truly()))
	wantFold(t, "truth", give(odd(and(odd(falsely()), use(0))), and(odd(truly()), odd(use(0)))), give(odd(falsely()), odd(use(0))))
	wantFold(t, "one value", give(odd(and(odd(truly()), odd(call(use(0)))))), give(single(odd(call(use(0))))))
	wantStays(t, "what stays keeps its sign", odd(let(3, odd(use(0)), odd(use(1)))), odd(block(odd(give(odd(whole(1)))))))
}
