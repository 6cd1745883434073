package tests

import (
	"fmt"
	"testing"

	"loop.example/reed/impl"
)

// seconds has expressions that are no literal and make no fn, and what each is where it has to give one value.
func seconds() map[string][2]sprout {
	f := builtin(impl.BPrint)
	list := map[string][2]sprout{
		"a call":                {call(f, use(0)), single(call(f, use(0)))},
		"rest":                  {rest(), single(rest())},
		"a call of and":         {call(and(truly(), use(0)), and(truly(), rest())), single(call(use(0), single(rest())))},
		"an and of a call":      {and(truly(), call(f)), single(call(f))},
		"an or of rest":         {or(null(), rest()), single(rest())},
		"an and that stays":     {and(use(0), call(f)), and(use(0), call(f))},
		"an or that stays":      {or(call(f), rest()), or(call(f), rest())},
		"a sum":                 {binary(impl.OpAdd, whole(1), whole(2)), whole(3)},
		"a join":                {binary(impl.OpJoin, whole(1), whole(2)), binary(impl.OpJoin, whole(1), whole(2))},
		"an and that is false":  {and(null(), call(f)), null()},
		"a table with a call":   {ex(impl.NTable, whole(1), call(f)).op(1), ex(impl.NTable, whole(1), call(f)).op(1)},
		"an index of a call":    {ex(impl.NIndex, call(f), rest()), ex(impl.NIndex, call(f), rest())},
		"a sum of a call":       {unary(impl.OpNeg, call(f)), unary(impl.OpNeg, call(f))},
		"one value of a choice": {single(call(f, or(use(0), and(truly(), use(1))))), single(call(f, or(use(0), use(1))))},
	}
	for what, s := range map[string]sprout{"a variable": use(0), "one of a call": single(call(f)), "one of rest": single(rest()), "an index": ex(impl.NIndex, use(0), use(1)), "a table": ex(impl.NTable)} {
		list[what] = [2]sprout{s, s}
	}
	return list
}

// makers has expressions that make fn 1, and what each is where it has to give one value.
func makers() map[string][2]sprout {
	list := map[string][2]sprout{
		"called":                 {call(fn(1)), single(call(fn(1)))},
		"an argument":            {call(use(0), fn(1)), single(call(use(0), fn(1)))},
		"chosen":                 {and(truly(), fn(1)), fn(1)},
		"chosen and called":      {or(falsely(), call(fn(1))), single(call(fn(1)))},
		"behind what is false":   {and(null(), fn(1)), and(null(), fn(1))},
		"behind what is true":    {or(whole(0), call(fn(1))), or(whole(0), call(fn(1)))},
		"far below":              {ex(impl.NTable, whole(1), unary(impl.OpNot, ex(impl.NIndex, use(0), and(use(0), fn(1))))), ex(impl.NTable, whole(1), unary(impl.OpNot, ex(impl.NIndex, use(0), and(use(0), fn(1)))))},
		"a join, and a sum":      {binary(impl.OpJoin, binary(impl.OpAdd, whole(1), whole(1)), fn(1)), binary(impl.OpJoin, whole(2), fn(1))},
		"one value":              {single(call(fn(1))), single(call(fn(1)))},
		"in a false one, itself": {and(falsely(), or(truly(), fn(1))), and(falsely(), or(truly(), fn(1)))},
	}
	list["plain"] = [2]sprout{fn(1), fn(1)}
	return list
}

func TestFoldOfChoicesThatGoOn(t *testing.T) {
	for what, s := range seconds() {
		for i, first := range trueLiterals() {
			wantGives(t, fmt.Sprintf("%s behind true literal %d of and", what, i), and(first, s[0]), s[1])
		}
		for i, first := range falseLiterals() {
			wantGives(t, fmt.Sprintf("%s behind false literal %d of or", what, i), or(first, s[0]), s[1])
		}
	}
	for what, s := range makers() {
		wantGives(t, what+" behind true of and", and(whole(0), s[0]), s[1])
		wantGives(t, what+" behind false of or", or(null(), s[0]), s[1])
	}
	for i, second := range append(trueLiterals(), falseLiterals()...) {
		wantGives(t, fmt.Sprintf("literal %d behind true of and", i), and(truly(), second), second)
		wantGives(t, fmt.Sprintf("literal %d behind false of or", i), or(falsely(), second), second)
	}
}

func TestFoldOfChoicesThatEnd(t *testing.T) {
	for what, s := range seconds() {
		for i, first := range falseLiterals() {
			wantGives(t, fmt.Sprintf("%s behind false literal %d of and", what, i), and(first, s[0]), first)
		}
		for i, first := range trueLiterals() {
			wantGives(t, fmt.Sprintf("%s behind true literal %d of or", what, i), or(first, s[0]), first)
		}
	}
	// A fn that is made stays made, where it can't be.
	for what, s := range makers() {
		second := s[0]
		if s[0].node.Kind != impl.NCall {
			second = s[1]
		}
		for i, first := range falseLiterals() {
			wantGives(t, fmt.Sprintf("%s behind false literal %d of and", what, i), and(first, s[0]), and(first, second))
		}
		for i, first := range trueLiterals() {
			wantGives(t, fmt.Sprintf("%s behind true literal %d of or", what, i), or(first, s[0]), or(first, second))
		}
	}
}

// The first only becomes a literal by folding.
func TestFoldOfChoicesWhoseFirstIsFolded(t *testing.T) {
	f := call(builtin(impl.BPrint))
	yes := []sprout{binary(impl.OpLt, whole(1), whole(2)), unary(impl.OpNot, null()), and(truly(), quote("")), or(null(), whole(0)), or(whole(3), f), and(truly(), unary(impl.OpNeg, real(0)))}
	no := []sprout{binary(impl.OpGt, whole(1), whole(2)), unary(impl.OpNot, whole(0)), and(null(), f), or(falsely(), null()), and(falsely(), use(0)), or(null(), binary(impl.OpEq, whole(1), quote("1")))}
	folded := func(s sprout) sprout {
		nodes := foldKept(t, "first", unitFor(give(s))).Fns[0].Nodes
		return sprout{node: nodes[len(nodes)-3]}
	}
	for i := range yes {
		wantGives(t, fmt.Sprintf("and %d", i), and(yes[i], f), single(f))
		wantGives(t, fmt.Sprintf("or %d", i), or(no[i], f), single(f))
		wantGives(t, fmt.Sprintf("and %d, variable", i), and(yes[i], use(1)), use(1))
		wantGives(t, fmt.Sprintf("or %d, rest", i), or(no[i], rest()), single(rest()))
		wantGives(t, fmt.Sprintf("and %d, ends", i), and(no[i], f), folded(no[i]))
		wantGives(t, fmt.Sprintf("or %d, ends", i), or(yes[i], f), folded(yes[i]))
		wantGives(t, fmt.Sprintf("and %d, fn", i), and(no[i], fn(1)), and(folded(no[i]), fn(1)))
		wantGives(t, fmt.Sprintf("or %d, fn", i), or(yes[i], fn(1)), or(folded(yes[i]), fn(1)))
	}
}

// A choice whose first is no literal stays, whatever its second is.
func TestFoldOfChoicesThatStay(t *testing.T) {
	f := call(builtin(impl.BPrint))
	for what, first := range map[string]sprout{
		"a variable": use(0), "a call": f, "rest": rest(), "one": single(rest()), "a table": ex(impl.NTable), "a join": binary(impl.OpJoin, quote("a"), quote("b")),
		"a NaN": binary(impl.OpDiv, whole(0), whole(0)), "an error": binary(impl.OpMod, whole(1), whole(0)), "a fn": fn(1), "an and": and(use(0), null()), "a false and of a fn": and(null(), fn(1)),
	} {
		for _, second := range []sprout{truly(), null(), use(1), f, rest()} {
			wantGives(t, what+", and", and(first, second), and(first, second))
			wantGives(t, what+", or", or(first, second), or(first, second))
		}
	}
}

func TestFoldOfChoicesInOneAnother(t *testing.T) {
	f := call(builtin(impl.BPrint))
	wantSums(t, []sum{
		{"ands", and(truly(), and(truly(), and(truly(), f))), single(f)},
		{"ands, the other way", and(and(and(truly(), whole(1)), whole(2)), f), single(f)},
		{"ors", or(or(null(), falsely()), or(null(), rest())), single(rest())},
		{"an or that begins with what is left", or(and(truly(), f), whole(1)), or(single(f), whole(1))},
		{"a choice as an operand", binary(impl.OpAdd, and(truly(), f), or(whole(2), f)), binary(impl.OpAdd, single(f), whole(2))},
		{"a choice of operands", binary(impl.OpAdd, and(truly(), whole(1)), or(null(), whole(2))), whole(3)},
		{"called", call(and(truly(), f), or(null(), rest())), call(single(f), single(rest()))},
		{"last of a table", ex(impl.NTable, whole(1), or(null(), f)), ex(impl.NTable, whole(1), single(f))},
		{"not", unary(impl.OpNot, and(null(), f)), truly()},
		{"a fn in an inner one", and(and(null(), fn(1)), f), and(and(null(), fn(1)), f)},
		{"a fn in a second", and(truly(), and(null(), fn(1))), and(null(), fn(1))},
		{"two fns", or(and(truly(), fn(1)), and(whole(1), fn(2))), or(fn(1), fn(2))},
		{"what stands inside of what goes", or(truly(), and(truly(), binary(impl.OpAdd, whole(1), f))), truly()},
	})
}
