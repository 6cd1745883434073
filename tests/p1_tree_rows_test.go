package tests

import (
	"fmt"
	"math"
	"slices"
	"strings"
	"testing"

	"loop.example/reed/impl"
)

// wantRow asks whether a part, put into a text, is as its row says; the kids are sound, so that no other part has a fault ahead of it.
func wantRow(t *testing.T, what string, part twig, fits bool) {
	t.Helper()
	tree := lay(rooted(part))
	if fits {
		wantSound(t, what, tree)
	} else {
		wantTree(t, what, tree, 2, part.size()-1)
	}
}

// Every kind with every list of up to two kids; and with lists of up to four from kinds that stand for all classes.
func TestKidsOfParts(t *testing.T) {
	all := samples()
	parent := map[int]twig{}
	for kind, sample := range all {
		sample.kids = nil
		parent[kind] = sample
	}
	try := func(kids []int) {
		var twigs []twig
		for _, k := range kids {
			twigs = append(twigs, all[k])
		}
		for kind, p := range parent {
			p.kids = twigs
			wantRow(t, fmt.Sprintf("kind %d of kids %v", kind, kids), p, matches(partPattern(p.part), kids))
		}
	}
	kinds := kindsInOrder()
	few := []int{impl.SBlock, impl.SIf, impl.EName, impl.ERest, impl.ECall, impl.EFn, impl.NItem}
	lists := [][]int{nil}
	for length := range 5 {
		for _, list := range lists {
			try(list)
		}
		if length == 2 {
			lists = slices.DeleteFunc(lists, func(list []int) bool {
				return slices.ContainsFunc(list, func(kind int) bool { return !slices.Contains(few, kind) })
			})
			kinds = few
		}
		var longer [][]int
		for _, list := range lists {
			for _, kind := range kinds {
				longer = append(longer, append(slices.Clone(list), kind))
			}
		}
		lists = longer
	}
}

// The rows whose kids are easily mistaken, said by hand.
func TestKidsSaidByHand(t *testing.T) {
	none, rest, call := say(impl.ENil), say(impl.ERest), dial(word("f"))
	for i, c := range []struct {
		part twig
		fits bool
	}{
		{state(impl.SIf, none, body(), body()), true},
		{state(impl.SIf, none, body(), state(impl.SIf, none, body())), true},
		{state(impl.SIf, none, body(), state(impl.SWhile, none, body())), false},
		{state(impl.SIf, none, state(impl.SIf, none, body()), body()), false},
		{state(impl.SIf, none), false},
		{state(impl.SIf, none, body(), body(), body()), false},
		{state(impl.SIf, rest, body()), true},
		{state(impl.SFor, none, body()).named("i"), false},
		{state(impl.SFor, none, none, body()).named("i"), true},
		{state(impl.SFor, none, none, none, body()).named("i"), true},
		{state(impl.SFor, none, none, none, none, body()).named("i"), false},
		{state(impl.SFor, none, none, none).named("i"), false},
		{state(impl.SConst, none, none).named("c"), false},
		{state(impl.SConst).named("c"), false},
		{state(impl.SConst, say(impl.EFn, body())).named("c"), true},
		{state(impl.SFn, none).named("f"), false},
		{state(impl.SFn, word("g")).named("f"), false},
		{state(impl.SDo, none), false},
		{state(impl.SDo, say(impl.EOne, call)), false},
		{state(impl.SDefer, call), true},
		{state(impl.SDefer, word("f")), false},
		{state(impl.STry, body()).named("e"), false},
		{state(impl.STry, body(), body(), body()).named("e"), false},
		{state(impl.STry, body(), state(impl.SIf, none, body())).named("e"), false},
		{say(impl.EIndex, rest, none), false},
		{say(impl.EIndex, none, rest), true},
		{say(impl.EIndex, say(impl.EOne, rest), none), true},
		{say(impl.EField, rest).text("n"), false},
		{say(impl.EField, call).text("n"), true},
		{dial(rest), false},
		{dial(none, rest, rest), true},
		{dial(), false},
		{dial(call, call), true},
		{say(impl.EOne, none), false},
		{say(impl.EOne, call), true},
		{say(impl.EOne, rest), true},
		{say(impl.EOne, say(impl.EOne, rest)), false},
		{say(impl.ETable, none), false},
		{say(impl.ETable, say(impl.NItem, rest), say(impl.NItem, rest)), true},
		{say(impl.NItem, say(impl.NItem, none)), false},
		{say(impl.NPair, rest, rest), true},
		{say(impl.NNamed, call).text("n"), true},
		{say(impl.EFn, back()), false},
		{say(impl.EFn), false},
		{say(impl.EAnd, rest, call), true},
		{back(say(impl.NItem, none)), false},
		{back(back()), false},
		{body(none), false},
		{body(call), false},
		{body(body(), say(impl.EFn, body())), false},
	} {
		wantRow(t, fmt.Sprintf("case %d, %+v", i, c.part), c.part, c.fits)
	}
}

func TestTargetsOfSet(t *testing.T) {
	index, field := say(impl.EIndex, word("x"), number(1)), say(impl.EField, word("x")).text("y")
	set := func(num int64, kids ...twig) twig { return state(impl.SSet, kids...).num(num) }
	for i, c := range []struct {
		part twig
		fits bool
	}{
		{set(1, word("x"), number(1)), true},
		{set(1, index, number(1)), true},
		{set(1, field, number(1)), true},
		{set(3, word("x"), index, field, number(1)), true},
		{set(1, word("x"), index, field, number(1)), true},
		{set(1, word("x"), say(impl.ERest)), true},
		{set(2, word("x"), word("y"), number(1), number(2), number(3)), true},
		{set(2, word("x"), number(1), number(1)), false},
		{set(1, number(1), word("x")), false},
		{set(1, dial(word("x")), number(1)), false},
		{set(1, say(impl.ERest), number(1)), false},
		{set(0, word("x"), number(1)), false},
		{set(-1, word("x"), number(1)), false},
		{set(2, word("x"), word("y")), false},
		{set(3, word("x"), word("y")), false},
		{set(1, word("x")), false},
		{set(1), false},
		{set(0), false},
		{set(1, word("x"), back()), false},
		{set(1, word("x"), number(1), back()), false},
		{set(math.MaxInt64, word("x"), number(1)), false},
		{set(math.MinInt64, word("x"), number(1)), false},
		{set(1<<32+1, word("x"), number(1)), false},
	} {
		wantRow(t, fmt.Sprintf("case %d", i), c.part, c.fits)
	}
}

// Every field that a row does not name has to be 0 or empty, in every kind.
func TestFieldsOfParts(t *testing.T) {
	minus := math.Copysign(0, -1)
	for _, kind := range kindsInOrder() {
		named := func(word string) bool { return strings.Contains(allPartRows[kind].named, word) }
		for i, c := range []struct {
			fits  bool
			spoil func(p *impl.Part)
		}{
			{false, func(p *impl.Part) { p.Op = 23 }},
			{false, func(p *impl.Part) { p.Op = -1 }},
			{kind == impl.EFn || kind == impl.EBinary, func(p *impl.Part) { p.Op = 1 }},
			{!named("op") || kind == impl.EFn, func(p *impl.Part) { p.Op = 0 }},
			{kind == impl.EInt, func(p *impl.Part) { p.Num = math.MinInt64 }},
			{kind == impl.EInt || kind == impl.SSet, func(p *impl.Part) { p.Num = 1 }},
			{kind != impl.SSet, func(p *impl.Part) { p.Num = 0 }},
			{true, func(p *impl.Part) { p.Flt = minus }},
			{true, func(p *impl.Part) { p.Flt = 0 }},
			{kind == impl.EFlt, func(p *impl.Part) { p.Flt = 5e-324 }},
			{kind == impl.EFlt, func(p *impl.Part) { p.Flt = math.Inf(-1) }},
			{false, func(p *impl.Part) { p.Flt = math.NaN() }},
			{false, func(p *impl.Part) { p.Flt = math.Float64frombits(0xfff0000000000001) }},
			{named("text"), func(p *impl.Part) { p.Text = "t" }},
			{!named("text") || kind == impl.EStr, func(p *impl.Part) { p.Text = "" }},
			{kind == impl.EStr, func(p *impl.Part) { p.Text = "\x00" }},
			{named("names"), func(p *impl.Part) { p.Names = []string{"n"} }},
			{false, func(p *impl.Part) { p.Names = []string{""} }},
			{slices.Contains([]int{impl.SLet, impl.SEach, impl.STry, impl.EFn}, kind), func(p *impl.Part) { p.Names = []string{"n", "n"} }},
			{slices.Contains([]int{impl.SLet, impl.SEach, impl.EFn}, kind), func(p *impl.Part) { p.Names = []string{"n", "m", "o"} }},
			{!named("names") || kind == impl.EFn, func(p *impl.Part) { p.Names = nil }},
			{!named("names") || kind == impl.EFn, func(p *impl.Part) { p.Names = []string{} }},
		} {
			part := samples()[kind]
			c.spoil(&part.part)
			wantRow(t, fmt.Sprintf("kind %d, case %d", kind, i), part, c.fits)
		}
	}
}

func TestOpsOfParts(t *testing.T) {
	none := say(impl.ENil)
	for _, op := range []int{math.MinInt, -19, -1, math.MaxInt, 1 << 33} {
		wantRow(t, "unary, far", say(impl.EUnary, none).op(op), false)
		wantRow(t, "binary, far", say(impl.EBinary, none, none).op(op), false)
		wantRow(t, "fn, far", say(impl.EFn, body()).op(op), false)
	}
	for op := range 30 {
		what := fmt.Sprintf("op %d", op)
		wantRow(t, what, say(impl.EUnary, none).op(op), op >= 19 && op <= 22)
		wantRow(t, what, say(impl.EBinary, none, none).op(op), op >= 1 && op <= 18)
		wantRow(t, what, say(impl.EFn, body()).op(op), op <= 1)
	}
}

func TestKindsOfParts(t *testing.T) {
	known := samples()
	for kind := -2; kind < 70; kind++ {
		if _, ok := known[kind]; ok {
			continue
		}
		for _, line := range []int{0, 1} {
			tree := lay(body(back(number(1)), back()))
			tree.Parts[0] = impl.Part{Kind: kind, Line: line}
			wantTree(t, fmt.Sprintf("kind %d", kind), tree, 2, 0)
		}
	}
	for _, kind := range []int{math.MinInt, math.MaxInt, 1<<32 + impl.ENil} {
		wantTree(t, "far kind", lay(rooted(say(kind))), 2, 0)
	}
}

// Lists that are empty are the same whether they are nil or not.
func TestEmptyListsOfParts(t *testing.T) {
	tree := richTree()
	for n := range tree.Parts {
		p := &tree.Parts[n]
		if len(p.Kids) == 0 {
			p.Kids = []int{}
		}
		if len(p.Names) == 0 {
			p.Names = []string{}
		}
	}
	wantSound(t, "empty lists", tree)
	wantTree(t, "no parts, not nil", impl.Tree{Parts: []impl.Part{}}, 1, 0)
	part := state(impl.SLet).named()
	part.part.Names = []string{}
	wantRow(t, "a SLet of no names", part, false)
}

func TestKidsOfPartsOutside(t *testing.T) {
	for _, kid := range []int{1, 2, 3, 99, -1, math.MinInt, math.MaxInt, 1 << 32} {
		tree := lay(body(back(number(1)), back()))
		tree.Parts[1].Kids = []int{kid}
		wantTree(t, fmt.Sprintf("kid %d", kid), tree, 2, 1)
		tree.Parts[1].Kids = []int{0, kid}
		wantTree(t, fmt.Sprintf("kids 0 and %d", kid), tree, 2, 1)
		tree = lay(body(back(number(1)), back()))
		tree.Parts[3].Kids = []int{1, kid}
		if kid != 1 && kid != 2 {
			wantTree(t, fmt.Sprintf("kid %d of the last", kid), tree, 2, 3)
		}
	}
	tree := impl.Tree{Parts: []impl.Part{{Kind: impl.SBlock, Line: 1, Kids: []int{0}}}}
	wantTree(t, "its own kid", tree, 2, 0)
}
