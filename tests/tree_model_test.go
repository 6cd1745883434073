package tests

import (
	"fmt"
	"math"
	"regexp"
	"slices"
	"strings"

	"loop.example/reed/impl"
)

// A second reading of the document's chapter 2, built another way than the program: kids by patterns, the order by laying the walk of each part down whole, depth by climbing.

const wordsThatAreNoNames = "and break catch const defer elif else false fn for if in let next nil not or return throw true try while"

var nameShape = regexp.MustCompile(`\A[A-Za-z_][A-Za-z0-9_]{0,39}\z`)

func modelName(text string) bool {
	return nameShape.MatchString(text) && !slices.Contains(strings.Fields(wordsThatAreNoNames), text)
}

// partRows has a pattern for all but SSet, whose Num changes it; least and lot are of Names.
func partRows() map[int]row {
	e, plain := span(20, 37), "["+letter(20)+"-"+letter(26)+letter(28)+"-"+letter(37)+"]"
	b, call := oneOf(impl.SBlock), oneOf(impl.ECall)
	rows := map[int]row{
		impl.SBlock: {"", 0, 0, span(1, 16) + "*"}, impl.SLet: {"names", 1, 200, e + "*"},
		impl.SConst: {"names", 1, 1, e}, impl.SFn: {"names", 1, 1, oneOf(impl.EFn)}, impl.SSet: {"num", 0, 0, ""},
		impl.SDo: {"", 0, 0, call}, impl.SDefer: {"", 0, 0, call},
		impl.SIf: {"", 0, 0, e + b + oneOf(impl.SBlock, impl.SIf) + "?"}, impl.SWhile: {"", 0, 0, e + b},
		impl.SFor: {"names", 1, 1, e + e + e + "?" + b}, impl.SEach: {"names", 1, 200, e + b},
		impl.SReturn: {"", 0, 0, e + "*"}, impl.STry: {"names", 1, 2, b + b}, impl.SThrow: {"", 0, 0, e},
		impl.EInt: {"num", 0, 0, ""}, impl.EFlt: {"flt", 0, 0, ""}, impl.EStr: {"text", 0, 0, ""}, impl.EName: {"text", 0, 0, ""},
		impl.EAnd: {"", 0, 0, e + e}, impl.EOr: {"", 0, 0, e + e}, impl.EUnary: {"op", 0, 0, e}, impl.EBinary: {"op", 0, 0, e + e},
		impl.EIndex: {"", 0, 0, plain + e}, impl.EField: {"text", 0, 0, plain}, impl.ECall: {"", 0, 0, plain + e + "*"},
		impl.ETable: {"", 0, 0, span(40, 42) + "*"}, impl.EFn: {"op names", 0, 200, b},
		impl.EOne:  {"", 0, 0, oneOf(impl.ECall, impl.ERest)},
		impl.NItem: {"", 0, 0, e}, impl.NPair: {"", 0, 0, e + e}, impl.NNamed: {"text", 0, 0, e},
	}
	for _, kind := range []int{impl.SBreak, impl.SNext, impl.ENil, impl.ETrue, impl.EFalse, impl.ERest} {
		rows[kind] = row{}
	}
	return rows
}

var allPartRows = partRows()

func partPattern(p impl.Part) string {
	if p.Kind != impl.SSet {
		return allPartRows[p.Kind].kids
	}
	if p.Num < 1 || p.Num > impl.MaxKids {
		return letter(0) + letter(0)
	}
	return fmt.Sprintf("%s{%d}%s+", oneOf(impl.EName, impl.EIndex, impl.EField), p.Num, span(20, 37))
}

func modelRow(parts []impl.Part, place int) bool {
	p := parts[place]
	r, ok := allPartRows[p.Kind]
	if !ok || len(p.Kids) > 200 || len(p.Names) < r.least || len(p.Names) > r.lot {
		return false
	}
	if p.From < 0 || p.To < p.From || p.Line < 0 || p.Line > 100000 || p.Kind < 20 && p.Line == 0 {
		return false
	}
	if slices.ContainsFunc(p.Names, func(name string) bool { return !modelName(name) }) || !modelPartFields(p, r) {
		return false
	}
	var kinds []int
	for _, k := range p.Kids {
		if k < 0 || k >= place {
			return false
		}
		kinds = append(kinds, parts[k].Kind)
	}
	return matches(partPattern(p), kinds)
}

func modelPartFields(p impl.Part, r row) bool {
	named := func(word string) bool { return strings.Contains(r.named, word) }
	if !named("op") && p.Op != 0 || !named("num") && p.Num != 0 || !named("text") && p.Text != "" {
		return false
	}
	if !named("flt") && math.Abs(p.Flt) > 0 || math.IsNaN(p.Flt) {
		return false
	}
	switch p.Kind {
	case impl.EUnary:
		return 19 <= p.Op && p.Op <= 22
	case impl.EBinary:
		return 1 <= p.Op && p.Op <= 18
	case impl.EFn:
		return p.Op == 0 || p.Op == 1
	case impl.EStr:
		return len(p.Text) <= 4000
	case impl.EName, impl.EField, impl.NNamed:
		return modelName(p.Text)
	}
	return true
}

// modelWalk is the parts below a part as they should stand ahead of it.
func modelWalk(parts []impl.Part, place int) []int {
	var walk []int
	for _, k := range parts[place].Kids {
		walk = append(append(walk, modelWalk(parts, k)...), k)
	}
	return walk
}

func modelOrder(parts []impl.Part, place int) bool {
	walk := modelWalk(parts, place)
	for i, k := range walk {
		if k != place-len(walk)+i {
			return false
		}
	}
	return place < len(parts)-1 || len(walk) == place
}

func depthOfPart(parts []impl.Part, place int) int {
	for n := place + 1; n < len(parts); n++ {
		if slices.Contains(parts[n].Kids, place) {
			return 1 + depthOfPart(parts, n)
		}
	}
	return 0
}

func modelWrong(t impl.Tree) impl.Wrong {
	last := len(t.Parts) - 1
	if last < 0 || last >= 3000 || t.Parts[last].Kind != impl.SBlock {
		return impl.Wrong{Code: 1}
	}
	rules := []func([]impl.Part, int) bool{
		modelRow,
		modelOrder,
		func(parts []impl.Part, n int) bool { return depthOfPart(parts, n) <= 100 },
	}
	for i, holds := range rules {
		for n := range t.Parts {
			if !holds(t.Parts, n) {
				return impl.Wrong{Code: i + 2, Part: n}
			}
		}
	}
	return impl.Wrong{}
}
