package tests

import (
	"fmt"
	"math"
	"regexp"
	"strings"

	"loop.example/reed/impl"
)

// A second reading of the document's chapter 1.2, built another way than the program: kids by patterns, scopes by climbing from a name to the last node.

// row is a row of the tables: the fields that it names, how many Refs, and its kids as a pattern.
type row struct {
	named      string
	least, lot int
	kids       string
}

func letter(kind int) string { return string(rune(0x100 + (kind+0x1000)%0x1000)) }

func kidText(kinds []int) string {
	text := ""
	for _, kind := range kinds {
		text += letter(kind)
	}
	return text
}

func oneOf(kinds ...int) string { return "[" + kidText(kinds) + "]" }

func span(from, to int) string { return fmt.Sprintf(`[%s-%s]`, letter(from), letter(to)) }

var (
	patExpr  = span(20, 38)
	patBlock = oneOf(impl.NBlock)
	patCall  = oneOf(impl.NCall)
	patMany  = oneOf(impl.NCall, impl.NRest)
	patGoal  = oneOf(impl.NVar, impl.NUp, impl.NIndex)
)

// rowsOfTables has a pattern for all but NSet and NTable, whose own fields change it.
func rowsOfTables() map[int]row {
	const any = math.MaxInt
	e, b := patExpr, patBlock
	rows := map[int]row{
		impl.NBlock: {"kids", 0, 0, span(1, 14) + "*"}, impl.NLet: {"kids refs", 1, any, e + "*"},
		impl.NSet: {"kids num", 0, 0, ""}, impl.NDo: {"kids", 0, 0, patCall},
		impl.NIf: {"kids", 0, 0, e + b + oneOf(impl.NBlock, impl.NIf) + "?"}, impl.NWhile: {"kids", 0, 0, e + b},
		impl.NFor: {"kids refs", 1, 1, e + e + e + b}, impl.NEach: {"kids refs", 1, 4, e + b},
		impl.NReturn: {"kids", 0, 0, e + "*"}, impl.NTry: {"kids refs", 2, 2, b + b},
		impl.NThrow: {"kids", 0, 0, e}, impl.NDefer: {"kids", 0, 0, patCall},
		impl.NInt: {"num", 0, 0, ""}, impl.NFlt: {"flt", 0, 0, ""}, impl.NStr: {"str", 0, 0, ""},
		impl.NVar: {"refs", 1, 1, ""}, impl.NUp: {"refs", 1, 1, ""}, impl.NFn: {"refs", 1, 1, ""},
		impl.NBuiltin: {"num", 0, 0, ""}, impl.NAnd: {"kids", 0, 0, e + e}, impl.NOr: {"kids", 0, 0, e + e},
		impl.NUnary: {"kids op", 0, 0, e}, impl.NBinary: {"kids op", 0, 0, e + e}, impl.NIndex: {"kids", 0, 0, e + e},
		impl.NCall: {"kids", 0, 0, e + "+"}, impl.NTable: {"kids op", 0, 0, ""}, impl.NOne: {"kids", 0, 0, patMany},
	}
	for _, kind := range []int{impl.NBreak, impl.NNext, impl.NNil, impl.NTrue, impl.NFalse, impl.NRest} {
		rows[kind] = row{}
	}
	return rows
}

var (
	allRows  = rowsOfTables()
	compiled = map[string]*regexp.Regexp{}
)

func matches(pattern string, kinds []int) bool {
	if compiled[pattern] == nil {
		compiled[pattern] = regexp.MustCompile("^(" + pattern + ")$")
	}
	return compiled[pattern].MatchString(kidText(kinds))
}

func kidPattern(n impl.Node) string {
	e := patExpr
	switch {
	case n.Kind == impl.NSet && (n.Num < 1 || n.Num > impl.MaxKids):
		return letter(0) + letter(0)
	case n.Kind == impl.NSet:
		return fmt.Sprintf("%s{%d}%s+", patGoal, n.Num, e)
	case n.Kind == impl.NTable && n.Op == 0:
		return "(" + e + e + ")*"
	case n.Kind == impl.NTable:
		return "(" + e + e + ")*" + oneOf(impl.NInt) + patMany
	}
	return allRows[n.Kind].kids
}

func modelForm(nodes []impl.Node, place int) bool {
	n := nodes[place]
	r, ok := allRows[n.Kind]
	if !ok || len(n.Kids) > impl.MaxKids || len(n.Refs) < r.least || len(n.Refs) > r.lot {
		return false
	}
	least, most := 0, 0
	if n.Kind < 20 {
		least, most = 1, impl.MaxLine
	}
	if n.Line < least || n.Line > most || !modelFields(n, r) {
		return false
	}
	var kinds []int
	for _, k := range n.Kids {
		if k < 0 || k >= place {
			return false
		}
		kinds = append(kinds, nodes[k].Kind)
	}
	return matches(kidPattern(n), kinds)
}

func modelFields(n impl.Node, r row) bool {
	named := func(word string) bool { return strings.Contains(r.named, word) }
	if !named("op") && n.Op != 0 || !named("num") && n.Num != 0 || !named("str") && n.Str != "" {
		return false
	}
	if !named("flt") && math.Abs(n.Flt) > 0 || math.IsNaN(n.Flt) || len(n.Str) > impl.MaxStr {
		return false
	}
	switch n.Kind {
	case impl.NUnary:
		return n.Op >= 19 && n.Op <= 22
	case impl.NBinary:
		return n.Op >= 1 && n.Op <= 18
	case impl.NTable:
		return n.Op == 0 || n.Op == 1
	case impl.NBuiltin:
		return n.Num >= 0 && n.Num <= 14
	}
	return true
}

func modelHead(f int, fn impl.Fn) bool {
	for _, v := range fn.Vars {
		if v == "" || len(v) > 40 {
			return false
		}
	}
	if len(fn.Nodes) == 0 || len(fn.Vars) > 200 || len(fn.Ups) > 200 || len(fn.Name) > 40 {
		return false
	}
	if fn.Params < 0 || fn.Params > len(fn.Vars) || fn.Line < 0 || fn.Line > 100000 {
		return false
	}
	return f > 0 || fn.Params == 0 && len(fn.Ups) == 0
}

// parentsOf has for each node all that have it as a kid, once for each time.
func parentsOf(nodes []impl.Node) [][]int {
	parents := make([][]int, len(nodes))
	for n, node := range nodes {
		for _, k := range node.Kids {
			parents[k] = append(parents[k], n)
		}
	}
	return parents
}

func modelDepth(parents [][]int, n int) int {
	depth := 0
	for len(parents[n]) > 0 {
		n = parents[n][0]
		depth++
	}
	return depth
}

func contains(list []int, x int) bool {
	for _, y := range list {
		if x == y {
			return true
		}
	}
	return false
}

// modelScope climbs from a node and asks of each parent whether it declares v for where we came from.
func modelScope(fn impl.Fn, parents [][]int, n, v int) bool {
	if v < 0 || v >= len(fn.Vars) {
		return false
	}
	if v < fn.Params {
		return true
	}
	for len(parents[n]) > 0 {
		p := fn.Nodes[parents[n][0]]
		switch p.Kind {
		case impl.NBlock:
			for _, k := range p.Kids {
				if k == n {
					break
				}
				if fn.Nodes[k].Kind == impl.NLet && contains(fn.Nodes[k].Refs, v) {
					return true
				}
			}
		case impl.NFor, impl.NEach, impl.NTry:
			if p.Kids[len(p.Kids)-1] == n && contains(p.Refs, v) {
				return true
			}
		}
		n = parents[n][0]
	}
	return false
}

func modelInLoop(fn impl.Fn, parents [][]int, n int) bool {
	for len(parents[n]) > 0 {
		n = parents[n][0]
		switch fn.Nodes[n].Kind {
		case impl.NWhile, impl.NFor, impl.NEach:
			return true
		}
	}
	return false
}

func modelDeclares(kind int) bool {
	return contains([]int{impl.NLet, impl.NFor, impl.NEach, impl.NTry}, kind)
}

func modelRefs(u impl.Unit, fn impl.Fn, parents [][]int, n int) bool {
	node := fn.Nodes[n]
	switch {
	case node.Kind == impl.NVar:
		return modelScope(fn, parents, n, node.Refs[0])
	case node.Kind == impl.NUp:
		return node.Refs[0] >= 0 && node.Refs[0] < len(fn.Ups)
	case node.Kind == impl.NFn:
		return node.Refs[0] >= 0 && node.Refs[0] < len(u.Fns)
	case !modelDeclares(node.Kind):
		return true
	}
	for i, v := range node.Refs {
		if v < fn.Params || v >= len(fn.Vars) || contains(node.Refs[:i], v) {
			return false
		}
		for _, other := range fn.Nodes[:n] {
			if modelDeclares(other.Kind) && contains(other.Refs, v) {
				return false
			}
		}
	}
	return true
}

func modelMade(u impl.Unit, f int, parents [][]int, n int) bool {
	fn := u.Fns[f]
	node := fn.Nodes[n]
	if node.Kind == impl.NRest {
		return fn.Rest
	}
	if node.Kind != impl.NFn {
		return true
	}
	g := node.Refs[0]
	if g <= f {
		return false
	}
	for of := 0; of <= f; of++ {
		for on, other := range u.Fns[of].Nodes {
			if (of < f || on < n) && other.Kind == impl.NFn && other.Refs[0] == g {
				return false
			}
		}
	}
	for _, up := range u.Fns[g].Ups {
		if up.Local && !modelScope(fn, parents, n, up.Index) {
			return false
		}
		if !up.Local && (up.Index < 0 || up.Index >= len(fn.Ups)) {
			return false
		}
	}
	return true
}

func modelTree(fn impl.Fn, parents [][]int, n int) bool {
	if n == len(fn.Nodes)-1 {
		return fn.Nodes[n].Kind == impl.NBlock
	}
	return len(parents[n]) == 1
}

func modelIsMade(u impl.Unit, g int) bool {
	for _, fn := range u.Fns {
		for _, n := range fn.Nodes {
			if n.Kind == impl.NFn && n.Refs[0] == g {
				return true
			}
		}
	}
	return false
}

// modelNode tells whether a node is without the fault of a code, given that the unit has none of a lesser one.
func modelNode(u impl.Unit, code, f int, parents [][]int, n int) bool {
	fn := u.Fns[f]
	switch code {
	case 3:
		return modelForm(fn.Nodes, n)
	case 4:
		return modelTree(fn, parents, n)
	case 5:
		return modelDepth(parents, n) <= impl.MaxNest
	case 6:
		return modelRefs(u, fn, parents, n)
	case 7:
		kind := fn.Nodes[n].Kind
		return kind != impl.NBreak && kind != impl.NNext || modelInLoop(fn, parents, n)
	}
	return modelMade(u, f, parents, n)
}

func modelCheck(u impl.Unit) impl.Fault {
	total := 0
	for _, fn := range u.Fns {
		total += len(fn.Nodes)
	}
	if len(u.Fns) == 0 || len(u.Fns) > 300 || total > 3000 {
		return impl.Fault{Code: 1}
	}
	for code := 2; code <= 9; code++ {
		for f, fn := range u.Fns {
			if code == 2 && !modelHead(f, fn) || code == 9 && f > 0 && !modelIsMade(u, f) {
				return impl.Fault{Code: code, Fn: f}
			}
			if code == 2 || code == 9 {
				continue
			}
			var parents [][]int
			if code > 3 {
				parents = parentsOf(fn.Nodes)
			}
			for n := range fn.Nodes {
				if !modelNode(u, code, f, parents, n) {
					return impl.Fault{Code: code, Fn: f, Node: n}
				}
			}
		}
	}
	return impl.Fault{}
}
