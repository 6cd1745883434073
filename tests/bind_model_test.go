package tests

import (
	"cmp"
	"slices"

	"loop.example/reed/impl"
)

// A second reading of the document's chapter 4, built another way than the program: faults by climbing from each part, fns and variables by sorting all of them, Ups by going through the names alone, nodes by making a tree of each fn that is laid down at the end.

// fnAround is the EFn in which a part stands, or the text.
func fnAround(parts []impl.Part, place int) int {
	for p := parentOf(parts, place); p >= 0; p = parentOf(parts, p) {
		if parts[p].Kind == impl.EFn {
			return p
		}
	}
	return len(parts) - 1
}

// modelLooped tells whether a part stands in the SBlock of a loop of its fn.
func modelLooped(parts []impl.Part, place int) bool {
	for kid, p := place, parentOf(parts, place); p >= 0; kid, p = p, parentOf(parts, p) {
		switch parts[p].Kind {
		case impl.EFn:
			return false
		case impl.SWhile, impl.SFor, impl.SEach:
			if parts[kid].Kind == impl.SBlock {
				return true
			}
		}
	}
	return false
}

func modelTarget(parts []impl.Part, place int) bool {
	p := parts[parentOf(parts, place)]
	return p.Kind == impl.SSet && slices.Index(p.Kids, place) < int(p.Num)
}

// modelCode is the fault of a part, 0 for none.
func modelCode(parts []impl.Part, place int) int {
	switch p := parts[place]; p.Kind {
	case impl.EName:
		kind := modelUse(parts, place).Kind
		if kind == impl.UNone {
			return 2
		}
		if modelTarget(parts, place) && (kind == impl.UConst || kind == impl.UBuiltin) {
			return 3
		}
	case impl.SBreak, impl.SNext:
		if !modelLooped(parts, place) {
			return 4
		}
	case impl.ERest:
		if f := fnAround(parts, place); f < len(parts)-1 && parts[f].Op == 0 {
			return 5
		}
	case impl.SConst:
		if _, ok := modelConst(parts, place); !ok {
			return 6
		}
	}
	return 0
}

// modelFault is the fault at the least part, codes 1 to 6.
func modelFault(t impl.Tree) (code, part int) {
	if modelWrong(t) != (impl.Wrong{}) {
		return 1, 0
	}
	for n := range t.Parts {
		if code := modelCode(t.Parts, n); code != 0 {
			return code, n
		}
	}
	return 0, 0
}

func modelBound(t impl.Tree) impl.Bound {
	if code, part := modelFault(t); code != 0 {
		return impl.Bound{Code: code, Part: part}
	}
	u := modelUnit(t)
	if modelCheck(u) != (impl.Fault{}) {
		return impl.Bound{Code: 7}
	}
	return impl.Bound{Unit: u}
}

func modelClosed(t impl.Tree) []impl.Decl {
	var list []impl.Decl
	if code, _ := modelFault(t); code != 0 {
		return nil
	}
	uses := modelUses(t)
	for n := range t.Parts {
		for place := range t.Parts[n].Names {
			is := func(u impl.Use) bool { return u.Kind == impl.UUp && u.Decl == n && u.Place == place }
			if slices.ContainsFunc(uses, is) {
				list = append(list, impl.Decl{Part: n, Place: place})
			}
		}
	}
	return list
}

// modelBinding is a tree without faults, its fns by number, the variables of each by number, and what each closes over.
type modelBinding struct {
	parts []impl.Part
	fns   []int
	vars  [][]moment
	ups   [][]impl.Decl
}

// moment is when a variable is declared, in halves of parts: an odd one is between two parts.
type moment struct {
	when int
	decl impl.Decl
	name string
}

func beginOf(parts []impl.Part, place int) int {
	for len(parts[place].Kids) > 0 {
		place = parts[place].Kids[0]
	}
	return place
}

func bindingModel(t impl.Tree) modelBinding {
	m := modelBinding{parts: t.Parts, fns: []int{len(t.Parts) - 1}}
	for n, p := range t.Parts {
		if p.Kind == impl.EFn {
			m.fns = append(m.fns, n)
		}
	}
	slices.SortFunc(m.fns[1:], func(a, b int) int {
		return cmp.Or(cmp.Compare(beginOf(m.parts, a), beginOf(m.parts, b)), cmp.Compare(b, a))
	})
	m.vars, m.ups = make([][]moment, len(m.fns)), make([][]impl.Decl, len(m.fns))
	for n := range t.Parts {
		m.declare(n)
	}
	for f := range m.vars {
		slices.SortStableFunc(m.vars[f], func(a, b moment) int {
			return cmp.Or(cmp.Compare(a.when, b.when), cmp.Compare(b.decl.Part, a.decl.Part))
		})
	}
	for n, p := range t.Parts {
		if p.Kind == impl.EName {
			m.need(n)
		}
	}
	return m
}

func modelUnit(t impl.Tree) impl.Unit {
	m := bindingModel(t)
	var u impl.Unit
	for number := range m.fns {
		u.Fns = append(u.Fns, m.fn(number))
	}
	return u
}

func (m *modelBinding) declare(n int) {
	p := m.parts[n]
	f, when := fnAround(m.parts, n), 2*n
	switch p.Kind {
	case impl.EFn:
		f, when = n, -1
	case impl.SFn:
		when = 2*beginOf(m.parts, n) - 1
	case impl.SFor, impl.SEach, impl.STry:
		when = 2*p.Kids[len(p.Kids)-2] + 1
	case impl.SConst:
		return
	}
	number := slices.Index(m.fns, f)
	for place, name := range p.Names {
		m.vars[number] = append(m.vars[number], moment{when, impl.Decl{Part: n, Place: place}, name})
	}
	if p.Kind == impl.STry && len(p.Names) == 1 {
		m.vars[number] = append(m.vars[number], moment{when, impl.Decl{Part: n, Place: 1}, "_"})
	}
}

func (m *modelBinding) number(f int, d impl.Decl) int {
	return slices.IndexFunc(m.vars[f], func(v moment) bool { return v.decl == d })
}

// need has all fns from that of the variable inwards close over it.
func (m *modelBinding) need(n int) {
	use := modelUse(m.parts, n)
	if use.Kind != impl.UUp {
		return
	}
	d := impl.Decl{Part: use.Decl, Place: use.Place}
	var chain []int
	for p := fnAround(m.parts, n); m.number(slices.Index(m.fns, p), d) < 0; p = fnAround(m.parts, p) {
		chain = append(chain, slices.Index(m.fns, p))
	}
	slices.Reverse(chain)
	for _, f := range chain {
		if !slices.Contains(m.ups[f], d) {
			m.ups[f] = append(m.ups[f], d)
		}
	}
}

func (m *modelBinding) fn(number int) impl.Fn {
	place := m.fns[number]
	f := impl.Fn{Name: "main", Rest: true}
	inside := place
	if number > 0 {
		p := m.parts[place]
		f = impl.Fn{Line: p.Line, Params: len(p.Names), Rest: p.Op == 1}
		if around := m.parts[parentOf(m.parts, place)]; around.Kind == impl.SFn {
			f.Name = around.Names[0]
		}
		inside = p.Kids[0]
		outer := slices.Index(m.fns, fnAround(m.parts, place))
		for _, d := range m.ups[number] {
			up := impl.Up{Local: true, Index: m.number(outer, d)}
			if up.Index < 0 {
				up = impl.Up{Index: slices.Index(m.ups[outer], d)}
			}
			f.Ups = append(f.Ups, up)
		}
	}
	for _, v := range m.vars[number] {
		f.Vars = append(f.Vars, v.name)
	}
	f.Nodes = grow(m.sprouts(number, inside)[0])
	return f
}

// modelNodeKinds pairs kinds of parts with those of nodes where nothing but the kind changes.
var modelNodeKinds = map[int]int{
	1: 1, 2: 2, 5: 3, 6: 4, 7: 5, 8: 6, 9: 7, 10: 8, 11: 9, 12: 10, 13: 11, 14: 12, 15: 13, 16: 14,
	20: 20, 21: 21, 22: 22, 23: 23, 24: 24, 25: 25, 27: 37, 28: 29, 29: 30, 30: 31, 31: 32, 32: 33, 34: 34, 35: 35, 37: 38,
}

func modelStr(text string) sprout {
	return sprout{node: impl.Node{Kind: impl.NStr, Str: text}}
}

// sprouts is what a part becomes.
func (m *modelBinding) sprouts(f, n int) []sprout {
	p := m.parts[n]
	switch p.Kind {
	case impl.SConst:
		return nil
	case impl.SFn:
		v := m.number(f, impl.Decl{Part: n})
		made := m.sprouts(f, p.Kids[0])[0]
		return []sprout{at(p.Line, impl.NLet).refs(v), at(p.Line, impl.NSet, use(v), made).num(1)}
	case impl.EFn:
		return []sprout{fn(slices.Index(m.fns, n))}
	case impl.EName:
		return []sprout{m.named(f, n)}
	}
	var kids []sprout
	items := int64(0)
	for i, k := range p.Kids {
		if p.Kind == impl.SFor && len(p.Kids) == 3 && i == 2 {
			kids = append(kids, whole(1))
		}
		if m.parts[k].Kind == impl.NItem {
			items++
			kids = append(kids, whole(items))
		}
		kids = append(kids, m.sprouts(f, k)...)
	}
	switch p.Kind {
	case impl.NItem, impl.NPair:
		return kids
	case impl.NNamed:
		return append([]sprout{modelStr(p.Text)}, kids...)
	case impl.EField:
		return []sprout{ex(impl.NIndex, append(kids, modelStr(p.Text))...)}
	}
	return []sprout{m.plain(f, n, kids)}
}

func (m *modelBinding) plain(f, n int, kids []sprout) sprout {
	p := m.parts[n]
	s := ex(modelNodeKinds[p.Kind], kids...)
	s.node.Op, s.node.Num, s.node.Str = p.Op, p.Num, p.Text
	if p.Kind < impl.ENil {
		s.node.Line = p.Line
	}
	switch p.Kind {
	case impl.EFlt:
		s.node.Flt = p.Flt
	case impl.ETable:
		if last := len(p.Kids) - 1; last >= 0 && m.parts[p.Kids[last]].Kind == impl.NItem {
			if kind := m.parts[p.Kids[last]-1].Kind; kind == impl.ECall || kind == impl.ERest {
				s.node.Op = 1
			}
		}
	}
	for i, v := range m.vars[f] {
		if v.decl.Part == n {
			s.node.Refs = append(s.node.Refs, i)
		}
	}
	return s
}

func (m *modelBinding) named(f, n int) sprout {
	u := modelUse(m.parts, n)
	d := impl.Decl{Part: u.Decl, Place: u.Place}
	switch u.Kind {
	case impl.UVar:
		return use(m.number(f, d))
	case impl.UUp:
		return ex(impl.NUp).refs(slices.Index(m.ups[f], d))
	case impl.UBuiltin:
		return ex(impl.NBuiltin).num(int64(u.Place))
	}
	v, _ := modelConst(m.parts, u.Decl)
	kinds := map[int]int{impl.KNil: impl.NNil, impl.KBool: impl.NFalse, impl.KInt: impl.NInt, impl.KFlt: impl.NFlt, impl.KStr: impl.NStr, impl.KBuiltin: impl.NBuiltin}
	if v == vBool(true) {
		return ex(impl.NTrue)
	}
	return sprout{node: impl.Node{Kind: kinds[v.Kind], Num: v.Num, Flt: v.Flt, Str: v.Str}}
}
