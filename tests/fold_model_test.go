package tests

import (
	"slices"

	"loop.example/reed/impl"
)

// A second reading of the document's chapter 5, built another way than the program: the nodes of a fn stay where they are and are written over in the order of their numbers; what is left is picked out at the end.

func modelFold(u impl.Unit) impl.Unit {
	if modelCheck(u) != (impl.Fault{}) {
		return impl.Unit{}
	}
	out := copyUnit(u)
	for f := range out.Fns {
		nodes := out.Fns[f].Nodes
		for n := range nodes {
			modelFoldNode(nodes, n)
		}
		out.Fns[f].Nodes = modelPick(nodes)
	}
	return out
}

// modelPick has the nodes that the last one still reaches, with new numbers.
func modelPick(nodes []impl.Node) []impl.Node {
	walk := walkOf(nodes, len(nodes)-1)
	var left []impl.Node
	for _, place := range walk {
		node := nodes[place]
		var kids []int
		for _, k := range node.Kids {
			kids = append(kids, slices.Index(walk, k))
		}
		node.Kids = kids
		left = append(left, node)
	}
	return left
}

func modelMakes(nodes []impl.Node, places ...int) bool {
	for _, place := range places {
		for _, below := range walkOf(nodes, place) {
			if nodes[below].Kind == impl.NFn {
				return true
			}
		}
	}
	return false
}

func modelLiteral(n impl.Node) (impl.Value, bool) {
	switch n.Kind {
	case impl.NNil:
		return vNil(), true
	case impl.NTrue:
		return vBool(true), true
	case impl.NFalse:
		return vBool(false), true
	case impl.NInt:
		return vInt(n.Num), true
	case impl.NFlt:
		return vFlt(n.Flt), true
	case impl.NStr:
		return vStr(n.Str), true
	case impl.NBuiltin:
		return vBuiltin(n.Num), true
	}
	return impl.Value{}, false
}

func modelFoldNode(nodes []impl.Node, n int) {
	kids := nodes[n].Kids
	if len(kids) == 0 {
		return
	}
	first, known := modelLiteral(nodes[kids[0]])
	holds := known && modelTruth(first)
	switch kind := nodes[n].Kind; {
	case kind == impl.NBlock:
		modelCut(nodes, n)
	case !known:
	case kind == impl.NUnary:
		modelPut(nodes, n)(modelUnary(nodes[n].Op, first))
	case kind == impl.NBinary && nodes[n].Op != 12:
		if second, ok := modelLiteral(nodes[kids[1]]); ok {
			modelPut(nodes, n)(modelBinary(nodes[n].Op, first, second))
		}
	case kind == impl.NAnd && holds, kind == impl.NOr && !holds:
		modelBecome(nodes, n, kids[1])
	case kind == impl.NAnd || kind == impl.NOr:
		if !modelMakes(nodes, kids[1]) {
			modelBecome(nodes, n, kids[0])
		}
	case kind == impl.NIf && holds && len(kids) == 3:
		if !modelMakes(nodes, kids[2]) {
			nodes[n].Kids = kids[:2]
		}
	case (kind == impl.NIf || kind == impl.NWhile) && !holds:
		if !modelMakes(nodes, kids[1]) {
			nodes[kids[1]].Kids = nil
		}
	}
}

// modelPut writes a literal over a node, if there is one for the value.
func modelPut(nodes []impl.Node, n int) func(v impl.Value, ok bool) {
	return func(v impl.Value, ok bool) {
		if ok && v.Flt == v.Flt {
			nodes[n] = literal(v).node
		}
	}
}

func modelBecome(nodes []impl.Node, n, kid int) {
	switch nodes[kid].Kind {
	case impl.NCall, impl.NRest:
		nodes[n] = impl.Node{Kind: impl.NOne, Kids: []int{kid}}
	default:
		nodes[n] = nodes[kid]
	}
}

func modelCut(nodes []impl.Node, n int) {
	for i, k := range nodes[n].Kids {
		switch nodes[k].Kind {
		case impl.NReturn, impl.NBreak, impl.NNext, impl.NThrow:
			if !modelMakes(nodes, nodes[n].Kids[i+1:]...) {
				nodes[n].Kids = nodes[n].Kids[:i+1]
			}
			return
		}
	}
}
