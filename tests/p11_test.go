package tests

import (
	"fmt"
	"math"
	"math/rand"
	"reflect"
	"slices"
	"strings"
	"testing"

	"loop.example/reed/impl"
)

// ofTrees and ofUnits have every function of the project.
func ofTrees() map[string]func(impl.Tree) any {
	return map[string]func(impl.Tree) any{
		"TreeOk": func(t impl.Tree) any { return impl.TreeOk(t) },
		"Uses":   func(t impl.Tree) any { return impl.Uses(t) },
		"Consts": func(t impl.Tree) any { return impl.Consts(t) },
		"Bind":   func(t impl.Tree) any { return impl.Bind(t) },
		"Closed": func(t impl.Tree) any { return impl.Closed(t) },
		"Advice": func(t impl.Tree) any { return impl.Advice(t) },
	}
}

func ofUnits() map[string]func(impl.Unit) any {
	return map[string]func(impl.Unit) any{
		"CheckUnit": func(u impl.Unit) any { return impl.CheckUnit(u) },
		"Fold":      func(u impl.Unit) any { return impl.Fold(u) },
	}
}

// spelt writes a value out, floats by their bits; with room it has what stands behind the lists as well.
func spelt(v any, room bool) string {
	var b strings.Builder
	tellInto(&b, reflect.ValueOf(v), room)
	return b.String()
}

func tellInto(b *strings.Builder, v reflect.Value, room bool) {
	switch v.Kind() {
	case reflect.Struct:
		b.WriteByte('{')
		for i := range v.NumField() {
			tellInto(b, v.Field(i), room)
			b.WriteByte(' ')
		}
		b.WriteByte('}')
	case reflect.Slice:
		if room {
			v = v.Slice(0, v.Cap())
		}
		b.WriteByte('[')
		for i := range v.Len() {
			tellInto(b, v.Index(i), room)
			b.WriteByte(' ')
		}
		b.WriteByte(']')
	case reflect.Float64:
		fmt.Fprintf(b, "%x", math.Float64bits(v.Float()))
	case reflect.String:
		fmt.Fprintf(b, "%q", v.String())
	default:
		fmt.Fprint(b, v.Interface())
	}
}

// stretch is the memory of a list with the room behind it.
type stretch struct{ from, to uintptr }

func stretchesOf(v reflect.Value) []stretch {
	var all []stretch
	switch v.Kind() {
	case reflect.Struct:
		for i := range v.NumField() {
			all = append(all, stretchesOf(v.Field(i))...)
		}
	case reflect.Slice:
		if size := uintptr(v.Cap()) * v.Type().Elem().Size(); size > 0 {
			all = append(all, stretch{v.Pointer(), v.Pointer() + size})
		}
		if kind := v.Type().Elem().Kind(); kind == reflect.Struct || kind == reflect.Slice {
			for i := range v.Len() {
				all = append(all, stretchesOf(v.Index(i))...)
			}
		}
	}
	return all
}

// meet tells whether two of the stretches share memory.
func meet(all []stretch) bool {
	slices.SortFunc(all, func(a, b stretch) int {
		if a.from < b.from {
			return -1
		}
		return 1
	})
	for i := 1; i < len(all); i++ {
		if all[i].from < all[i-1].to {
			return true
		}
	}
	return false
}

// wipe writes over all that a value holds, and the room behind its lists.
func wipe(v reflect.Value) {
	switch v.Kind() {
	case reflect.Struct:
		for i := range v.NumField() {
			wipe(v.Field(i))
		}
	case reflect.Slice:
		v = v.Slice(0, v.Cap())
		for i := range v.Len() {
			wipe(v.Index(i))
			if v.Index(i).Kind() == reflect.Int {
				v.Index(i).SetInt(-12345)
			} else {
				v.Index(i).SetZero()
			}
		}
	}
}

// cut has the first of a list, with a little room behind them, and what is left behind them.
func cut[T any](list []T, n int) (first, left []T) {
	return list[:n:min(n+3, len(list))], list[n:]
}

// roomyTree has the same tree with all its lists in a few, with room behind each.
func roomyTree(t impl.Tree) impl.Tree {
	out := impl.Tree{Parts: append(slices.Clone(t.Parts), impl.Part{Kind: impl.SBlock, Line: 7}, impl.Part{Kind: 99})}
	var kids []int
	var names []string
	for _, p := range out.Parts {
		kids, names = append(kids, p.Kids...), append(names, p.Names...)
	}
	kids, names = append(kids, 55, 66), append(names, "room", "more")
	out.Parts = out.Parts[:len(t.Parts)]
	for n, p := range out.Parts {
		out.Parts[n].Kids, kids = cut(kids, len(p.Kids))
		out.Parts[n].Names, names = cut(names, len(p.Names))
	}
	return out
}

// roomyUnit has the same unit with all its lists in a few, with room behind each.
func roomyUnit(u impl.Unit) impl.Unit {
	out := copyUnit(u)
	var ints []int
	var vars []string
	var ups []impl.Up
	var nodes []impl.Node
	for _, f := range out.Fns {
		vars, ups, nodes = append(vars, f.Vars...), append(ups, f.Ups...), append(nodes, f.Nodes...)
		for _, n := range f.Nodes {
			ints = append(append(ints, n.Refs...), n.Kids...)
		}
	}
	ints, vars, ups = append(ints, 55), append(vars, "room"), append(ups, impl.Up{Index: 55})
	nodes = append(nodes, impl.Node{Kind: impl.NBlock, Line: 7})
	for f := range out.Fns {
		fn := &out.Fns[f]
		fn.Vars, vars = cut(vars, len(fn.Vars))
		fn.Ups, ups = cut(ups, len(fn.Ups))
		fn.Nodes, nodes = cut(nodes, len(fn.Nodes))
		for n := range fn.Nodes {
			node := &fn.Nodes[n]
			node.Refs, ints = cut(ints, len(node.Refs))
			node.Kids, ints = cut(ints, len(node.Kids))
		}
	}
	out.Fns = append(out.Fns, impl.Fn{Line: 7})[:len(u.Fns)]
	return out
}

// holdKept asks of one function: nothing is written into its argument or behind it, the same argument has the same answer, wherever it stands in memory, and the answer is new memory.
func holdKept[T any](t *testing.T, what string, call func(T) any, roomy, plain T) {
	t.Helper()
	before := spelt(roomy, true)
	first := call(roomy)
	answer := spelt(first, false)
	if spelt(roomy, true) != before {
		t.Fatalf("%s: the argument was written into", what)
	}
	second := call(roomy)
	if spelt(second, false) != answer || spelt(call(plain), false) != answer {
		t.Fatalf("%s: the same argument has another answer", what)
	}
	mine := stretchesOf(reflect.ValueOf(first))
	if meet(slices.Clone(mine)) {
		t.Fatalf("%s: two lists of the answer share memory", what)
	}
	for _, theirs := range append(stretchesOf(reflect.ValueOf(roomy)), stretchesOf(reflect.ValueOf(second))...) {
		for _, s := range mine {
			if s.from < theirs.to && theirs.from < s.to {
				t.Fatalf("%s: the answer shares memory with its argument or another answer", what)
			}
		}
	}
	box := reflect.New(reflect.TypeOf(first)).Elem()
	box.Set(reflect.ValueOf(first))
	wipe(box)
	if spelt(roomy, true) != before || spelt(second, false) != answer || spelt(call(roomy), false) != answer {
		t.Fatalf("%s: what is written into an answer is seen elsewhere", what)
	}
}

func holdTree(t *testing.T, what string, tree impl.Tree) {
	t.Helper()
	for name, call := range ofTrees() {
		holdKept(t, what+": "+name, call, roomyTree(tree), copyTree(tree))
	}
}

func holdUnit(t *testing.T, what string, u impl.Unit) {
	t.Helper()
	for name, call := range ofUnits() {
		holdKept(t, what+": "+name, call, roomyUnit(u), copyUnit(u))
	}
}

// The helpers above find what they are made to find.
func TestSharedMemoryIsFound(t *testing.T) {
	list := []int{1, 2, 3, 4}
	node := impl.Node{Refs: list[:2], Kids: list[2:]}
	if !meet(stretchesOf(reflect.ValueOf(node))) {
		t.Error("the room behind Refs is Kids")
	}
	if node.Refs = list[:2:2]; meet(stretchesOf(reflect.ValueOf(node))) {
		t.Error("no room behind Refs")
	}
	before := spelt(node, true)
	if list[3] = 9; spelt(node, true) == before || spelt(node, false) == before {
		t.Error("a change is not seen")
	}
	node = impl.Node{Refs: list[:1]}
	before, short := spelt(node, true), spelt(node, false)
	if list[1] = 9; spelt(node, true) == before || spelt(node, false) != short {
		t.Error("a change in the room behind a list")
	}
	if spelt(impl.Node{Flt: minusZero()}, false) == spelt(impl.Node{}, false) || spelt(impl.Node{Refs: []int{}}, false) != spelt(impl.Node{}, false) {
		t.Error("zeros and empty lists")
	}
	tree, u := richTree(), richUnit()
	if spelt(roomyTree(tree), false) != spelt(tree, false) || spelt(roomyUnit(u), false) != spelt(u, false) {
		t.Error("with room the value is another one")
	}
	if !meet(stretchesOf(reflect.ValueOf(roomyTree(tree)))) || !meet(stretchesOf(reflect.ValueOf(roomyUnit(u)))) {
		t.Error("no list has others behind it")
	}
}

func TestArgumentsAreKeptByHand(t *testing.T) {
	holdTree(t, "no parts", impl.Tree{})
	holdTree(t, "an empty text", lay(body()))
	holdTree(t, "rich", richTree())
	holdTree(t, "too deep", impl.Tree{Parts: slices.Repeat([]impl.Part{{Kind: impl.SBlock, Line: 1}}, 200)})
	for kind, sample := range samples() {
		holdTree(t, fmt.Sprint("kind ", kind), lay(rooted(sample)))
	}
	for where, text := range homes() {
		holdTree(t, where, lay(text(nil, readX(), body(againIn("let", nil)...), calls(readX()), back(), back())))
	}
	for what, u := range map[string]impl.Unit{
		"no fns": {}, "rich": richUnit(), "loop": loopUnit(), "many fns": manyFns(impl.MaxFns), "many nodes": manyNodes(impl.MaxNodes),
		"too many fns": manyFns(impl.MaxFns + 1), "deep": deep(impl.MaxNest), "too deep": deep(impl.MaxNest + 1),
	} {
		holdUnit(t, what, u)
	}
}

// Sown, spoilt and odd trees and units.
func TestArgumentsAreKept(t *testing.T) {
	r := rand.New(rand.NewSource(111))
	codes := map[string]int{}
	for round := range 1200 {
		what := fmt.Sprintf("round %d", round)
		tree, u := someTree(r), someUnit(r)
		switch round % 4 {
		case 0:
			tree, u = someBindable(r), impl.Bind(someBindable(r)).Unit
		case 1:
			spoilPart(r, tree.Parts)
			spoil(r, &u)
		case 2:
			tree, u = oddTree(r), oddUnit(r)
		}
		holdTree(t, what, tree)
		holdUnit(t, what, u)
		codes[fmt.Sprint("tree ", impl.TreeOk(tree).Code == 0)]++
		codes[fmt.Sprint("unit ", impl.CheckUnit(u).Code == 0)]++
	}
	for _, what := range []string{"tree true", "tree false", "unit true", "unit false"} {
		if codes[what] < 200 {
			t.Errorf("%v", codes)
		}
	}
}

// What was asked in between changes no answer.
func TestAnswersHangOnTheArgumentAlone(t *testing.T) {
	r := rand.New(rand.NewSource(112))
	var trees []impl.Tree
	var units []impl.Unit
	for range 60 {
		trees, units = append(trees, someTree(r), someBindable(r), oddTree(r)), append(units, someUnit(r), oddUnit(r))
	}
	answers := func() []string {
		var all []string
		for _, name := range []string{"TreeOk", "Uses", "Consts", "Bind", "Closed", "Advice"} {
			for _, tree := range trees {
				all = append(all, spelt(ofTrees()[name](tree), false))
			}
		}
		for _, name := range []string{"CheckUnit", "Fold"} {
			for _, u := range units {
				all = append(all, spelt(ofUnits()[name](u), false))
			}
		}
		return all
	}
	first := answers()
	if !slices.Equal(answers(), first) {
		t.Error("asked again")
	}
	slices.Reverse(trees)
	slices.Reverse(units)
	answers()
	slices.Reverse(trees)
	slices.Reverse(units)
	if !slices.Equal(answers(), first) {
		t.Error("asked in another order")
	}
}
