package tests

import (
	"fmt"
	"math/rand"
	"slices"
	"testing"

	"loop.example/reed/impl"
)

// mend takes away the fault that a tree has, without a change of its shape; v0 and v1 are variables of the text.
func mend(r *rand.Rand, parts []impl.Part, code, part int) {
	p := &parts[part]
	switch code {
	case 2, 3:
		p.Text = []string{"v0", "v1"}[r.Intn(2)]
	case 4:
		p.Kind = impl.SReturn
	case 5:
		parts[fnAround(parts, part)].Op = 1
	case 6:
		p.Kind = impl.SLet
	}
}

// someNearly is a tree with faults; the text has variables that no other part declares.
func someNearly(r *rand.Rand) impl.Tree {
	s := sower{r, 10 + r.Intn(110)}
	text := s.block()
	for len(text.kids) < 3 {
		text.kids = append(text.kids, s.statement())
	}
	text.kids = append([]twig{state(impl.SLet).named("v0", "v1", "a", "b")}, text.kids...)
	tree := lay(text)
	for n, p := range tree.Parts {
		if p.Kind == impl.SEach && len(p.Names) > 4 && r.Intn(10) > 0 {
			tree.Parts[n].Names = p.Names[:4]
		}
	}
	return tree
}

// mendWhile takes faults away as long as it is said to.
func mendWhile(r *rand.Rand, tree impl.Tree, goOn func(code int) bool) {
	for b := impl.Bind(tree); b.Code >= 2 && b.Code <= 6 && goOn(b.Code); b = impl.Bind(tree) {
		mend(r, tree.Parts, b.Code, b.Part)
	}
}

// someBindable is a tree without faults, but for a few that are too large.
func someBindable(r *rand.Rand) impl.Tree {
	tree := someNearly(r)
	mendWhile(r, tree, func(code int) bool { return true })
	return tree
}

// holdBound holds the unit of a tree, and what is closed over, against the second reading.
func holdBound(t *testing.T, what string, tree impl.Tree) impl.Bound {
	t.Helper()
	got, expect := boundKept(t, what, tree), modelBound(tree)
	if !sameBound(got, expect) {
		t.Fatalf("%s:\n got %+v\nwant %+v\n  of %+v", what, got, expect, tree)
	}
	if got.Code == 0 && modelCheck(got.Unit) != (impl.Fault{}) {
		t.Fatalf("%s: a unit that is not valid: %v", what, modelCheck(got.Unit))
	}
	if closed, expect := closedKept(t, what, tree), modelClosed(tree); !slices.Equal(closed, expect) {
		t.Fatalf("%s: closed over\n got %v\nwant %v\n  of %+v", what, closed, expect, tree)
	}
	return got
}

func TestBindOfSownTrees(t *testing.T) {
	r := rand.New(rand.NewSource(31))
	codes := map[int]int{}
	for round := range 1500 {
		tree := someNearly(r)
		// Some of the faults are taken away, those that come most often first of all, so that others are the least.
		mendWhile(r, tree, func(code int) bool { return r.Intn(map[bool]int{true: 16, false: 3}[code == 2]) > 0 })
		codes[holdBound(t, fmt.Sprintf("round %d", round), tree).Code]++
	}
	for code := 2; code <= 6; code++ {
		if codes[code] < 20 {
			t.Errorf("code %d came only %d times: %v", code, codes[code], codes)
		}
	}
	t.Log(codes)
}

func TestBindOfTreesWithoutFaults(t *testing.T) {
	r := rand.New(rand.NewSource(32))
	codes, kinds, depth, handedOn := map[int]int{}, map[int]int{}, 0, 0
	for round := range 1000 {
		got := holdBound(t, fmt.Sprintf("round %d", round), someBindable(r))
		codes[got.Code]++
		for _, f := range got.Unit.Fns {
			for _, n := range f.Nodes {
				kinds[n.Kind]++
			}
			for _, up := range f.Ups {
				if !up.Local {
					handedOn++
				}
			}
			depth = max(depth, len(f.Ups))
		}
	}
	if codes[0] < 500 || codes[7] < 10 || handedOn < 200 || depth < 4 {
		t.Errorf("codes %v, %d handed on, at most %d Ups", codes, handedOn, depth)
	}
	for kind := range rowsOfTables() {
		if kinds[kind] < 20 {
			t.Errorf("kind %d came only %d times", kind, kinds[kind])
		}
	}
	t.Log(codes, handedOn, depth, kinds)
}

// Spoilt trees, most of which are not sound.
func TestBindOfSpoiltTrees(t *testing.T) {
	r := rand.New(rand.NewSource(33))
	codes := map[int]int{}
	for round := range 2500 {
		tree := someTree(r)
		if round%3 == 0 {
			tree = someBindable(r)
		}
		for range 1 + r.Intn(2) {
			switch r.Intn(4) {
			case 0:
				spoilPart(r, tree.Parts)
			case 1:
				turnKids(r, tree.Parts)
			case 2:
				swapParts(r, tree.Parts)
			case 3:
				moveBetween(r, tree.Parts)
			}
		}
		codes[holdBound(t, fmt.Sprintf("round %d", round), tree).Code]++
	}
	if codes[1] < 500 || codes[0] < 50 {
		t.Errorf("codes %v", codes)
	}
}

// Trees of nothing but odd numbers.
func TestBindAnswersAtEveryArgument(t *testing.T) {
	r := rand.New(rand.NewSource(34))
	for round := range 20000 {
		var tree impl.Tree
		for range r.Intn(6) {
			p := impl.Part{Kind: r.Intn(46) - 2, Line: r.Intn(2), Op: someInt(r, 22) * r.Intn(2), Text: []string{"", "a", "print"}[r.Intn(3)]}
			for range r.Intn(4) {
				p.Kids = append(p.Kids, someInt(r, 3))
			}
			for range r.Intn(3) {
				p.Names = append(p.Names, []string{"a", "", "in"}[r.Intn(3)])
			}
			tree.Parts = append(tree.Parts, p)
		}
		holdBound(t, fmt.Sprintf("round %d", round), tree)
	}
}

// lists has all lists of a unit that have something in them, with all the room behind them.
func lists(u impl.Unit) (ints [][]int, texts [][]string, ups [][]impl.Up, nodes [][]impl.Node) {
	for _, f := range u.Fns {
		texts = append(texts, f.Vars[:cap(f.Vars)])
		ups = append(ups, f.Ups[:cap(f.Ups)])
		nodes = append(nodes, f.Nodes[:cap(f.Nodes)])
		for _, n := range f.Nodes {
			ints = append(ints, n.Refs[:cap(n.Refs)], n.Kids[:cap(n.Kids)])
		}
	}
	return ints, texts, ups, nodes
}

// scribble writes a number of its own all over each list, and asks whether all lists still have their own.
func scribble[T comparable](t *testing.T, all [][]T, mark func(i int) T) {
	t.Helper()
	for i, list := range all {
		for j := range list {
			list[j] = mark(i)
		}
	}
	for i, list := range all {
		for j := range list {
			if list[j] != mark(i) {
				t.Fatal("two lists share memory")
			}
		}
	}
}

// scribbleAll writes all over a unit, and asks whether no two of its lists share memory.
func scribbleAll(t *testing.T, u impl.Unit) {
	t.Helper()
	ints, texts, ups, nodes := lists(u)
	scribble(t, ints, func(i int) int { return 1000000 + i })
	scribble(t, texts, func(i int) string { return fmt.Sprint("text ", i) })
	scribble(t, ups, func(i int) impl.Up { return impl.Up{Index: 1000000 + i} })
	for i, list := range nodes {
		for j := range list {
			list[j] = impl.Node{Line: 1000000 + i}
		}
	}
	for i, list := range nodes {
		for j := range list {
			if list[j].Line != 1000000+i {
				t.Fatal("two fns share nodes")
			}
		}
	}
	fns := u.Fns[:cap(u.Fns)]
	for f := range fns {
		fns[f] = impl.Fn{Line: -1}
	}
}

// An answer shares no memory with its argument or another answer, and no two of its lists share any.
func TestUnitsAreNewMemory(t *testing.T) {
	r := rand.New(rand.NewSource(35))
	for range 200 {
		tree := someBindable(r)
		kept := copyTree(tree)
		first, second := impl.Bind(tree), impl.Bind(tree)
		copied := copyUnit(second.Unit)
		scribbleAll(t, first.Unit)
		closed := impl.Closed(tree)
		closed = closed[:cap(closed)]
		for i := range closed {
			closed[i] = impl.Decl{Part: -5}
		}
		if !sameTree(tree, kept) || !sameUnit(copyUnit(second.Unit), copied) || !sameUnit(copyUnit(impl.Bind(tree).Unit), copied) {
			t.Fatal("the argument or another answer was written into")
		}
	}
}
