package tests

import (
	"fmt"
	"testing"

	"loop.example/reed/impl"
)

// plain is print(1, 2); return 3: parts 0 to 3 make the call, 4 does it, 5 and 6 give back, 7 is the text.
func plain() impl.Tree {
	return lay(body(state(impl.SDo, dial(word("print"), number(1), number(2))), back(number(3))))
}

func TestOrderOfParts(t *testing.T) {
	wantSound(t, "in order", plain())
	for _, c := range []struct {
		what  string
		spoil func(p []impl.Part)
		part  int
	}{
		{"kids turned round", func(p []impl.Part) { p[3].Kids = []int{0, 2, 1} }, 3},
		{"kids against the order", func(p []impl.Part) { p[3].Kids = []int{2, 1, 0} }, 3},
		{"the first kid left out", func(p []impl.Part) { p[3].Kids = []int{1, 2} }, 7},
		{"a kid in the middle left out", func(p []impl.Part) { p[3].Kids = []int{0, 2} }, 3},
		{"the last kid left out", func(p []impl.Part) { p[3].Kids = []int{0, 1} }, 3},
		{"all kids left out but the first", func(p []impl.Part) { p[3].Kids = []int{0} }, 3},
		{"a kid twice at the end", func(p []impl.Part) { p[3].Kids = []int{0, 1, 2, 2} }, 3},
		{"a kid twice in the middle", func(p []impl.Part) { p[3].Kids = []int{0, 1, 1, 2} }, 3},
		{"a kid twice at the beginning", func(p []impl.Part) { p[3].Kids = []int{0, 0, 1, 2} }, 3},
		{"one kid in place of another", func(p []impl.Part) { p[3].Kids = []int{0, 1, 1} }, 3},
		{"statements turned round", func(p []impl.Part) { p[7].Kids = []int{6, 4} }, 7},
		{"the first statement left out", func(p []impl.Part) { p[7].Kids = []int{6} }, 7},
		{"the last statement left out", func(p []impl.Part) { p[7].Kids = []int{4} }, 7},
		{"all statements left out", func(p []impl.Part) { p[7].Kids = nil }, 7},
		{"a statement twice", func(p []impl.Part) { p[7].Kids = []int{4, 6, 6} }, 7},
		{"a kid of another", func(p []impl.Part) { p[6].Kids = []int{2} }, 6},
		{"a kid of another as well", func(p []impl.Part) { p[6].Kids = []int{2, 5} }, 6},
		{"a kid that has its own place below another", func(p []impl.Part) { p[6].Kids = []int{3, 5} }, 6},
		{"nobody's kid", func(p []impl.Part) { p[6].Kids = nil }, 7},
	} {
		tree := plain()
		c.spoil(tree.Parts)
		wantTree(t, c.what, tree, 3, c.part)
	}
}

// A kid's parts stand between another's: the kids' own numbers are in order all the same.
func TestPartsBetweenOthers(t *testing.T) {
	tree := impl.Tree{Parts: []impl.Part{
		{Kind: impl.ENil}, {Kind: impl.ETrue},
		{Kind: impl.SReturn, Line: 1, Kids: []int{0}},
		{Kind: impl.SReturn, Line: 1, Kids: []int{1}},
		{Kind: impl.SBlock, Line: 1, Kids: []int{2, 3}},
	}}
	wantTree(t, "the second's leaf between the first and its own", tree, 3, 2)
	tree.Parts[2].Kids, tree.Parts[3].Kids = []int{1}, []int{0}
	wantTree(t, "the second's leaf ahead of the first's", tree, 3, 3)
	tree.Parts[3].Kids = nil
	wantTree(t, "a leaf that is nobody's", tree, 3, 4)
	tree.Parts[2].Kids = []int{0, 1}
	wantSound(t, "both are the first's", tree)
	tree.Parts[2].Kids, tree.Parts[3].Kids = []int{0}, []int{0, 1}
	wantTree(t, "a leaf that is of two", tree, 3, 2)
	tree.Parts[2].Kids, tree.Parts[3].Kids = []int{0, 1}, []int{0}
	wantTree(t, "a leaf that is of two, the one in order", tree, 3, 3)
}

// A whole text that stands ahead of another one.
func TestTwoTexts(t *testing.T) {
	first := lay(body(back()))
	first.Parts = append(first.Parts, impl.Part{Kind: impl.SBlock, Line: 1})
	wantTree(t, "two texts", first, 3, 2)
	first.Parts[2].Kids = []int{0}
	wantTree(t, "the second takes a part of the first", first, 3, 2)
	first.Parts[2].Kids = []int{1}
	wantSound(t, "one in the other", first)
	first.Parts[2].Kids = []int{0, 1}
	wantTree(t, "a kid and its kid", first, 3, 2)
}

// Shared kids many times over: the answer comes at once, though the walk would be endless.
func TestKidsSharedManyTimes(t *testing.T) {
	parts := []impl.Part{{Kind: impl.SBlock, Line: 1}}
	for n := 1; n < impl.MaxNodes; n++ {
		p := impl.Part{Kind: impl.SBlock, Line: 1, Kids: make([]int, impl.MaxKids)}
		for i := range p.Kids {
			p.Kids[i] = n - 1
		}
		parts = append(parts, p)
	}
	wantTree(t, "200 times over", impl.Tree{Parts: parts}, 3, 1)
	for n := 1; n < impl.MaxNodes; n++ {
		parts[n].Kids = []int{n - 1}
	}
	parts[impl.MaxNodes-1].Kids = []int{impl.MaxNodes - 2, impl.MaxNodes - 2}
	wantTree(t, "the last one twice", impl.Tree{Parts: parts}, 3, impl.MaxNodes-1)
}

// treeFlaw is a code and what puts a fault of it into a half of twin, which takes the places from .. to; spoil answers the fault's part.
type treeFlaw struct {
	code  int
	spoil func(p []impl.Part, from, to int) int
}

// twin has two halves, each a call, blocks in one another (one too many in a half that is deep), and a SThrow.
func twin(deep [2]bool) (impl.Tree, [2]int) {
	var halves [2]twig
	for i, isDeep := range deep {
		inner := nested(98)
		if isDeep {
			inner = nested(99)
		}
		halves[i] = body(state(impl.SDo, dial(word("f"), number(1), number(2))), inner, state(impl.SThrow, number(1)))
	}
	return lay(body(halves[:]...)), [2]int{0, halves[0].size()}
}

func treeFlaws() []treeFlaw {
	return []treeFlaw{
		{2, func(p []impl.Part, from, to int) int { p[from].Text = "for"; return from }},
		{2, func(p []impl.Part, from, to int) int { p[from+1].Line = -1; return from + 1 }},
		{2, func(p []impl.Part, from, to int) int { p[to-1].Line = 0; return to - 1 }},
		{3, func(p []impl.Part, from, to int) int {
			p[from+3].Kids = []int{from, from + 2, from + 1}
			return from + 3
		}},
		{3, func(p []impl.Part, from, to int) int {
			p[to].Kids = append([]int{from + 4}, p[to].Kids...)
			return to
		}},
		{4, func(p []impl.Part, from, to int) int { return from + 5 }},
	}
}

// Of two faults the one of the lesser code is told, of two of one code that of the lesser part.
func TestOrderOfWrongs(t *testing.T) {
	sound, _ := twin([2]bool{})
	wantSound(t, "without a flaw", sound)
	for i, a := range treeFlaws() {
		for j, b := range treeFlaws() {
			for mix := range 4 {
				f, g := mix/2, mix%2
				var deep [2]bool
				deep[f] = a.code == 4
				deep[g] = deep[g] || b.code == 4
				tree, from := twin(deep)
				to := [2]int{from[1] - 1, len(tree.Parts) - 2}
				first := impl.Wrong{Code: a.code, Part: a.spoil(tree.Parts, from[f], to[f])}
				if i != j || f != g {
					second := impl.Wrong{Code: b.code, Part: b.spoil(tree.Parts, from[g], to[g])}
					if second.Code < first.Code || second.Code == first.Code && second.Part < first.Part {
						first = second
					}
				}
				what := fmt.Sprintf("flaw %d in half %d, flaw %d in half %d", i, f, j, g)
				wantTree(t, what, tree, first.Code, first.Part)
				if i != j {
					wantCodeOne(t, what, tree)
				}
			}
		}
	}
}

// wantCodeOne makes the last one no SBlock, or the parts too many: that comes ahead of all.
func wantCodeOne(t *testing.T, what string, tree impl.Tree) {
	t.Helper()
	parts := append([]impl.Part(nil), tree.Parts...)
	parts[len(parts)-1].Kind = impl.SReturn
	wantTree(t, what+", no SBlock last", impl.Tree{Parts: parts}, 1, 0)
	parts = append([]impl.Part(nil), tree.Parts...)
	for len(parts) <= impl.MaxNodes {
		parts = append(parts, impl.Part{Kind: impl.SBlock, Line: 1})
	}
	wantTree(t, what+", too many", impl.Tree{Parts: parts}, 1, 0)
}

// A part that is off its row and out of order has the lesser code; and one that is out of order stands behind all that are off theirs.
func TestTwoWrongsAtOnePart(t *testing.T) {
	tree := plain()
	tree.Parts[3].Kids = []int{2, 1, 0}
	tree.Parts[3].Op = 1
	wantTree(t, "both at one part", tree, 2, 3)
	tree.Parts[3].Op = 0
	tree.Parts[7].From = -1
	wantTree(t, "the row of a part far behind", tree, 2, 7)
	tree.Parts[7].From = 0
	tree.Parts[7].Kids = []int{6}
	wantTree(t, "two out of order", tree, 3, 3)
	tree = lay(body(nested(101)))
	last := len(tree.Parts) - 1
	tree.Parts[last].Kids = []int{last - 1, last - 1}
	wantTree(t, "out of order behind a deep one", tree, 3, last)
	tree.Parts[last].Kids = []int{last - 1}
	wantTree(t, "the deep one alone", tree, 4, 0)
}
