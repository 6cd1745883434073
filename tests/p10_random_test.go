package tests

import (
	"fmt"
	"math/rand"
	"slices"
	"strings"
	"testing"

	"loop.example/reed/impl"
)

// holdAdvice holds the notes of a tree against the second reading.
func holdAdvice(t *testing.T, what string, tree impl.Tree) []impl.Note {
	t.Helper()
	got, want := adviceKept(t, what, tree), modelAdvice(tree)
	if !slices.Equal(got, want) {
		t.Fatalf("%s:\n got %v\nwant %v\n  of %+v", what, got, want, tree)
	}
	holdReads(t, what, tree, got)
	return got
}

// holdReads asks for the promise itself: a declared name that does not begin with _ is read somewhere when it is not told of, and is not when it is. What a name means is what Uses says.
func holdReads(t *testing.T, what string, tree impl.Tree, notes []impl.Note) {
	t.Helper()
	targets := map[int]int{}
	for _, p := range tree.Parts {
		if p.Kind == impl.SSet && impl.TreeOk(tree) == (impl.Wrong{}) {
			for _, kid := range p.Kids[:p.Num] {
				targets[kid]++
			}
		}
	}
	reads, writes := map[impl.Decl]int{}, map[impl.Decl]int{}
	for _, use := range impl.Uses(tree) {
		d := impl.Decl{Part: use.Decl, Place: use.Place}
		if targets[use.Part] == 0 {
			reads[d]++
		} else {
			writes[d]++
		}
	}
	told := map[impl.Decl]int{}
	for _, note := range notes {
		if slices.Contains([]int{isUnused, isWritten, isDeadConst}, note.Code) {
			told[impl.Decl{Part: note.Part, Place: note.Place}] = note.Code
		}
	}
	for d, code := range told {
		name := tree.Parts[d.Part].Names[d.Place]
		if reads[d] > 0 || strings.HasPrefix(name, "_") || code != isDeadConst && (writes[d] > 0) != (code == isWritten) {
			t.Fatalf("%s: %v, %s, has code %d and %d reads, %d writes", what, d, name, code, reads[d], writes[d])
		}
	}
	for n, p := range tree.Parts {
		for place, name := range p.Names {
			d := impl.Decl{Part: n, Place: place}
			if impl.TreeOk(tree) == (impl.Wrong{}) && reads[d] == 0 && told[d] == 0 && !strings.HasPrefix(name, "_") {
				t.Fatalf("%s: %v, %s, is not read and not told of", what, d, name)
			}
		}
	}
}

// tally counts notes by their code and the kind of their part.
type tally map[[2]int]int

func (c tally) add(tree impl.Tree, notes []impl.Note) {
	for _, note := range notes {
		c[[2]int{note.Code, tree.Parts[note.Part].Kind}]++
	}
}

func (c tally) want(t *testing.T, least, code int, kinds ...int) {
	t.Helper()
	for _, kind := range kinds {
		if c[[2]int{code, kind}] < least {
			t.Errorf("code %d of kind %d came only %d times", code, kind, c[[2]int{code, kind}])
		}
	}
}

// thinned takes away a part of the reads and leads targets to names of a part around them, so that more names are only written.
func thinned(r *rand.Rand, parts []impl.Part) {
	for n, p := range parts {
		around := parentOf(parts, n)
		switch {
		case p.Kind != impl.EName:
		case parts[around].Kind != impl.SSet:
			parts[n].Text = []string{p.Text, "zz", "zz"}[r.Intn(3)]
		default:
			for around >= 0 && (len(parts[around].Names) == 0 || r.Intn(3) == 0) {
				around = parentOf(parts, around)
			}
			if around >= 0 {
				parts[n].Text = parts[around].Names[0]
			}
		}
	}
}

func TestAdviceOfSownTrees(t *testing.T) {
	r := rand.New(rand.NewSource(101))
	count := tally{}
	for round := range 5000 {
		s := sower{r, 10 + r.Intn(120)}
		tree := lay(s.block())
		if round%4 > 0 {
			thinned(r, tree.Parts)
		}
		count.add(tree, holdAdvice(t, fmt.Sprintf("round %d", round), tree))
	}
	variables := []int{impl.SLet, impl.SFn, impl.SFor, impl.SEach, impl.STry, impl.EFn}
	count.want(t, 500, isUnused, variables...)
	count.want(t, 10, isWritten, variables...)
	count.want(t, 30, isAgain, impl.SLet, impl.SConst, impl.SFn, impl.SFor, impl.SEach, impl.STry)
	for kind := range fillers() {
		count.want(t, 30, isBehind, kind)
	}
	count.want(t, 30, isKnown, impl.ENil, impl.ETrue, impl.EFalse, impl.EInt, impl.EFlt, impl.EStr, impl.EName)
	count.want(t, 30, isDeadConst, impl.SConst)
	if count[[2]int{isAgain, impl.EFn}] != 0 {
		t.Error("a parameter is declared already")
	}
	t.Log(count)
}

// Trees without faults, most names of which mean something.
func TestAdviceOfBindableTrees(t *testing.T) {
	r := rand.New(rand.NewSource(102))
	for round := range 600 {
		holdAdvice(t, fmt.Sprintf("round %d", round), someBindable(r))
	}
}

// Conditions of consts and operations, some of which can be worked out.
func TestAdviceOfManyConditions(t *testing.T) {
	s := tallier{rand.New(rand.NewSource(103))}
	known, open := 0, 0
	for round := range 150 {
		text := s.text()
		for range 6 {
			text.kids = append(text.kids, asks(s.expression(s.Intn(4)), asks(s.expression(s.Intn(3)))))
		}
		tree := lay(text)
		for _, note := range holdAdvice(t, fmt.Sprintf("round %d", round), tree) {
			if note.Code == isKnown {
				known++
			}
		}
		open += 12
	}
	if open -= known; known < 300 || open < 300 {
		t.Errorf("%d known, %d not", known, open)
	}
	t.Log(known, open)
}

// Spoilt trees, most of which are not sound.
func TestAdviceOfSpoiltTrees(t *testing.T) {
	r := rand.New(rand.NewSource(104))
	some, none := 0, 0
	for round := range 4000 {
		tree := someTree(r)
		for range 1 + r.Intn(2) {
			[]func(*rand.Rand, []impl.Part){spoilPart, turnKids, swapParts, moveBetween}[r.Intn(4)](r, tree.Parts)
		}
		got := holdAdvice(t, fmt.Sprintf("round %d", round), tree)
		switch {
		case impl.TreeOk(tree) == (impl.Wrong{}):
			some += len(got)
		case len(got) != 0:
			t.Fatalf("round %d: %v of a tree that is not sound", round, got)
		default:
			none++
		}
	}
	if some < 500 || none < 500 {
		t.Errorf("%d notes, %d trees that are not sound", some, none)
	}
}

// oddTree is a tree of nothing but odd numbers.
func oddTree(r *rand.Rand) impl.Tree {
	var tree impl.Tree
	for range r.Intn(7) {
		p := impl.Part{Kind: r.Intn(46) - 2, Line: r.Intn(2), Op: someInt(r, 22) * r.Intn(2), Num: int64(someInt(r, 3) * r.Intn(2)), Text: []string{"", "a", "print"}[r.Intn(3)]}
		for range r.Intn(4) {
			p.Kids = append(p.Kids, someInt(r, 3))
		}
		for range r.Intn(3) {
			p.Names = append(p.Names, []string{"a", "", "in"}[r.Intn(3)])
		}
		tree.Parts = append(tree.Parts, p)
	}
	if r.Intn(2) == 0 {
		tree.Parts = append(tree.Parts, impl.Part{Kind: impl.SBlock, Line: 1, Kids: []int{len(tree.Parts) - 1}})
	}
	return tree
}

func TestAdviceAnswersAtEveryArgument(t *testing.T) {
	r := rand.New(rand.NewSource(105))
	for round := range 30000 {
		holdAdvice(t, fmt.Sprintf("round %d", round), oddTree(r))
	}
}

// As large and as deep as a tree may be.
func TestAdviceOfLargeTrees(t *testing.T) {
	// Each let has 200 names; the first nine are read behind it, and one is by the next let.
	list := someNames(200)
	var statements []twig
	for i := range 100 {
		let := state(impl.SLet, word(list[i])).named(list...).line(i + 1)
		for place := range list {
			if place > 8 && (place != i+1 || i == 99) {
				let = let.notedAt(place, isUnused)
			}
			if i > 0 {
				let = let.notedAt(place, isAgain)
			}
		}
		var reads []twig
		for _, name := range list[:9] {
			reads = append(reads, word(name))
		}
		statements = append(statements, let, does(reads...))
	}
	wantAdvice(t, "wide", body(statements...))
	for n := 1; n <= 98; n += 4 {
		nest := body()
		for line := n; line >= 1; line-- {
			let := lets(line, "v").noted(isAgain)
			if line == 1 {
				let = lets(line, "v")
			}
			nest = body(let, does(word("v")), nest)
		}
		wantAdvice(t, fmt.Sprintf("%d blocks", n), nest)
	}
	for n := 1; n <= 20; n++ {
		inner := []twig{writes("v"), does(word("w"))}
		for range n {
			inner = []twig{calls(inner...)}
		}
		wantAdvice(t, fmt.Sprintf("%d fns", n), body(append([]twig{lets(1, "v").noted(isWritten), lets(2, "w")}, inner...)...))
	}
}
