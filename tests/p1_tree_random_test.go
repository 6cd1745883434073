package tests

import (
	"math"
	"math/rand"
	"reflect"
	"slices"
	"strings"
	"testing"

	"loop.example/reed/impl"
)

func copyTree(t impl.Tree) impl.Tree {
	out := impl.Tree{Parts: slices.Clone(t.Parts)}
	for n := range out.Parts {
		out.Parts[n].Names = slices.Clone(out.Parts[n].Names)
		out.Parts[n].Kids = slices.Clone(out.Parts[n].Kids)
	}
	return out
}

// sameTree compares floats by their bits, since a NaN is not equal to itself.
func sameTree(a, b impl.Tree) bool {
	return slices.EqualFunc(a.Parts, b.Parts, func(x, y impl.Part) bool {
		if math.Float64bits(x.Flt) != math.Float64bits(y.Flt) {
			return false
		}
		x.Flt, y.Flt = 0, 0
		return reflect.DeepEqual(x, y)
	})
}

// sower makes sound trees; left is how many parts it may still make, or nearly so.
type sower struct {
	*rand.Rand
	left int
}

func (s *sower) name() string {
	return []string{"a", "b", "c", "_", "_d", "print", "text", "x1"}[s.Intn(8)]
}

func (s *sower) names(least, most int) []string {
	var list []string
	for range least + s.Intn(most-least+1) {
		list = append(list, s.name())
	}
	return list
}

func (s *sower) expressions(least, most int) []twig {
	var list []twig
	for range least + s.Intn(most-least+1) {
		list = append(list, s.expression(true))
	}
	return list
}

func (s *sower) leaf(rest bool) twig {
	switch s.Intn(9) {
	case 0:
		return say([]int{impl.ENil, impl.ETrue, impl.EFalse}[s.Intn(3)])
	case 1:
		return number(int64(s.Intn(5) - 2))
	case 2:
		return twig{part: impl.Part{Kind: impl.EFlt, Flt: []float64{0, math.Copysign(0, -1), 1.5, math.Inf(1)}[s.Intn(4)]}}
	case 3:
		return say(impl.EStr).text([]string{"", "s", "10"}[s.Intn(3)])
	case 4:
		if rest {
			return say(impl.ERest)
		}
	}
	return word(s.name())
}

func (s *sower) expression(rest bool) twig {
	if s.left--; s.left < 0 {
		return s.leaf(rest)
	}
	switch s.Intn(14) {
	case 0:
		return say([]int{impl.EAnd, impl.EOr}[s.Intn(2)], s.expressions(2, 2)...)
	case 1:
		return say(impl.EUnary, s.expression(true)).op(impl.OpNeg + s.Intn(4))
	case 2:
		return say(impl.EBinary, s.expressions(2, 2)...).op(impl.OpAdd + s.Intn(18))
	case 3:
		return say(impl.EIndex, s.expression(false), s.expression(true))
	case 4:
		return say(impl.EField, s.expression(false)).text(s.name())
	case 5:
		return s.call()
	case 6:
		return s.table()
	case 7:
		return s.fn()
	case 8:
		return say(impl.EOne, []twig{s.call(), say(impl.ERest)}[s.Intn(2)])
	}
	return s.leaf(rest)
}

func (s *sower) call() twig {
	return dial(append([]twig{s.expression(false)}, s.expressions(0, 2)...)...)
}

func (s *sower) fn() twig {
	return say(impl.EFn, s.block()).named(s.names(0, 3)...).op(s.Intn(2)).line(s.Intn(20))
}

func (s *sower) table() twig {
	t := say(impl.ETable)
	for range s.Intn(4) {
		switch s.Intn(3) {
		case 0:
			t.kids = append(t.kids, say(impl.NItem, s.expression(true)))
		case 1:
			t.kids = append(t.kids, say(impl.NPair, s.expressions(2, 2)...))
		case 2:
			t.kids = append(t.kids, say(impl.NNamed, s.expression(true)).text(s.name()))
		}
	}
	return t
}

func (s *sower) block() twig {
	t := body()
	if s.left > 0 {
		for range s.Intn(5) {
			t.kids = append(t.kids, s.statement().line(1+s.Intn(30)))
		}
	}
	return t
}

func (s *sower) target() twig {
	switch s.Intn(4) {
	case 0:
		return say(impl.EIndex, s.expression(false), s.expression(true))
	case 1:
		return say(impl.EField, s.expression(false)).text(s.name())
	}
	return word(s.name())
}

func (s *sower) statement() twig {
	s.left--
	switch s.Intn(16) {
	case 0:
		return s.block()
	case 1, 2:
		return state(impl.SLet, s.expressions(0, 2)...).named(s.names(1, 3)...)
	case 3:
		return state(impl.SConst, s.expression(true)).named(s.name())
	case 4:
		return state(impl.SFn, s.fn()).named(s.name())
	case 5, 6:
		targets := []twig{s.target(), s.target()}[:1+s.Intn(2)]
		return state(impl.SSet, append(targets, s.expressions(1, 2)...)...).num(int64(len(targets)))
	case 7:
		return state([]int{impl.SDo, impl.SDefer}[s.Intn(2)], s.call())
	case 8:
		return s.branch()
	case 9:
		return state(impl.SWhile, s.expression(true), s.block())
	case 10:
		return state(impl.SFor, append(s.expressions(2, 3), s.block())...).named(s.name())
	case 11:
		return state(impl.SEach, s.expression(true), s.block()).named(s.names(1, 5)...)
	case 12:
		return state([]int{impl.SBreak, impl.SNext}[s.Intn(2)])
	case 13:
		return state(impl.STry, s.block(), s.block()).named(s.names(1, 2)...)
	case 14:
		return state(impl.SThrow, s.expression(true))
	}
	return back(s.expressions(0, 2)...)
}

func (s *sower) branch() twig {
	t := state(impl.SIf, s.expression(true), s.block())
	switch s.Intn(3) {
	case 0:
		t.kids = append(t.kids, s.block())
	case 1:
		t.kids = append(t.kids, s.branch())
	}
	return t
}

func someTree(r *rand.Rand) impl.Tree {
	s := sower{r, 5 + r.Intn(60)}
	return lay(s.block())
}

func spoilPart(r *rand.Rand, parts []impl.Part) {
	p := &parts[r.Intn(len(parts))]
	flts := []float64{0, math.Copysign(0, -1), 1.5, math.NaN(), math.Inf(1)}
	texts := []string{"", "x", "if", "while", "nil", "9x", "x9", strings.Repeat("n", 40), strings.Repeat("n", 41), strings.Repeat("n", 4000), strings.Repeat("n", 4001), "a b"}
	switch r.Intn(10) {
	case 0:
		p.Kind = r.Intn(46) - 1
	case 1:
		p.Line = someInt(r, impl.MaxLine)
	case 2:
		p.Op = someInt(r, 22)
	case 3:
		p.Num = int64(someInt(r, 3))
	case 4:
		p.Flt = flts[r.Intn(len(flts))]
	case 5:
		p.Text = texts[r.Intn(len(texts))]
	case 6:
		p.Names = append(slices.Clone(p.Names), texts[r.Intn(len(texts))])
	case 7:
		p.From, p.To = someInt(r, 3), someInt(r, 3)
	default:
		p.Kids = spoilList(r, p.Kids, len(parts))
	}
}

// turnKids changes the order of the kids of a part that stays as its row says, most often.
func turnKids(r *rand.Rand, parts []impl.Part) {
	kids := parts[r.Intn(len(parts))].Kids
	if len(kids) > 1 {
		i := r.Intn(len(kids) - 1)
		kids[i], kids[i+1] = kids[i+1], kids[i]
	}
}

// moveBetween takes a kid from one SBlock or SReturn, the parts of which have any number, to another of the same kind.
func moveBetween(r *rand.Rand, parts []impl.Part) {
	i, j := r.Intn(len(parts)), r.Intn(len(parts))
	from, to := &parts[i], &parts[j]
	if from.Kind != to.Kind || len(from.Kids) == 0 {
		return
	}
	k := r.Intn(len(from.Kids))
	kid := from.Kids[k]
	if r.Intn(3) > 0 {
		from.Kids = slices.Delete(from.Kids, k, k+1)
	}
	if r.Intn(3) > 0 {
		to.Kids = append(to.Kids, kid)
		slices.Sort(to.Kids)
	}
}

// swapParts lets two neighbours change places and leads all kids there.
func swapParts(r *rand.Rand, parts []impl.Part) {
	if len(parts) < 3 {
		return
	}
	i := r.Intn(len(parts) - 2)
	parts[i], parts[i+1] = parts[i+1], parts[i]
	for n := range parts {
		for k, kid := range parts[n].Kids {
			switch kid {
			case i:
				parts[n].Kids[k] = i + 1
			case i + 1:
				parts[n].Kids[k] = i
			}
		}
	}
}

// Spoilt trees are held against the second reading; and nothing is written into them.
func TestTreeOkOfSpoiltTrees(t *testing.T) {
	r := rand.New(rand.NewSource(3))
	codes := map[int]int{}
	for round := range 12000 {
		tree := someTree(r)
		if round%10 == 0 {
			tree = richTree()
		}
		for range r.Intn(4) {
			switch r.Intn(8) {
			case 0, 1:
				spoilPart(r, tree.Parts)
			case 2, 3:
				turnKids(r, tree.Parts)
			case 4:
				swapParts(r, tree.Parts)
			default:
				moveBetween(r, tree.Parts)
			}
		}
		kept := copyTree(tree)
		got, expect := impl.TreeOk(tree), modelWrong(tree)
		if got != expect {
			t.Fatalf("round %d: %v, want %v, of %+v", round, got, expect, tree)
		}
		if impl.TreeOk(tree) != got {
			t.Fatalf("round %d: the same tree has another answer", round)
		}
		if !sameTree(tree, kept) {
			t.Fatalf("round %d: the tree was written into", round)
		}
		codes[got.Code]++
	}
	for code := range 4 {
		if codes[code] < 20 {
			t.Errorf("code %d came only %d times: %v", code, codes[code], codes)
		}
	}
	t.Log(codes)
}

// What the sower makes is sound, and deep trees of it are told as the second reading tells them.
func TestTreeOkOfSownTrees(t *testing.T) {
	r := rand.New(rand.NewSource(4))
	deep := 0
	for round := range 3000 {
		s := sower{r, 5 + r.Intn(80)}
		made := s.block()
		wantSound(t, "sown", lay(made))
		if round%10 == 0 {
			for range 80 + r.Intn(30) {
				made = body(made)
				if r.Intn(20) == 0 {
					made.kids = append(made.kids, back())
				}
			}
			tree := lay(made)
			got, expect := impl.TreeOk(tree), modelWrong(tree)
			if got != expect {
				t.Fatalf("round %d: %v, want %v", round, got, expect)
			}
			deep += got.Code / 4
		}
	}
	if deep < 50 || deep > 280 {
		t.Errorf("%d of 300 too deep", deep)
	}
}

// Trees of nothing but odd numbers: an answer is all that is asked, and that it is the model's.
func TestTreeOkAnswersAtEveryArgument(t *testing.T) {
	r := rand.New(rand.NewSource(5))
	for round := range 30000 {
		var tree impl.Tree
		for range r.Intn(7) {
			p := impl.Part{Kind: r.Intn(46) - 2, Line: r.Intn(2), Op: someInt(r, 22) * r.Intn(2), Num: int64(someInt(r, 3) * r.Intn(2))}
			for range r.Intn(4) {
				p.Kids = append(p.Kids, someInt(r, 3))
			}
			for range r.Intn(3) {
				p.Names = append(p.Names, []string{"a", "", "in"}[r.Intn(3)])
			}
			if r.Intn(3) == 0 {
				p.From, p.To, p.Flt = someInt(r, 2), someInt(r, 2), math.NaN()
			}
			tree.Parts = append(tree.Parts, p)
		}
		if r.Intn(2) == 0 {
			tree.Parts = append(tree.Parts, impl.Part{Kind: impl.SBlock, Line: 1, Kids: []int{len(tree.Parts) - 1}})
		}
		kept := copyTree(tree)
		if got, expect := impl.TreeOk(tree), modelWrong(tree); got != expect {
			t.Fatalf("round %d: %v, want %v, of %+v", round, got, expect, tree)
		}
		if !sameTree(tree, kept) {
			t.Fatalf("round %d: the tree was written into", round)
		}
	}
}
