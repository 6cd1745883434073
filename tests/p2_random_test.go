package tests

import (
	"math"
	"math/rand"
	"slices"
	"strings"
	"testing"

	"loop.example/reed/impl"
)

// holdNames holds the uses and consts of a tree against the second reading.
func holdNames(t *testing.T, round int, tree impl.Tree) ([]impl.Use, []impl.Const) {
	t.Helper()
	uses, consts := usesKept(t, "uses", tree), constsKept(t, "consts", tree)
	if want := modelUses(tree); !slices.Equal(uses, want) {
		t.Fatalf("round %d:\n got %v\nwant %v\n  of %+v", round, uses, want, tree)
	}
	if want := modelConsts(tree); !slices.EqualFunc(consts, want, sameConst) {
		t.Fatalf("round %d:\n got %v\nwant %v\n  of %+v", round, consts, want, tree)
	}
	return uses, consts
}

func TestNamesOfSownTrees(t *testing.T) {
	r := rand.New(rand.NewSource(11))
	kinds, declaring, codes := map[int]int{}, map[int]int{}, map[int]int{}
	for round := range 4000 {
		s := sower{r, 10 + r.Intn(120)}
		tree := lay(s.block())
		uses, consts := holdNames(t, round, tree)
		for _, u := range uses {
			kinds[u.Kind]++
			if u.Decl >= 0 {
				declaring[tree.Parts[u.Decl].Kind]++
			}
		}
		for _, c := range consts {
			codes[c.Code]++
		}
	}
	for kind := impl.UNone; kind <= impl.UBuiltin; kind++ {
		if kinds[kind] < 100 {
			t.Errorf("kind %d came only %d times", kind, kinds[kind])
		}
	}
	for _, kind := range []int{impl.SLet, impl.SConst, impl.SFn, impl.SFor, impl.SEach, impl.STry, impl.EFn} {
		if declaring[kind] < 100 {
			t.Errorf("kind %d declared only %d times", kind, declaring[kind])
		}
	}
	if codes[0] < 100 || codes[1] < 100 {
		t.Errorf("codes %v", codes)
	}
	t.Log(kinds, declaring, codes)
}

// Spoilt trees, most of which are not sound: there is nothing to be told of those.
func TestNamesOfSpoiltTrees(t *testing.T) {
	r := rand.New(rand.NewSource(12))
	wrong := map[int]int{}
	for round := range 4000 {
		tree := someTree(r)
		for range 1 + r.Intn(2) {
			switch r.Intn(4) {
			case 0:
				spoilPart(r, tree.Parts)
			case 1:
				turnKids(r, tree.Parts)
			case 2:
				swapParts(r, tree.Parts)
			case 3:
				moveBetween(r, tree.Parts)
			}
		}
		uses, consts := holdNames(t, round, tree)
		code := impl.TreeOk(tree).Code
		if code != 0 && len(uses)+len(consts) != 0 {
			t.Fatalf("round %d: %v, %v of a tree that is not sound", round, uses, consts)
		}
		wrong[code]++
	}
	for code := range 4 {
		if wrong[code] < 20 {
			t.Errorf("code %d came only %d times", code, wrong[code])
		}
	}
}

// One tree for each way of not being sound; all of them have names and consts.
func TestNothingForTreesThatAreNotSound(t *testing.T) {
	use := []twig{fixes(1, "a", number(1)), says("a", "print")}
	deep := body(use...)
	for range 99 {
		deep = body(deep)
	}
	tooMany := lay(body(use...))
	for len(tooMany.Parts) <= impl.MaxNodes {
		last := len(tooMany.Parts) - 1
		tooMany.Parts = append(tooMany.Parts, impl.Part{Kind: impl.SBlock, Line: 1, Kids: []int{last}})
	}
	for what, spoil := range map[string]func(tree *impl.Tree){
		"no parts":            func(tree *impl.Tree) { tree.Parts = nil },
		"no block last":       func(tree *impl.Tree) { tree.Parts = tree.Parts[:len(tree.Parts)-1] },
		"too many":            func(tree *impl.Tree) { *tree = tooMany },
		"a name that is none": func(tree *impl.Tree) { tree.Parts[2].Text = "if" },
		"an op too much":      func(tree *impl.Tree) { tree.Parts[0].Op = 1 },
		"no line":             func(tree *impl.Tree) { tree.Parts[1].Line = 0 },
		"a kid below 0":       func(tree *impl.Tree) { tree.Parts[1].Kids[0] = -1 },
		"a kid of its own":    func(tree *impl.Tree) { tree.Parts[1].Kids[0] = 1 },
		"kids turned round":   func(tree *impl.Tree) { slices.Reverse(tree.Parts[4].Kids) },
		"a kid left out":      func(tree *impl.Tree) { tree.Parts[5].Kids = tree.Parts[5].Kids[:1] },
		"too deep":            func(tree *impl.Tree) { *tree = lay(deep) },
		"a NaN":               func(tree *impl.Tree) { tree.Parts[0] = impl.Part{Kind: impl.EFlt, Flt: math.NaN()} },
		"a const of two":      func(tree *impl.Tree) { tree.Parts[1].Names = []string{"a", "b"} },
		"a text too long":     func(tree *impl.Tree) { tree.Parts[0] = impl.Part{Kind: impl.EStr, Text: strings.Repeat("x", 4001)} },
	} {
		tree := lay(body(use...))
		if len(impl.Uses(tree)) != 2 || len(impl.Consts(tree)) != 1 {
			t.Fatal("the tree has not what it should")
		}
		spoil(&tree)
		if impl.TreeOk(tree).Code == 0 {
			t.Errorf("%s: sound", what)
		}
		if uses, consts := impl.Uses(tree), impl.Consts(tree); len(uses) != 0 || len(consts) != 0 {
			t.Errorf("%s: %v, %v", what, uses, consts)
		}
	}
	lessDeep := lay(deep.kids[0])
	if len(impl.Uses(lessDeep)) != 2 || len(impl.Consts(lessDeep)) != 1 {
		t.Error("as deep as may be")
	}
}

// Trees of nothing but odd numbers.
func TestNamesAnswerAtEveryArgument(t *testing.T) {
	r := rand.New(rand.NewSource(13))
	for range 20000 {
		var tree impl.Tree
		for range r.Intn(6) {
			p := impl.Part{Kind: r.Intn(46) - 2, Line: r.Intn(2), Op: someInt(r, 22) * r.Intn(2), Text: []string{"", "a", "print"}[r.Intn(3)]}
			for range r.Intn(4) {
				p.Kids = append(p.Kids, someInt(r, 3))
			}
			for range r.Intn(3) {
				p.Names = append(p.Names, []string{"a", "", "in"}[r.Intn(3)])
			}
			tree.Parts = append(tree.Parts, p)
		}
		uses, consts := usesKept(t, "odd", tree), constsKept(t, "odd", tree)
		if modelWrong(tree) != (impl.Wrong{}) && len(uses)+len(consts) != 0 {
			t.Fatalf("%v, %v of %+v", uses, consts, tree)
		}
	}
}

// tallier makes texts of consts whose expressions can be worked out, mostly.
type tallier struct{ *rand.Rand }

func (s tallier) literal() twig {
	ints := []int64{0, 1, -1, 2, 3, -7, 10, 62, 63, 64, 65, 1 << 53, 1<<53 + 1, -1<<53 - 1, 1<<62 + 1, most, most - 1, most - 511, least, least + 1}
	floats := []float64{0, math.Copysign(0, -1), 0.1, -0.5, 1, 1.5, 2, -3, 7.25, 1 << 53, 1 << 62, 1 << 63, -1 << 63, 1e300, -1e300, 5e-324, 2.5e-310, math.MaxFloat64, math.Inf(1), math.Inf(-1)}
	texts := []string{"", "a", "b", "ab", "\xff", "10", "nil", strings.Repeat("x", 1999), strings.Repeat("y", 2001), strings.Repeat("z", 4000)}
	switch s.Intn(12) {
	case 0:
		return say([]int{impl.ENil, impl.ETrue, impl.EFalse}[s.Intn(3)])
	case 1, 2, 3:
		return number(ints[s.Intn(len(ints))])
	case 4:
		return number(int64(s.Uint64() >> s.Intn(64)))
	case 5, 6, 7:
		return flt(floats[s.Intn(len(floats))])
	case 8:
		if f := math.Float64frombits(s.Uint64()); f == f {
			return flt(f)
		}
		return flt(s.NormFloat64())
	case 9:
		return str(texts[s.Intn(len(texts))])
	case 10:
		return word([]string{"a", "b", "c", "a", "b", "c", "print", "zz"}[s.Intn(8)])
	}
	return word([]string{"a", "b", "c"}[s.Intn(3)])
}

func (s tallier) expression(depth int) twig {
	if depth == 0 {
		return s.literal()
	}
	switch s.Intn(8) {
	case 0:
		return say([]int{impl.EAnd, impl.EOr}[s.Intn(2)], s.expression(depth-1), s.expression(depth-1))
	case 1:
		return one(impl.OpNeg+s.Intn(4), s.expression(depth-1))
	case 2:
		return s.literal()
	}
	return two(impl.OpAdd+s.Intn(18), s.expression(depth-1), s.expression(depth-1))
}

func (s tallier) text() twig {
	t := body()
	for range 3 + s.Intn(8) {
		name := []string{"a", "b", "c"}[s.Intn(3)]
		switch s.Intn(12) {
		case 0:
			t.kids = append(t.kids, s.text())
		case 1:
			t.kids = append(t.kids, back(say(impl.EFn, s.text()).named([]string{"a", "d"}[s.Intn(2)])))
		case 2:
			t.kids = append(t.kids, state(impl.SLet).named([]string{name, "d"}[min(1, s.Intn(4))]))
		default:
			t.kids = append(t.kids, state(impl.SConst, s.expression(1+s.Intn(2))).named(name))
		}
		if len(t.kids) > 4 && s.Intn(3) == 0 {
			break
		}
	}
	return t
}

func TestConstsOfManyExpressions(t *testing.T) {
	s := tallier{rand.New(rand.NewSource(14))}
	given, failed := map[int]int{}, map[int]int{}
	for round := range 1500 {
		tree := lay(s.text())
		if impl.TreeOk(tree).Code != 0 {
			continue
		}
		_, consts := holdNames(t, round, tree)
		for _, c := range consts {
			value := tree.Parts[tree.Parts[c.Part].Kids[0]]
			if c.Code == 0 {
				given[value.Op]++
			} else {
				failed[value.Op]++
			}
		}
	}
	for op := impl.OpAdd; op <= impl.OpLen; op++ {
		if given[op] < 30 || failed[op] < 10 {
			t.Errorf("op %d gave %d values, and %d times none", op, given[op], failed[op])
		}
	}
	t.Log(given, failed)
}

// Each operation with each pair of literals.
func TestConstsOfAllPairs(t *testing.T) {
	floats := []float64{0, math.Copysign(0, -1), 0.1, -0.5, 1.5, -3, 1 << 53, 1 << 63, -1 << 63, math.Nextafter(1<<63, 0), math.Nextafter(-1<<63, math.Inf(-1)), 5e-324, math.MaxFloat64, math.Inf(1), math.Inf(-1)}
	ints := []int64{0, 1, -1, 7, -7, 63, 64, 1<<53 + 1, most, most - 1023, least, least + 1}
	all := []twig{void(), no(), yes(), str(""), str("a"), str("b"), word("print"), word("cells"), nan()}
	for _, f := range floats {
		all = append(all, flt(f))
	}
	for _, n := range ints {
		all = append(all, number(n))
	}
	for i, a := range all {
		for op := impl.OpAdd; op <= impl.OpGe; op++ {
			text := body()
			for _, b := range all {
				text.kids = append(text.kids, fixes(1, "K", two(op, a, b)))
			}
			holdNames(t, i*100+op, lay(text))
		}
		text := body()
		for op := impl.OpNeg; op <= impl.OpLen; op++ {
			text.kids = append(text.kids, fixes(1, "K", one(op, a)))
		}
		holdNames(t, i, lay(text))
	}
}

// As large as a tree may be: many declarations of many names, and consts that lean on all those ahead of them.
func TestNamesOfLargeTrees(t *testing.T) {
	list := names(200)
	var statements []twig
	for i := range 190 {
		statements = append(statements, state(impl.SLet, word(list[i])).named(list...).line(i+1), says(list[:9]...))
	}
	// 200 kids are the most that a block may have.
	wide := body(body(statements[:200]...), body(statements[200:]...))
	tree := lay(wide)
	wantSound(t, "wide", tree)
	if got, want := impl.Uses(tree), modelUses(tree); !slices.Equal(got, want) {
		t.Error("wide")
	}
	long, values := body(fixes(1, "k", number(1))), []*impl.Value{is(vInt(1))}
	for i := range 199 {
		long.kids = append(long.kids, fixes(i+2, "k", two(impl.OpAdd, word("k"), word("k"))))
		values = append(values, is(vInt(1<<(i+1))))
	}
	wantConsts(t, "each twice the one ahead", long, values...)
}
