package tests

import (
	"fmt"
	"slices"
	"testing"

	"loop.example/reed/impl"
)

// wantSize asks for a unit, or for the fault 7 where it would be too large.
func wantSize(t *testing.T, what string, text twig, fits bool) {
	t.Helper()
	if fits {
		wantBound(t, what, text)
	} else {
		wantTooLarge(t, what, text)
	}
}

// fill has so many parts that become just as many nodes, in one statement.
func fill(parts int) twig {
	text := body()
	for left := parts - 1; left > 0; {
		values := min(left-1, impl.MaxKids)
		text.kids = append(text.kids, back(many(values, void())...))
		left -= values + 1
	}
	return text
}

func nodesOf(u impl.Unit) int {
	nodes := 0
	for _, f := range u.Fns {
		nodes += len(f.Nodes)
	}
	return nodes
}

func TestTooManyNodes(t *testing.T) {
	// As many nodes as parts: a sound tree can't pass the limit.
	u := wantBound(t, "3000", fill(3000))
	if nodesOf(u) != 3000 {
		t.Fatal(nodesOf(u))
	}
	// Each has one node, or two, more than parts.
	more := map[string]struct {
		part twig
		more int
	}{
		"a field":   {back(field(void(), "a")), 1},
		"a for":     {state(impl.SFor, void(), void(), body()).named("i"), 1},
		"an own":    {makes(1, "f", lambda(1, nil)), 2},
		"a const":   {fixes(1, "k", number(1)), -2},
		"two items": {back(table(item(void()), item(further()))), 0},
		"a named":   {back(table(entry("a", void()))), 0},
		"a pair":    {back(table(pair(void(), void()))), -1},
	}
	for what, c := range more {
		for _, nodes := range []int{2999, 3000, 3001, 3002} {
			parts := nodes - c.more
			if parts > impl.MaxNodes {
				continue
			}
			text := body(c.part, fill(parts-c.part.size()-1))
			if text.size() != parts {
				t.Fatalf("%s: %d parts, not %d", what, text.size(), parts)
			}
			wantSize(t, fmt.Sprintf("%s, %d nodes", what, nodes), text, nodes <= 3000)
		}
	}
	wantSize(t, "in a fn", body(back(lambda(1, nil, back(field(void(), "a")), fill(2992)))), true)
	wantSize(t, "in a fn, one more", body(back(lambda(1, nil, back(field(void(), "a")), fill(2993)))), false)
}

func someNames(n int) []string {
	var list []string
	for i := range n {
		list = append(list, fmt.Sprintf("n%d", i))
	}
	return list
}

func letsOf(n int) twig { return state(impl.SLet).named(someNames(n)...) }

func TestTooManyVariables(t *testing.T) {
	for n, fits := range map[int]bool{199: true, 200: true, 201: false} {
		two := []twig{letsOf(150), state(impl.SLet).named(someNames(n - 150)...)}
		for what, text := range map[string]twig{
			"lets":      body(two...),
			"blocks":    body(body(two[0]), body(two[1])),
			"an own":    body(letsOf(n-2), makes(1, "f", lambda(1, nil, letsOf(199))), makes(1, "g", lambda(1, nil))),
			"an each":   body(letsOf(n-4), state(impl.SEach, void(), body()).named("a", "b", "c", "d")),
			"a for":     body(letsOf(n-1), state(impl.SFor, void(), void(), body()).named("a")),
			"a try":     body(letsOf(n-2), state(impl.STry, body(), body()).named("a", "b")),
			"a short":   body(letsOf(n-2), state(impl.STry, body(), body()).named("a")),
			"inside":    body(letsOf(200), nameless(two...)),
			"beside":    body(back(lambda(1, someNames(100), letsOf(n-100))), letsOf(200)),
			"one name":  body(state(impl.SLet).named(names(100)...), state(impl.SLet).named(names(n-100)...)),
			"a stretch": body(fixes(1, "k", number(1)), letsOf(100), fixes(1, "l", number(1)), nameless(letsOf(200)), letsOf(n-100)),
		} {
			wantSize(t, fmt.Sprintf("%d of %s", n, what), text, fits)
		}
	}
	wantBound(t, "200 parameters", body(back(lambda(1, someNames(200)))))
	wantTooLarge(t, "200 parameters and one more", body(back(lambda(1, someNames(200), lets(1, "a")))))
}

func TestTooManyUps(t *testing.T) {
	for n, fits := range map[int]bool{199: true, 200: true, 201: false} {
		list := someNames(n)
		uses := body(says(list[:100]...), says(list[100:]...), says(list[:100]...))
		// Two fns around, since one has at most 200 variables.
		text := body(state(impl.SLet).named(list[:150]...), nameless(state(impl.SLet).named(list[150:]...), nameless(uses)))
		wantSize(t, fmt.Sprintf("%d", n), text, fits)
		handing := body(state(impl.SLet).named(list[:150]...), nameless(state(impl.SLet).named(list[150:]...), nameless(nameless(uses))))
		wantSize(t, fmt.Sprintf("%d handed on", n), handing, fits)
		apart := body(state(impl.SLet).named(list[:150]...), nameless(state(impl.SLet).named(list[150:]...),
			nameless(nameless(says(list[:100]...)), nameless(says(list[100:]...)))))
		wantSize(t, fmt.Sprintf("%d of two inside", n), apart, fits)
		beside := body(state(impl.SLet).named(list[:150]...), nameless(state(impl.SLet).named(list[150:]...),
			nameless(says(list[:100]...)), nameless(says(list[100:]...))))
		wantBound(t, fmt.Sprintf("%d of two side by side", n), beside)
	}
}

// fnsIn has so many fns in a row.
func fnsIn(n int) twig {
	lambdas := many(n, lambda(1, nil))
	return body(back(lambdas[:150]...), back(lambdas[150:]...))
}

func TestTooManyFns(t *testing.T) {
	for n, fits := range map[int]bool{298: true, 299: true, 300: false, 301: false, 350: false} {
		wantSize(t, fmt.Sprintf("%d in a row", n), fnsIn(n), fits)
		inside := fnsIn(n - 20)
		for range 20 {
			inside = body(nameless(inside))
		}
		wantSize(t, fmt.Sprintf("%d far inside", n), inside, fits)
		// Not in one block and not in one fn, where they would be too many variables.
		var own []twig
		for part := range slices.Chunk(many(n-4, makes(1, "f", lambda(1, nil))), 90) {
			own = append(own, nameless(part...))
		}
		if len(own) == 4 {
			wantSize(t, fmt.Sprintf("%d with names", n), body(own...), fits)
		}
	}
}

func TestTooManyKids(t *testing.T) {
	own := makes(1, "f", lambda(1, nil))
	for n, fits := range map[int]bool{99: true, 100: true, 101: false, 150: false, 200: false} {
		wantSize(t, fmt.Sprintf("%d fns of their own", n), body(nameless(many(n, own)...)), fits)
		wantSize(t, fmt.Sprintf("%d items", n), body(back(table(many(n, item(void()))...))), fits)
		wantSize(t, fmt.Sprintf("%d pairs", n), body(back(table(many(n, pair(void(), void()))...))), fits)
		wantSize(t, fmt.Sprintf("%d named", n), body(back(table(many(n, entry("a", void()))...))), fits)
		mixed := append(many(n-50, item(void())), many(50, entry("a", void()))...)
		wantSize(t, fmt.Sprintf("%d entries", n), body(back(table(mixed...))), fits)
		beside := append(many(n, own), many(200-n, fixes(1, "k", number(1)))...)
		wantSize(t, fmt.Sprintf("%d fns and consts", n), body(beside...), fits)
	}
	for n, fits := range map[int]bool{198: true, 199: false} {
		wantSize(t, fmt.Sprintf("a fn and %d others", n), body(append(many(n, back()), own)...), fits)
	}
	wantBound(t, "200 statements", body(many(200, back())...))
	wantBound(t, "200 values", body(back(many(200, void())...)))
	wantBound(t, "a call of 200", body(does(append([]twig{word("print")}, many(199, void())...)...)))
	wantBound(t, "200 kids of a set", body(lets(1, "a"), sets(100, many(200, word("a"))...)))
}

func TestNamesOfEach(t *testing.T) {
	for n := 1; n <= 8; n++ {
		loop := state(impl.SEach, void(), body()).named(someNames(n)...)
		wantSize(t, fmt.Sprintf("%d names", n), body(loop), n <= 4)
		wantSize(t, fmt.Sprintf("%d names in a fn", n), body(nameless(body(loop))), n <= 4)
	}
	wantTooLarge(t, "200 names", body(state(impl.SEach, void(), body()).named(someNames(200)...)))
	wantTooLarge(t, "five times one name", body(state(impl.SEach, void(), body()).named("a", "a", "a", "a", "a")))
}

// What a tree becomes is never deeper than the tree.
func TestDepthOfUnits(t *testing.T) {
	for depth := 95; depth <= 100; depth++ {
		wantBound(t, "blocks", nested(depth))
	}
	wrap := func(inside twig, around func(twig) twig) twig {
		text := body(back(inside))
		for impl.TreeOk(lay(body(back(around(inside))))).Code == 0 {
			inside = around(inside)
			text = body(back(inside))
		}
		return text
	}
	deepest := map[string]twig{
		"fields":  wrap(field(void(), "a"), func(x twig) twig { return field(x, "a") }),
		"minuses": wrap(void(), func(x twig) twig { return one(impl.OpNeg, x) }),
		"a field": wrap(field(void(), "a"), func(x twig) twig { return one(impl.OpNeg, x) }),
		"a const": wrap(word("print"), func(x twig) twig { return one(impl.OpNeg, x) }),
		"lists":   wrap(table(entry("a", void())), func(x twig) twig { return one(impl.OpNeg, x) }),
	}
	for what, text := range deepest {
		tree := lay(text)
		most := 0
		for n := range tree.Parts {
			most = max(most, depthOfPart(tree.Parts, n))
		}
		if most != impl.MaxNest {
			t.Errorf("%s: depth %d", what, most)
		}
		wantBound(t, what, text)
	}
	tables := wrap(table(), func(x twig) twig { return say(impl.EUnary, table(item(x))).op(impl.OpNot) })
	wantBound(t, "tables", tables)
	wantBound(t, "fns", wrap(lambda(1, nil), func(x twig) twig { return say(impl.EUnary, lambda(1, nil, back(x))).op(impl.OpNot) }))
	fors := body()
	for range 49 {
		fors = body(state(impl.SFor, void(), void(), fors).named("i"))
	}
	wantBound(t, "fors", body(fors, state(impl.SFor, void(), void(), body()).named("i")))
}

// What is too large has no unit, but Closed tells what is closed over.
func TestClosedOfWhatIsTooLarge(t *testing.T) {
	text := body(lets(3, "a"), state(impl.SLet).named("b", "c").line(2), nameless(says("c", "a")),
		state(impl.SEach, void(), body()).named(someNames(5)...))
	wantTooLarge(t, "five names", text)
	tree := lay(text)
	expect := []impl.Decl{{Part: declaredOn(t, tree, 3)}, {Part: declaredOn(t, tree, 2), Place: 1}}
	if got := closedKept(t, "five names", tree); !slices.Equal(got, expect) {
		t.Errorf("%v, want %v", got, expect)
	}
	inner := body(state(impl.SEach, void(), body(nameless(says("n4", "n1")))).named(someNames(5)...))
	wantTooLarge(t, "closed over five", inner)
	tree = lay(inner)
	each := len(tree.Parts) - 2
	if got := closedKept(t, "closed over five", tree); !slices.Equal(got, []impl.Decl{{Part: each, Place: 1}, {Part: each, Place: 4}}) {
		t.Error(got)
	}
	tree = lay(body(state(impl.SLet).named(someNames(200)...), lets(2, "a"), nameless(says("a", "n3"))))
	if got := closedKept(t, "201 variables", tree); !slices.Equal(got, []impl.Decl{{Part: 0, Place: 3}, {Part: 1}}) {
		t.Error(got)
	}
}
