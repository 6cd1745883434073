package tests

import (
	"fmt"
	"math"
	"strings"
	"testing"

	"loop.example/reed/impl"
)

// wide is a tree of so many parts.
func wide(parts int) impl.Tree {
	var statements []twig
	for left := parts - 1; left > 0; {
		var values []twig
		for left--; left > 0 && len(values) < impl.MaxKids; left-- {
			values = append(values, say(impl.ENil))
		}
		statements = append(statements, back(values...))
	}
	return lay(body(statements...))
}

// nested is a tree of blocks whose deepest part has that depth.
func nested(depth int) twig {
	t := body()
	for range depth {
		t = body(t)
	}
	return t
}

func TestSizeOfTree(t *testing.T) {
	wantTree(t, "no parts", impl.Tree{}, 1, 0)
	for parts, code := range map[int]int{1: 0, 2: 0, 2999: 0, 3000: 0, 3001: 1, 9000: 1} {
		tree := wide(parts)
		if len(tree.Parts) != parts {
			t.Fatalf("%d parts, not %d", len(tree.Parts), parts)
		}
		wantTree(t, fmt.Sprintf("%d parts", parts), tree, code, 0)
	}
	wantTree(t, "3001 parts that are nothing", impl.Tree{Parts: make([]impl.Part, 3001)}, 1, 0)
	wantTree(t, "3000 parts that are nothing", impl.Tree{Parts: make([]impl.Part, 3000)}, 1, 0)
}

func TestLastPart(t *testing.T) {
	for _, kind := range kindsInOrder() {
		sample := samples()[kind]
		if kind != impl.SBlock {
			wantTree(t, fmt.Sprintf("kind %d last", kind), lay(sample), 1, 0)
		}
	}
	wantTree(t, "no kind last", impl.Tree{Parts: make([]impl.Part, 1)}, 1, 0)
	wantTree(t, "a SBlock that is not as its row says", impl.Tree{Parts: []impl.Part{{Kind: impl.SBlock}}}, 2, 0)
	wantSound(t, "an empty text", lay(body()))
}

func TestLinesOfParts(t *testing.T) {
	lines := map[int]bool{math.MinInt: false, -1: false, 1: true, 100000: true, 100001: false, math.MaxInt: false, 1 << 32: false}
	for _, kind := range kindsInOrder() {
		part := samples()[kind]
		for line, fits := range lines {
			wantRow(t, fmt.Sprintf("kind %d, line %d", kind, line), part.line(line), fits)
		}
		wantRow(t, fmt.Sprintf("kind %d, line 0", kind), part.line(0), kind >= impl.ENil)
	}
	tree := lay(body())
	tree.Parts[0].Line = 0
	wantTree(t, "the text itself has line 0", tree, 2, 0)
}

func TestFromAndTo(t *testing.T) {
	for i, c := range []struct {
		from, to int
		fits     bool
	}{
		{0, 0, true}, {0, 1, true}, {1, 1, true}, {1, 2, true}, {0, math.MaxInt, true}, {math.MaxInt, math.MaxInt, true},
		{1, 0, false}, {2, 1, false}, {-1, 0, false}, {-1, -1, false}, {0, -1, false},
		{-2, 5, false}, {math.MinInt, math.MaxInt, false}, {math.MaxInt, math.MinInt, false}, {math.MinInt, math.MinInt, false},
	} {
		for _, kind := range kindsInOrder() {
			part := samples()[kind]
			part.part.From, part.part.To = c.from, c.to
			wantRow(t, fmt.Sprintf("case %d, kind %d", i, kind), part, c.fits)
		}
	}
	// Parts need not lie in one another, nor in the order of the text.
	tree := richTree()
	for n := range tree.Parts {
		tree.Parts[n].From, tree.Parts[n].To, tree.Parts[n].Line = 1000-n, 2000-2*n, 500-n
	}
	wantSound(t, "places against the order", tree)
}

func many(n int, t twig) []twig {
	list := make([]twig, n)
	for i := range list {
		list[i] = t
	}
	return list
}

func TestNumberOfKidsOfParts(t *testing.T) {
	none := say(impl.ENil)
	for n, fits := range map[int]bool{0: true, 199: true, 200: true, 201: false, 1000: false} {
		what := fmt.Sprintf("%d kids", n)
		wantRow(t, what, body(many(n, back())...), fits)
		wantRow(t, what, back(many(n, none)...), fits)
		wantRow(t, what, state(impl.SLet, many(n, none)...).named("a"), fits)
		wantRow(t, what, say(impl.ETable, many(n, say(impl.NItem, none))...), fits)
		wantRow(t, what, dial(many(n, none)...), fits && n > 0)
		wantRow(t, what, state(impl.SSet, many(n, word("x"))...).num(int64(n-1)), fits && n > 1)
	}
}

func TestNumberOfNames(t *testing.T) {
	for n, fits := range map[int]bool{199: true, 200: true, 201: false, 5000: false} {
		what := fmt.Sprintf("%d names", n)
		wantRow(t, what, state(impl.SLet).named(names(n)...), fits)
		wantRow(t, what, state(impl.SEach, word("x"), body()).named(names(n)...), fits)
		wantRow(t, what, say(impl.EFn, body()).named(names(n)...), fits)
		wantRow(t, what, say(impl.ENil).named(names(n)...), false)
	}
	for n := range 6 {
		what := fmt.Sprintf("%d names", n)
		wantRow(t, what, state(impl.SLet).named(names(n)...), n >= 1)
		wantRow(t, what, state(impl.SConst, number(1)).named(names(n)...), n == 1)
		wantRow(t, what, state(impl.SFn, say(impl.EFn, body())).named(names(n)...), n == 1)
		wantRow(t, what, state(impl.SFor, number(1), number(2), body()).named(names(n)...), n == 1)
		wantRow(t, what, state(impl.SEach, word("x"), body()).named(names(n)...), n >= 1)
		wantRow(t, what, state(impl.STry, body(), body()).named(names(n)...), n == 1 || n == 2)
		wantRow(t, what, say(impl.EFn, body()).named(names(n)...), true)
	}
}

// holders has every place where a name stands.
func holders(name string) []twig {
	none := say(impl.ENil)
	return []twig{
		word(name), say(impl.EField, none).text(name), say(impl.NNamed, none).text(name),
		state(impl.SLet).named(name), state(impl.SLet).named("ok", name, "ok"),
		state(impl.SConst, none).named(name), state(impl.SFn, say(impl.EFn, body())).named(name),
		state(impl.SFor, none, none, body()).named(name),
		state(impl.SEach, none, body()).named(name), state(impl.SEach, none, body()).named("ok", "ok", name),
		state(impl.STry, body(), body()).named(name), state(impl.STry, body(), body()).named("ok", name),
		say(impl.EFn, body()).named(name), say(impl.EFn, body()).named("ok", name).op(1),
	}
}

func wantName(t *testing.T, name string, fits bool) {
	t.Helper()
	for i, part := range holders(name) {
		wantRow(t, fmt.Sprintf("name %q at holder %d", name, i), part, fits)
	}
}

func TestWordsAreNoNames(t *testing.T) {
	words := []string{
		"and", "break", "catch", "const", "defer", "elif", "else", "false", "fn", "for", "if",
		"in", "let", "next", "nil", "not", "or", "return", "throw", "true", "try", "while",
	}
	if strings.Join(words, " ") != wordsThatAreNoNames {
		t.Error("the two lists of words are not the same")
	}
	for _, w := range words {
		wantName(t, w, false)
		wantName(t, strings.ToUpper(w), true)
		wantName(t, strings.ToUpper(w[:1])+w[1:], true)
		wantName(t, w+"_", true)
		wantName(t, "_"+w, true)
		wantName(t, w+"1", true)
		wantName(t, w[:len(w)-1], true)
		wantName(t, w+" ", false)
	}
	for _, w := range []string{"main", "do", "then", "end", "do", "local", "function", "continue", "var", "print", "read", "task", "yield", "self", "import", "switch", "catch1", "finally", "is", "of", "item"} {
		wantName(t, w, true)
	}
}

func TestBytesOfNames(t *testing.T) {
	for c := range 256 {
		letter := c >= 'a' && c <= 'z' || c >= 'A' && c <= 'Z' || c == '_'
		digit := c >= '0' && c <= '9'
		wantName(t, string([]byte{byte(c)}), letter)
		wantName(t, string([]byte{byte(c), 'x'}), letter)
		wantName(t, string([]byte{'x', byte(c)}), letter || digit)
		wantName(t, string([]byte{'x', byte(c), 'y'}), letter || digit)
	}
	for n, fits := range map[int]bool{0: false, 1: true, 39: true, 40: true, 41: false, 4000: false} {
		wantName(t, strings.Repeat("n", n), fits)
		wantName(t, strings.Repeat("_", n), fits)
	}
	wantName(t, "a"+strings.Repeat("9", 39), true)
	wantName(t, "a"+strings.Repeat("9", 40), false)
	for _, name := range []string{"\u00e9", "x\u00e9", "na me", " x", "x\n", "a.b", "a-b", "7up", "x\x00"} {
		wantName(t, name, false)
	}
}

func TestBytesOfTexts(t *testing.T) {
	for n, fits := range map[int]bool{0: true, 1: true, 41: true, 3999: true, 4000: true, 4001: false, 100000: false} {
		wantRow(t, fmt.Sprintf("%d bytes", n), say(impl.EStr).text(strings.Repeat("\xff", n)), fits)
	}
	wantRow(t, "4000 bytes of 2000 letters", say(impl.EStr).text(strings.Repeat("\u00e9", 2000)), true)
	wantRow(t, "4002 bytes of 2001 letters", say(impl.EStr).text(strings.Repeat("\u00e9", 2001)), false)
	for _, word := range strings.Fields(wordsThatAreNoNames) {
		wantRow(t, "a text that is a word", say(impl.EStr).text(word), true)
	}
}

func TestDepthOfParts(t *testing.T) {
	wantSound(t, "depth 0", lay(nested(0)))
	wantSound(t, "depth 99", lay(nested(99)))
	wantSound(t, "depth 100", lay(nested(100)))
	wantTree(t, "depth 101", lay(nested(101)), 4, 0)
	wantTree(t, "depth 2999", lay(nested(2999)), 4, 0)
	wantTree(t, "3001 in one another", lay(nested(3000)), 1, 0)
	// A shallow one stands ahead: the deep one of the least number is told, which is the deepest.
	wantTree(t, "a shallow one ahead", lay(body(back(number(1)), nested(103))), 4, 2)
	wantTree(t, "two deep ones", lay(body(nested(99), nested(101), nested(102))), 4, 100)
	// The last too deep one need not be a leaf.
	chain := body(body(), body())
	for range 99 {
		chain = body(chain)
	}
	wantTree(t, "two leaves too deep", lay(body(chain)), 4, 0)
	wantSound(t, "two leaves just not too deep", lay(chain))
	e := say(impl.ENil)
	for range 98 {
		e = say(impl.EUnary, e).op(impl.OpNot)
	}
	wantSound(t, "expressions of depth 100", lay(body(back(e))))
	wantTree(t, "expressions of depth 101", lay(body(body(back(e)))), 4, 0)
	// Each fn around adds five: its SBlock, SReturn, ETable, NItem and EFn.
	f := say(impl.EFn, body())
	for range 19 {
		f = say(impl.EFn, body(back(say(impl.ETable, say(impl.NItem, f)))))
	}
	wantSound(t, "fns of depth 100", lay(body(body(body(back(f))))))
	wantTree(t, "fns of depth 101", lay(body(body(body(body(back(f)))))), 4, 0)
}
