package tests

import (
	"testing"

	"loop.example/reed/impl"
)

// wantUps asks what each fn closes over, fn 0 included.
func wantUps(t *testing.T, what string, text twig, ups ...[]impl.Up) {
	t.Helper()
	u := wantBound(t, what, text)
	if len(u.Fns) != len(ups) {
		t.Fatalf("%s: %d fns", what, len(u.Fns))
	}
	for f, expect := range ups {
		got := u.Fns[f].Ups
		same := len(got) == len(expect)
		for i := range got {
			same = same && got[i] == expect[i]
		}
		if !same {
			t.Errorf("%s: fn %d closes over %v, want %v", what, f, got, expect)
		}
	}
}

func ups(list ...impl.Up) []impl.Up { return list }

func TestUpsOfOneFn(t *testing.T) {
	abc := state(impl.SLet).named("a", "b", "c")
	wantUps(t, "none", body(abc, nameless(lets(1, "a"), says("a"))), nil, nil)
	wantUps(t, "in the order of need", body(abc, nameless(says("c", "a", "b"))), nil, ups(local(2), local(0), local(1)))
	wantUps(t, "each once", body(abc, nameless(says("b", "a", "b"), says("a", "b"))), nil, ups(local(1), local(0)))
	wantUps(t, "only written", body(abc, nameless(sets(1, word("b"), void()))), nil, ups(local(1)))
	wantUps(t, "targets ahead of values", body(abc, nameless(sets(2, word("c"), index(word("b"), void()), word("a")))),
		nil, ups(local(2), local(1), local(0)))
	wantUps(t, "by their numbers, not their names", body(lets(1, "a"), lets(2, "a"), nameless(says("a")), lets(3, "a"), nameless(says("a"))),
		nil, ups(local(1)), ups(local(2)))
	wantUps(t, "two of one name", body(lets(1, "a"), nameless(says("a"), body(lets(2, "a"), says("a")), says("a"))), nil, ups(local(0)))
	wantUps(t, "fns side by side", body(abc, nameless(says("b")), nameless(says("c", "b")), nameless()),
		nil, ups(local(1)), ups(local(2), local(1)), nil)
	wantUps(t, "parameters", body(back(lambda(1, []string{"p", "q"}, nameless(says("q", "p"))))), nil, nil, ups(local(1), local(0)))
	wantUps(t, "consts and builtins", body(fixes(1, "k", number(1)), abc, nameless(says("k", "print", "b", "read"))), nil, ups(local(1)))
	wantUps(t, "loops' variables", body(state(impl.SFor, void(), void(), body(nameless(says("i")))).named("i"),
		state(impl.SEach, void(), body(nameless(says("v", "k")))).named("k", "v")), nil, ups(local(0)), ups(local(2), local(1)))
	wantUps(t, "a try's", body(state(impl.STry, body(lets(1, "x"), nameless(says("x"))), body(nameless(says("f", "e")))).named("e", "f")),
		nil, ups(local(0)), ups(local(2), local(1)))
	wantUps(t, "itself", body(lets(1, "a"), makes(2, "f", lambda(2, nil, says("a", "f")))), nil, ups(local(0), local(1)))
	wantUps(t, "further in the same block", body(lets(1, "a"), body(lets(2, "b"), body(lets(3, "c"), nameless(says("c", "a", "b"))))),
		nil, ups(local(2), local(0), local(1)))
}

func TestUpsOfFnsInOneAnother(t *testing.T) {
	ab := state(impl.SLet).named("a", "b")
	wantUps(t, "handed on by one", body(ab, nameless(nameless(says("b")))), nil, ups(local(1)), ups(handed(0)))
	wantUps(t, "handed on by three", body(ab, nameless(nameless(nameless(nameless(says("b", "a")))))),
		nil, ups(local(1), local(0)), ups(handed(0), handed(1)), ups(handed(0), handed(1)), ups(handed(0), handed(1)))
	wantUps(t, "the one in between uses another first", body(ab, nameless(says("a"), nameless(says("b", "a")))),
		nil, ups(local(0), local(1)), ups(handed(1), handed(0)))
	wantUps(t, "the one in between uses another later", body(ab, nameless(nameless(says("b")), says("a", "b"))),
		nil, ups(local(1), local(0)), ups(handed(0)))
	wantUps(t, "of two fns around", body(lets(1, "a"), nameless(lets(2, "x"), lets(3, "y"), nameless(says("y", "a", "x")))),
		nil, ups(local(0)), ups(local(1), handed(0), local(0)))
	wantUps(t, "of three fns around", body(lets(1, "a"), nameless(lets(2, "b"), nameless(lets(3, "c"), nameless(says("c", "b", "a"))))),
		nil, ups(local(0)), ups(local(0), handed(0)), ups(local(0), handed(0), handed(1)))
	wantUps(t, "two inside hand on different ones", body(ab, nameless(nameless(says("b")), nameless(says("a")), nameless(says("a", "b")))),
		nil, ups(local(1), local(0)), ups(handed(0)), ups(handed(1)), ups(handed(1), handed(0)))
	wantUps(t, "one inside, one behind", body(ab, nameless(nameless(nameless(says("a"))), says("b"))),
		nil, ups(local(0), local(1)), ups(handed(0)), ups(handed(0)))
	wantUps(t, "a number that is a place of another", body(lets(1, "a"), lets(2, "b"), lets(3, "c"),
		nameless(lets(4, "d"), says("c"), nameless(says("b", "d", "c")))),
		nil, ups(local(2), local(1)), ups(handed(1), local(0), handed(0)))
	wantUps(t, "the same name at each step", body(lets(1, "a"), nameless(says("a"), lets(2, "a"), nameless(says("a"), lets(3, "a"), nameless(says("a"))))),
		nil, ups(local(0)), ups(local(0)), ups(local(0)))
	wantUps(t, "an own fn from inside", body(makes(1, "f", lambda(1, nil, makes(2, "g", lambda(2, nil, says("f", "g")))))),
		nil, ups(local(0)), ups(handed(0), local(0)))
	wantUps(t, "by a fn behind", body(ab, nameless(lets(1, "x"), nameless(nameless(says("x")), nameless(says("a"))), nameless(says("b", "x")))),
		nil, ups(local(0), local(1)), ups(local(0), handed(0)), ups(handed(0)), ups(handed(1)), ups(handed(1), local(0)))
}

// The nodes name places in Ups, not variables.
func TestNodesOfUps(t *testing.T) {
	text := body(
		state(impl.SLet).named("a", "b"),
		makes(2, "f", lambda(3, []string{"p"},
			sets(1, word("b"), word("p")).line(4),
			back(lambda(5, nil, sets(2, word("p"), word("a"), word("b"), word("f")).line(6))).line(7))),
	)
	wantUnit(t, "three fns", text,
		textFn(block(at(1, impl.NLet).refs(0, 1), let(2).onLine(2), at(2, impl.NSet, use(2), fn(1)).num(1)), "a", "b", "f"),
		impl.Fn{Name: "f", Line: 3, Params: 1, Vars: []string{"p"}, Ups: ups(local(1), local(0), local(2)), Nodes: grow(block(
			at(4, impl.NSet, up(0), use(0)).num(1), give(fn(2)).onLine(7)))},
		impl.Fn{Line: 5, Ups: ups(local(0), handed(1), handed(0), handed(2)), Nodes: grow(block(
			at(6, impl.NSet, up(0), up(1), up(2), up(3)).num(2)))})
}

// A fn far inside needs a variable of each of the fns around it.
func TestUpsFarInside(t *testing.T) {
	const depth = 20
	list := someNames(depth)
	inside := says(list...)
	for i := depth - 1; i > 0; i-- {
		inside = nameless(lets(1, list[i]), inside)
	}
	u := wantBound(t, "far inside", body(lets(1, list[0]), inside))
	if len(u.Fns) != depth {
		t.Fatal(len(u.Fns))
	}
	for f := 1; f < depth; f++ {
		// Those ahead of the last one are of fns further out, in their order.
		var expect []impl.Up
		for place := range f - 1 {
			expect = append(expect, handed(place))
		}
		expect = append(expect, local(0))
		for i, up := range expect {
			if len(u.Fns[f].Ups) != f || u.Fns[f].Ups[i] != up {
				t.Fatalf("fn %d: %v, want %v", f, u.Fns[f].Ups, expect)
			}
		}
	}
}
