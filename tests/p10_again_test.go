package tests

import (
	"fmt"
	"testing"

	"loop.example/reed/impl"
)

func again() []int { return []int{isAgain} }

// readX is a use of the name that is declared again; it keeps the notes of other codes away.
func readX() twig { return does(word("x")) }

// againIn puts what declares x again, and reads it, to where the first x holds; its own notes stand on it.
func againIn(what string, codes []int) []twig {
	read := readX()
	switch what {
	case "let":
		return []twig{lets(2, "x").noted(codes...), read}
	case "let of several":
		return []twig{state(impl.SLet).named("_k", "x").notedAt(1, codes...), read}
	case "const":
		return []twig{fixes(2, "x", void()).noted(codes...), read}
	case "fn":
		return []twig{makes(2, "x", lambda(0, nil)).noted(codes...), read}
	case "for":
		return []twig{state(impl.SFor, void(), void(), body(read)).named("x").noted(codes...)}
	case "each":
		return []twig{state(impl.SEach, void(), body(read)).named("_k", "_l", "x").notedAt(2, codes...)}
	case "try":
		return []twig{state(impl.STry, body(), body(read)).named("_k", "x").notedAt(1, codes...)}
	}
	return []twig{does(lambda(0, []string{"_k", "x"}, read))}
}

func waysToDeclare() []string {
	return []string{"let", "let of several", "const", "fn", "for", "each", "try", "parameter"}
}

// A name of each kind, declared again by each kind. A parameter is the first thing of its own fn, and so none is declared already there.
func TestDeclaredAgain(t *testing.T) {
	read := readX()
	for _, kind := range waysToDeclare() {
		second, other := againIn(kind, again()), againIn(kind, nil)
		for where, text := range homes() {
			what := kind + " behind " + where
			wantAdvice(t, what, text(nil, append([]twig{read}, second...)...))
			wantAdvice(t, what+", in a block", text(nil, read, body(body(second...))))
			wantAdvice(t, what+", in a loop", text(nil, read, state(impl.SWhile, further(), body(second...))))
			wantAdvice(t, what+", in another fn", text(nil, read, calls(other...)))
			wantAdvice(t, what+", in a fn in fns", text(nil, read, calls(body(calls(other...)))))
		}
		what := kind + " behind a const"
		wantAdvice(t, what, body(append([]twig{fixes(1, "x", void()), read}, second...)...))
		wantAdvice(t, what+", in a block", body(fixes(1, "x", void()), read, body(second...)))
		wantAdvice(t, what+", in another fn", body(fixes(1, "x", void()), read, calls(other...)))
		wantAdvice(t, kind+" of a name that was nothing", body(append([]twig{read}, other...)...))
	}
}

// Where a name does not hold, it is not declared already.
func TestNotDeclaredAgain(t *testing.T) {
	read := readX()
	for _, what := range waysToDeclare() {
		own := againIn(what, nil)
		wantAdvice(t, what+" behind a block", body(append([]twig{body(lets(1, "x"), read)}, own...)...))
		wantAdvice(t, what+" beside a block", body(body(lets(1, "x"), read), body(own...), body(fixes(3, "x", void()), read)))
		wantAdvice(t, what+" behind a for", body(append([]twig{state(impl.SFor, void(), void(), body(read)).named("x")}, own...)...))
		wantAdvice(t, what+" behind a try", body(append([]twig{state(impl.STry, body(), body(read)).named("x")}, own...)...))
		wantAdvice(t, what+" in a try's first block", body(state(impl.STry, body(own...), body(read)).named("x")))
		wantAdvice(t, what+" behind a fn", body(append([]twig{does(lambda(0, []string{"x"}, lets(1, "x").noted(isWritten, isAgain), writes("x")).noted(isUnused))}, own...)...))
		wantAdvice(t, what+" in a fn in a for's bounds", body(state(impl.SFor, lambda(0, nil, own...), void(), body(read)).named("x")))
		wantAdvice(t, what+" in a then", body(state(impl.SIf, further(), body(lets(1, "x"), read), body(own...))))
		wantAdvice(t, what+" in a fn in a let's value", body(lets(1, "x", lambda(0, nil, own...)), read))
		wantAdvice(t, what+" with another name", body(append([]twig{lets(1, "X"), does(word("X"))}, own...)...))
	}
	for _, builtin := range []string{"print", "cells"} {
		wantAdvice(t, "a builtin", body(does(word(builtin)), lets(1, builtin), does(word(builtin))))
	}
}

// The parts of one block in a row: each but the first is declared already, and by the one just ahead of it.
func TestDeclaredAgainAndAgain(t *testing.T) {
	x := word("x")
	wantAdvice(t, "in a row", body(lets(1, "x"), lets(2, "x", x).noted(isAgain), fixes(3, "x", x).noted(isAgain, isDeadConst), makes(4, "x", lambda(0, nil, does(x))).noted(isAgain),
		state(impl.SFor, x, x, body(lets(5, "x", x).noted(isAgain), does(x))).named("x").noted(isAgain), does(x)))
	// A deep nest: each is declared already by the one around it, none in the fn inside.
	inner := body(does(word("x")), calls(lets(1, "x"), does(word("x")), body(lets(2, "x").noted(isAgain), does(word("x")))))
	for range 60 {
		inner = body(lets(3, "x").noted(isAgain), does(word("x")), inner)
	}
	wantAdvice(t, "nested", body(lets(4, "x"), does(word("x")), inner))
	// An x of a fn around does not count, though the x of a fn around that is one of the text.
	wantAdvice(t, "in each fn anew", body(lets(1, "x"), does(x), calls(lets(2, "x"), does(x), calls(lets(3, "x"), does(x), lets(4, "x").noted(isAgain), does(x)))))
	wantAdvice(t, "a fn and its parameter", body(makes(1, "x", lambda(0, []string{"x"}, does(x))), does(x)))
	wantAdvice(t, "a fn and a variable of its body", body(makes(1, "x", lambda(0, nil, lets(2, "x"), does(x))), does(x)))
	wantAdvice(t, "a parameter and a variable of its body", body(does(lambda(0, []string{"x"}, lets(2, "x", x).noted(isAgain), does(x)))))
	wantAdvice(t, "a parameter and one of its fn", body(does(lambda(0, []string{"x"}, does(x), calls(), makes(1, "x", lambda(0, []string{"x"}, does(x))).noted(isAgain), does(x)))))
	wantAdvice(t, "a loop's variable in its block", body(state(impl.SEach, void(), body(does(x), state(impl.STry, body(), body(does(x))).named("x").noted(isAgain))).named("x")))
}

// Of a name that one part declares twice the first one alone is declared already, and that only by another part.
func TestOnePartTwice(t *testing.T) {
	a := does(word("a"))
	for what, part := range map[string]func(inside ...twig) twig{
		"let": func(inside ...twig) twig {
			return body(append([]twig{state(impl.SLet).named("a", "b", "a")}, inside...)...)
		},
		"each": func(inside ...twig) twig {
			return body(state(impl.SEach, void(), body(inside...)).named("a", "b", "a"))
		},
		"parameters": func(inside ...twig) twig {
			return body(does(lambda(0, []string{"a", "b", "a"}, inside...)))
		},
	} {
		for _, mine := range []string{"alone", "behind one"} {
			text := part(a, does(word("b")))
			noteFirst(&text, mine == "behind one" && what != "parameters")
			ahead := map[string][]twig{"behind one": {lets(1, "a"), a}}[mine]
			wantAdvice(t, fmt.Sprint(what, " ", mine), body(append(ahead, text)...))
		}
	}
	try := state(impl.STry, body(), body(does(word("e")))).named("e", "e")
	wantAdvice(t, "try", body(try.noted(isUnused)))
	wantAdvice(t, "try behind one", body(lets(1, "e"), does(word("e")), try.noted(isUnused, isAgain)))
	wantAdvice(t, "two of the names", body(lets(1, "a"), lets(2, "b"), does(word("a"), word("b")),
		state(impl.SLet).named("b", "a", "b", "a", "c").noted(isUnused, isAgain).notedAt(1, isUnused, isAgain), does(word("a"), word("b"), word("c"))))
	wantAdvice(t, "lines", body(lets(1, "_"), state(impl.SLet).named("_", "_", "_").noted(isAgain), state(impl.SEach, void(), body()).named("_", "_").noted(isAgain)))
}

// noteFirst puts the notes of the first a of three names to the one part that has so many: it is used nowhere, since the last one hides it.
func noteFirst(t *twig, again bool) {
	if len(t.part.Names) == 3 {
		t.notes = []impl.Note{{Code: isUnused}}
		if again {
			t.notes = append(t.notes, impl.Note{Code: isAgain})
		}
	}
	for i := range t.kids {
		noteFirst(&t.kids[i], again)
	}
}
