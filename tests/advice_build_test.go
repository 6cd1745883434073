package tests

import (
	"cmp"
	"slices"
	"testing"

	"loop.example/reed/impl"
)

// The codes of notes.
const (
	isUnused    = 1
	isWritten   = 2
	isAgain     = 3
	isBehind    = 4
	isKnown     = 5
	isDeadConst = 6
)

// noted says that Advice should have notes of these codes for the part, with Place 0.
func (t twig) noted(codes ...int) twig { return t.notedAt(0, codes...) }

// notedAt says so of one of the part's names.
func (t twig) notedAt(place int, codes ...int) twig {
	t.notes = slices.Clone(t.notes)
	for _, code := range codes {
		t.notes = append(t.notes, impl.Note{Place: place, Code: code})
	}
	return t
}

// notesOn has the notes of a twig and of what stands below it, by part; first is the place of the first part below it.
func notesOn(t twig, first int) []impl.Note {
	var all []impl.Note
	for _, k := range t.kids {
		all = append(all, notesOn(k, first)...)
		first += k.size()
	}
	for _, note := range t.notes {
		note.Part = first
		all = append(all, note)
	}
	return all
}

// adviceKept asks twice, that the tree stays as it is, and what holds of every answer.
func adviceKept(t *testing.T, what string, tree impl.Tree) []impl.Note {
	t.Helper()
	kept := copyTree(tree)
	got := impl.Advice(tree)
	if !slices.Equal(impl.Advice(tree), got) {
		t.Errorf("%s: the same tree has other notes", what)
	}
	if !sameTree(tree, kept) {
		t.Errorf("%s: the tree was written into", what)
	}
	if len(got) > 0 && impl.TreeOk(tree) != (impl.Wrong{}) {
		t.Fatalf("%s: notes of a tree that is not sound", what)
	}
	for i, note := range got {
		if i > 0 && orderOfNotes(got[i-1], note) >= 0 {
			t.Errorf("%s: %v stands ahead of %v", what, got[i-1], note)
		}
		holdNote(t, what, tree, note)
	}
	return got
}

func orderOfNotes(a, b impl.Note) int {
	return cmp.Or(cmp.Compare(a.Part, b.Part), cmp.Compare(a.Place, b.Place), cmp.Compare(a.Code, b.Code))
}

// holdNote asks that the part and place of a note may have its code.
func holdNote(t *testing.T, what string, tree impl.Tree, note impl.Note) {
	t.Helper()
	if note.Part < 0 || note.Part >= len(tree.Parts) {
		t.Fatalf("%s: %v of no part", what, note)
	}
	p := tree.Parts[note.Part]
	names, fixed := len(p.Names), p.Kind == impl.SConst
	fits := false
	switch note.Code {
	case isUnused, isWritten:
		fits = note.Place >= 0 && note.Place < names && !fixed
	case isAgain:
		fits = note.Place >= 0 && note.Place < names
	case isBehind:
		fits = note.Place == 0 && p.Kind <= impl.SDefer
	case isKnown:
		fits = note.Place == 0 && p.Kind >= impl.ENil && p.Kind <= impl.EOne
	case isDeadConst:
		fits = note.Place == 0 && fixed
	}
	if !fits {
		t.Errorf("%s: %v of a part of kind %d with %d names", what, note, p.Kind, names)
	}
}

// wantAdvice asks for just the notes that stand on the twigs, in the order of the parts.
func wantAdvice(t *testing.T, what string, text twig) {
	t.Helper()
	tree := lay(text)
	wantSound(t, what, tree)
	got, want := adviceKept(t, what, tree), notesOn(text, 0)
	for i := range max(len(got), len(want)) {
		if i >= len(got) || i >= len(want) || got[i] != want[i] {
			t.Errorf("%s: after %d that are right\n got %.60v\nwant %.60v", what, i, got[min(i, len(got)):], want[min(i, len(want)):])
			return
		}
	}
}

// home is a text that declares a variable, x, with these notes; what is inside stands where x holds.
type home func(codes []int, inside ...twig) twig

// homeBehind has the inside behind the part that declares x with its name place.
func homeBehind(place int, part twig) home {
	return func(codes []int, inside ...twig) twig {
		return body(append([]twig{part.notedAt(place, codes...)}, inside...)...)
	}
}

// homeWithin has the inside in a block that is the last kid of that part.
func homeWithin(place int, part twig) home {
	return func(codes []int, inside ...twig) twig {
		within := part.notedAt(place, codes...)
		within.kids = append(slices.Clone(part.kids), body(inside...))
		if part.part.Kind == impl.EFn {
			return body(does(within))
		}
		return body(within)
	}
}

// homes has each kind of part that declares variables, with x as its one name, its first or its last one. The other names begin with _.
func homes() map[string]home {
	let, each, try := state(impl.SLet, number(1)), state(impl.SEach, void()), state(impl.STry, body())
	count, further := state(impl.SFor, number(1), number(2)), state(impl.SFor, number(1), number(2), number(3))
	return map[string]home{
		"let":              homeBehind(0, lets(1, "x")),
		"let with a value": homeBehind(0, let.named("x")),
		"let, first":       homeBehind(0, let.named("x", "_p")),
		"let, last":        homeBehind(1, let.named("_p", "x")),
		"fn":               homeBehind(0, makes(1, "x", lambda(0, nil))),
		"for of two":       homeWithin(0, count.named("x")),
		"for":              homeWithin(0, further.named("x")),
		"each":             homeWithin(0, each.named("x")),
		"each, first":      homeWithin(0, each.named("x", "_p")),
		"each, last":       homeWithin(4, each.named("_p", "_q", "_r", "_s", "x")),
		"try":              homeWithin(0, try.named("x")),
		"try, first":       homeWithin(0, try.named("x", "_p")),
		"try, last":        homeWithin(1, try.named("_p", "x")),
		"parameter":        homeWithin(0, say(impl.EFn).named("x")),
		"parameter, first": homeWithin(0, say(impl.EFn).named("x", "_p")),
		"parameter, last":  homeWithin(1, say(impl.EFn).named("_p", "x")),
	}
}

// wantAtHomes asks at each home of x for these codes, with this inside.
func wantAtHomes(t *testing.T, what string, codes []int, inside ...twig) {
	t.Helper()
	for where, text := range homes() {
		wantAdvice(t, where+": "+what, text(codes, inside...))
	}
}

// calls has an EFn without parameters in a statement that does not leave its block.
func calls(statements ...twig) twig { return does(lambda(0, nil, statements...)) }
