package tests

import (
	"fmt"
	"math/rand"
	"testing"

	"loop.example/reed/impl"
)

// holdFold holds the Fold of a unit against the second reading.
func holdFold(t *testing.T, what string, u impl.Unit) impl.Unit {
	t.Helper()
	got, expect := foldKept(t, what, u), copyUnit(modelFold(u))
	if !sameUnit(got, expect) {
		t.Fatalf("%s:\n got %s\nwant %s\n  of %s", what, sketch(got), sketch(expect), sketch(u))
	}
	return got
}

func TestFoldOfSownUnits(t *testing.T) {
	r := rand.New(rand.NewSource(81))
	fewer, same, nodes, gone := 0, 0, 0, map[int]int{}
	for round := range 2000 {
		u := someUnit(r)
		got := holdFold(t, fmt.Sprintf("round %d", round), u)
		before, after := nodesOf(u), nodesOf(got)
		nodes += before
		if after < before {
			fewer++
		} else {
			same++
		}
		for f := range u.Fns {
			for _, n := range u.Fns[f].Nodes {
				gone[n.Kind]++
			}
			for _, n := range got.Fns[f].Nodes {
				gone[n.Kind]--
			}
		}
	}
	if fewer < 1000 || same < 2 || gone[impl.NFn] != 0 {
		t.Errorf("%d with fewer nodes, %d with the same, gone %v", fewer, same, gone)
	}
	for _, kind := range []int{impl.NUnary, impl.NBinary, impl.NAnd, impl.NOr, impl.NIf, impl.NBlock, impl.NReturn, impl.NLet, impl.NTry} {
		if gone[kind] < 50 {
			t.Errorf("kind %d was left out only %d times", kind, gone[kind])
		}
	}
	t.Log(fewer, same, nodes, gone)
}

// Units that come from trees.
func TestFoldOfBoundTrees(t *testing.T) {
	r := rand.New(rand.NewSource(82))
	fewer := 0
	for round := range 800 {
		u := impl.Bind(someBindable(r)).Unit
		got := holdFold(t, fmt.Sprintf("round %d", round), u)
		if nodesOf(got) < nodesOf(u) {
			fewer++
		}
	}
	if fewer < 100 {
		t.Errorf("only %d have fewer nodes", fewer)
	}
}

// Spoilt units, some of which are still valid.
func TestFoldOfSpoiltUnits(t *testing.T) {
	r := rand.New(rand.NewSource(83))
	codes := map[int]int{}
	for round := range 6000 {
		u := someUnit(r)
		if round%3 > 0 {
			u = []impl.Unit{richUnit(), loopUnit()}[round%2]
		}
		u = copyUnit(u)
		for range 1 + r.Intn(3) {
			spoil(r, &u)
		}
		code := impl.CheckUnit(u).Code
		codes[code]++
		if got := holdFold(t, fmt.Sprintf("round %d", round), u); (len(got.Fns) == 0) != (code != 0) {
			t.Fatalf("round %d: code %d and %d fns", round, code, len(got.Fns))
		}
	}
	for _, code := range []int{0, 2, 3, 4, 6, 7, 8, 9} {
		if codes[code] < 5 {
			t.Errorf("code %d came only %d times: %v", code, codes[code], codes)
		}
	}
	t.Log(codes)
}

// Units of nothing but odd numbers.
func TestFoldAnswersAtEveryArgument(t *testing.T) {
	r := rand.New(rand.NewSource(84))
	for round := range 20000 {
		holdFold(t, fmt.Sprintf("round %d", round), oddUnit(r))
	}
}
