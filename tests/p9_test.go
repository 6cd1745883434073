package tests

import (
	"fmt"
	"math/rand"
	"slices"
	"strings"
	"testing"

	"loop.example/reed/impl"
)

// sameReport compares what is told of values, since a NaN is not equal to itself and each run makes its own fns.
func sameReport(a, b report) bool {
	return slices.Equal(a.log, b.log) && toldAll(a.out) == toldAll(b.out) && toldAll(a.back) == toldAll(b.back) && a.end == b.end
}

// holdRuns asks that a unit and its Fold have the same report, and answers it.
func holdRuns(t *testing.T, what string, u impl.Unit, in impl.Input) report {
	t.Helper()
	folded := foldKept(t, what, u)
	before, after := runOf(u, in), runOf(folded, in)
	if !sameReport(before, after) {
		i := 0
		for i < min(len(before.log), len(after.log)) && before.log[i] == after.log[i] {
			i++
		}
		t.Fatalf("%s: the reports differ at record %d:\n%v\n%v\n%s, gives back %s\n%s, gives back %s\n  of %s\ninto %s", what, i, before.log[i:], after.log[i:],
			before.end, toldAll(before.back), after.end, toldAll(after.back), sketch(u), sketch(folded))
	}
	return before
}

func someInput(r *rand.Rand) impl.Input {
	in := impl.Input{Ticks: []int{0, 5, 30, 150, 400}[r.Intn(5)], Depth: 1 + r.Intn(8)}
	for i := range r.Intn(4) {
		in.Args = append(in.Args, fmt.Sprintf("arg %d", i))
	}
	for i := range r.Intn(3) {
		in.Lines = append(in.Lines, fmt.Sprintf("line %d", i))
	}
	return in
}

// runCase is a text, and what a run of it prints, gives back and ends with.
type runCase struct {
	what       string
	statements []sprout
	prints     string
	back       string
	end        string
}

// several is a call that gives three values.
func several() sprout {
	return call(builtin(impl.BText), whole(1), whole(2), whole(3))
}

func TestRunsOfFoldedUnits(t *testing.T) {
	join := func(x, y sprout) sprout { return binary(impl.OpJoin, x, y) }
	quoted := func(s string) string { return fmt.Sprintf("%q", s) }
	for _, c := range []runCase{
		{"a sum", []sprout{give(binary(impl.OpAdd, whole(1), whole(2)))}, "", "3", ""},
		{"a call that is left over gives one value", []sprout{give(and(truly(), several()))}, "", quoted("1"), ""},
		{"a call by itself gives all", []sprout{give(several())}, "", `"1", "2", "3"`, ""},
		{"rest that is left over gives one value", []sprout{give(or(null(), rest()))}, "", quoted("x"), ""},
		{"rest by itself gives all", []sprout{give(rest())}, "", `"x", "y"`, ""},
		{"an argument that is left over", []sprout{show(whole(7), or(falsely(), several()))}, `7, "1"`, "", ""},
		{"a value of a table that is left over", []sprout{let(3, ex(impl.NTable, whole(1), and(truly(), several()))), show(ex(impl.NIndex, use(3), whole(1)), ex(impl.NIndex, use(3), whole(2)))}, `"1", <nil>`, "", ""},
		{"an open end", []sprout{let(3, ex(impl.NTable, whole(1), several()).op(1)), show(ex(impl.NIndex, use(3), whole(2)))}, quoted("2"), "", ""},
		{"a let of what is left over", []sprout{at(1, impl.NLet, and(truly(), several())).refs(3, 4), show(use(3), use(4))}, `"1", <nil>`, "", ""},
		{"a false and does not call", []sprout{show(and(null(), call(builtin(impl.BPrint), whole(1))))}, "<nil>", "", ""},
		{"a true or does not call", []sprout{show(or(quote(""), call(builtin(impl.BPrint), whole(1))))}, quoted(""), "", ""},
		{"an unsure and calls", []sprout{show(and(or(null(), use(0)), call(builtin(impl.BPrint), whole(1))))}, "<nil>", "", ""},
		{"a variable that is true", []sprout{set(use(0), truly()), show(and(use(0), call(builtin(impl.BText), whole(1))))}, quoted("1"), "", ""},
		{"-0.0", []sprout{show(unary(impl.OpNeg, real(0)), binary(impl.OpDiv, whole(1), unary(impl.OpNeg, real(0))))}, told(minusZero()) + ", " + "fff0000000000000", "", ""},
		{"a NaN", []sprout{show(binary(impl.OpDiv, whole(0), whole(0))), when(binary(impl.OpDiv, whole(0), whole(0)), block(show(truly())), block(show(falsely())))}, "nan, true", "", ""},
		{"a join", []sprout{show(join(quote("a"), whole(1)), ex(impl.NTable))}, `"a1", table made 2 with 0`, "", ""},
		{"an error stays one", []sprout{show(whole(1)), show(binary(impl.OpIDiv, whole(1), whole(0)))}, "1", "", `thrown "operation refused"`},
		{"a join that is too long stays an error", []sprout{show(unary(impl.OpLen, join(quote(strings.Repeat("x", 4000)), quote("x"))))}, "", "", `thrown "operation refused"`},
		{"an error that is not met", []sprout{show(or(truly(), binary(impl.OpAdd, null(), null())), and(null(), unary(impl.OpNeg, null())))}, "true, <nil>", "", ""},
		{"an error behind a true and", []sprout{show(and(truly(), binary(impl.OpAdd, null(), null())))}, "", "", `thrown "operation refused"`},
		{"if true", []sprout{when(whole(0), block(show(whole(1))), block(show(whole(2)))), show(whole(3))}, "1, 3", "", ""},
		{"if false", []sprout{when(null(), block(show(whole(1)), give()), block(show(whole(2)))), show(whole(3))}, "2, 3", "", ""},
		{"if false, without a third", []sprout{when(null(), block(show(whole(1)), give())), show(whole(3))}, "3", "", ""},
		{"one if in another", []sprout{when(null(), block(give()), when(binary(impl.OpLt, whole(1), whole(2)), block(show(whole(1))), block(give()))), show(whole(2))}, "1, 2", "", ""},
		{"while false", []sprout{while(falsely(), block(show(whole(1)))), show(whole(2))}, "2", "", ""},
		{"while true", []sprout{set(use(0), whole(0)), while(truly(), block(set(use(0), binary(impl.OpAdd, use(0), whole(1))), when(binary(impl.OpGt, use(0), whole(3)), block(breaks(), show(null()))))), show(use(0))}, "4", "", ""},
		{"while true, without an end", []sprout{while(whole(0), block())}, "", "", "out of ticks"},
		{"behind a return", []sprout{show(whole(1)), give(whole(2)), show(whole(3)), give(whole(4))}, "1", "2", ""},
		{"behind a throw, in a try", []sprout{try(block(throws(quote("e")), show(whole(1))), block(show(use(3))), 3, 4), show(whole(2))}, `"e", 2`, "", ""},
		{"behind a break", []sprout{count(whole(1), whole(3), whole(1), block(show(use(3)), breaks(), show(null())), 3), show(whole(9))}, "1, 9", "", ""},
		{"behind a next", []sprout{count(whole(1), whole(3), whole(1), block(show(use(3)), nexts(), show(null())), 3), show(whole(9))}, "1, 2, 3, 9", "", ""},
		{"an end that a run goes round", []sprout{when(use(0), block(give())), block(when(truly(), block(show(whole(1))))), show(whole(2))}, "1, 2", "", ""},
		{"what is put off", []sprout{at(1, impl.NDefer, call(builtin(impl.BPrint), binary(impl.OpAdd, whole(1), whole(1)))), show(whole(1)), give(), at(1, impl.NDefer, call(builtin(impl.BPrint), whole(3)))}, "1, 2", "", ""},
		{"a fn that is made where a run may come", []sprout{let(3, and(truly(), fn(1))), show(use(3)), show(ex(impl.NTable))}, "fn 1 made 1, table made 2 with 0", "", ""},
		{"a fn that is made nowhere", []sprout{when(null(), block(show(fn(1)))), show(or(whole(1), fn(2))), while(null(), block(show(fn(3)))), give(), show(fn(4))}, "1", "", ""},
	} {
		u := unitFor(c.statements...)
		wantValid(t, c.what, u)
		r := holdRuns(t, c.what, u, impl.Input{Args: []string{"x", "y"}, Ticks: 300, Depth: 10})
		if out, back := toldAll(r.out), toldAll(r.back); out != c.prints || back != c.back || r.end != c.end {
			t.Errorf("%s: prints %s, gives back %s, ends with %q", c.what, out, back, r.end)
		}
	}
}

// A text that is bound, folded and run: closures, loops, catches and consts.
func TestRunsOfFoldedTexts(t *testing.T) {
	text := body(
		fixes(1, "debug", no()),
		lets(2, "n", number(0)),
		makes(3, "step", lambda(3, []string{"by"},
			state(impl.SIf, word("debug"), body(prints(str("step"))), body(prints(word("n")))).line(4),
			sets(1, word("n"), two(impl.OpAdd, word("n"), say(impl.EOr, word("by"), number(1)))),
			back(word("n"), two(impl.OpMul, number(2), number(21))),
			prints(str("never")))),
		state(impl.SWhile, two(impl.OpLt, word("n"), number(5)), body(
			does(word("step"), say(impl.EAnd, say(impl.ENil), dial(word("step")))),
			state(impl.SIf, two(impl.OpEq, word("n"), number(2)), body(state(impl.SNext), prints(str("never")))),
			does(word("print"), str("n"), say(impl.EAnd, one(impl.OpNot, word("debug")), dial(word("step"), number(2)))))),
		state(impl.STry, body(state(impl.SThrow, two(impl.OpJoin, str("n"), word("n"))), prints(str("never"))), body(prints(word("e")))).named("e"),
		back(say(impl.EOr, word("debug"), dial(word("step")))),
	)
	u := wantBound(t, "text", text)
	r := holdRuns(t, "text", u, impl.Input{Ticks: 1000, Depth: 10})
	if out, back := toldAll(r.out), toldAll(r.back); out != `0, 1, "n", 3, 3, 4, "n", 6, "n6", 6` || back != "7" || r.end != "" {
		t.Errorf("prints %s, gives back %s, ends with %q", out, back, r.end)
	}
	if before, after := nodesOf(u), nodesOf(impl.Fold(u)); after >= before {
		t.Errorf("%d nodes of %d", after, before)
	}
}

// Sown units, each with some inputs: the same records, and at each record the same open calls and variables.
func TestRunsOfSownUnits(t *testing.T) {
	r := rand.New(rand.NewSource(91))
	records, ends, printed := 0, map[string]int{}, 0
	for round := range 1500 {
		u := someUnit(r)
		for range 3 {
			got := holdRuns(t, fmt.Sprintf("round %d", round), u, someInput(r))
			records += len(got.log)
			printed += len(got.out)
			ends[strings.Fields(got.end + " end")[0]]++
		}
	}
	if records < 20000 || printed < 1000 || ends["out"] < 500 || ends["thrown"] < 500 || ends["end"] < 500 {
		t.Errorf("%d records, %d prints, %v", records, printed, ends)
	}
	t.Log(records, printed, ends)
}

func TestRunsOfBoundTrees(t *testing.T) {
	r := rand.New(rand.NewSource(92))
	records := 0
	for round := range 600 {
		if b := impl.Bind(someBindable(r)); b.Code == 0 {
			records += len(holdRuns(t, fmt.Sprintf("round %d", round), b.Unit, someInput(r)).log)
		}
	}
	if records < 3000 {
		t.Errorf("%d records", records)
	}
}

// Every statement that a run begins is left, with its line: here each has a line of its own.
func TestFoldLeavesWhatARunBegins(t *testing.T) {
	r := rand.New(rand.NewSource(93))
	begun, gone := 0, 0
	for round := range 1500 {
		u := copyUnit(someUnit(r))
		line := 0
		for f := range u.Fns {
			for n := range u.Fns[f].Nodes {
				if u.Fns[f].Nodes[n].Kind < impl.NNil {
					line++
					u.Fns[f].Nodes[n].Line = line
				}
			}
		}
		left := map[int]int{}
		for _, f := range impl.Fold(u).Fns {
			for _, n := range f.Nodes {
				left[n.Line]++
			}
		}
		in := someInput(r)
		in.Ticks = 1000
		for at := range beginsOf(runOf(u, in)) {
			begun++
			if left[at] != 1 {
				t.Fatalf("round %d: the statement on line %d is begun and left %d times:%s", round, at, left[at], sketch(u))
			}
		}
		delete(left, 0)
		gone += line - len(left)
	}
	if begun < 5000 || gone < 500 {
		t.Errorf("%d begun, %d left out", begun, gone)
	}
	t.Log(begun, gone)
}

// beginsOf has the lines of the statements that a run begins: the line of the innermost call, which a record tells last.
func beginsOf(r report) map[int]int {
	lines := map[int]int{}
	for _, record := range r.log {
		if !strings.HasPrefix(record, "statement ") {
			continue
		}
		var fn, line int
		calls := strings.Split(record, " | fn ")
		if _, err := fmt.Sscanf(calls[len(calls)-1], "%d line %d:", &fn, &line); err == nil {
			lines[line]++
		}
	}
	return lines
}
