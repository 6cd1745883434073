package tests

import (
	"math"
	"testing"

	"loop.example/reed/impl"
)

func each(over, body sprout, vars ...int) sprout { return at(1, impl.NEach, over, body).refs(vars...) }

func count(a, b, c, body sprout, v int) sprout { return at(1, impl.NFor, a, b, c, body).refs(v) }

func try(body, catch sprout, v, w int) sprout { return at(1, impl.NTry, body, catch).refs(v, w) }

func while(cond, body sprout) sprout { return at(1, impl.NWhile, cond, body) }

func null() sprout { return ex(impl.NNil) }

func TestTreeOfFn(t *testing.T) {
	u := text(0, block(give(null())))
	u.Fns[0].Nodes[2].Kids = nil
	want(t, "a statement that is no kid", u, 4, 0, 1)
	u = text(0, block(give(null(), null())))
	u.Fns[0].Nodes[2].Kids = []int{0, 0}
	want(t, "twice in one list, and one left out", u, 4, 0, 0)
	u.Fns[0].Nodes[2].Kids = []int{1, 1}
	want(t, "one left out ahead of it", u, 4, 0, 0)
	u = text(0, block(give(null()), give(null())))
	u.Fns[0].Nodes[3].Kids = []int{2, 0}
	want(t, "a kid of two", u, 4, 0, 0)
	want(t, "the last is a NReturn", text(0, give()), 4, 0, 0)
	want(t, "the last is an expression", text(0, null()), 4, 0, 0)
	want(t, "the last is a NIf", text(0, at(1, impl.NIf, null(), block())), 4, 0, 2)
	u = text(0, block())
	u.Fns[0].Nodes = append(u.Fns[0].Nodes, impl.Node{Kind: impl.NReturn, Line: 1})
	want(t, "the block is no kid, the last no block", u, 4, 0, 0)
	wantValid(t, "a block of no statements", text(0, block()))
	u = text(0, block(give(null()), at(1, impl.NThrow, null())))
	u.Fns[0].Nodes[4].Kids = []int{3, 1}
	wantValid(t, "kids against the order of numbers", u)
}

func TestRefsThatAreNot(t *testing.T) {
	for _, v := range []int{math.MinInt, -1, 1, 2, math.MaxInt} {
		want(t, "a NLet", text(1, block(let(v))), 6, 0, 0)
		want(t, "a NVar", text(1, block(let(0), give(use(v)))), 6, 0, 1)
		want(t, "a NFor", text(1, block(count(null(), null(), null(), block(), v))), 6, 0, 4)
		want(t, "a NEach", text(1, block(each(null(), block(), 0, v))), 6, 0, 2)
		want(t, "a NTry", text(1, block(try(block(), block(), 0, v))), 6, 0, 2)
		f := plainFn(impl.Up{Local: true})
		f.Nodes = grow(block(give(ex(impl.NUp).refs(v))))
		want(t, "a NUp", with(text(1, block(let(0), give(fn(1)))), f), 6, 1, 0)
		want(t, "a NFn", text(1, block(give(fn(v)))), 6, 0, 0)
	}
	want(t, "a NUp of fn 0", text(1, block(give(ex(impl.NUp).refs(0)))), 6, 0, 0)
	wantValid(t, "vars that nothing declares", text(3, block()))
}

func TestDeclaredTwice(t *testing.T) {
	want(t, "in two NLets", text(1, block(let(0), let(0))), 6, 0, 1)
	want(t, "in one NLet", text(2, block(at(1, impl.NLet).refs(0, 1, 0))), 6, 0, 0)
	want(t, "in one NEach", text(2, block(each(null(), block(), 1, 1))), 6, 0, 2)
	want(t, "in one NTry", text(2, block(try(block(), block(), 1, 1))), 6, 0, 2)
	want(t, "by a NLet in a NFor's block", text(1, block(count(null(), null(), null(), block(let(0)), 0))), 6, 0, 5)
	want(t, "in blocks apart", text(1, block(block(let(0)), block(let(0)))), 6, 0, 2)
	f := plainFn()
	f.Vars, f.Params = names(2), 1
	f.Nodes = grow(block(let(1), let(0)))
	want(t, "a parameter", with(text(0, block(give(fn(1)))), f), 6, 1, 1)
	f.Nodes = grow(block(let(1)))
	wantValid(t, "what is no parameter", with(text(0, block(give(fn(1)))), f))
	// The second is the one of the greater number, though its statement is the first.
	u := text(1, block(let(0), let(0, null())))
	u.Fns[0].Nodes[3].Kids = []int{2, 0}
	want(t, "second by number", u, 6, 0, 2)
	// The catch that declares it anew shows what it declares: its own node has the fault, not the name in it.
	want(t, "used where it is declared anew", text(2, block(block(let(0)), try(block(), block(give(use(0))), 0, 1))), 6, 0, 6)
	// What the loop declares is seen behind a block in it that declared the same.
	want(t, "used behind the inner one", text(1, block(each(null(), block(block(let(0)), give(use(0))), 0))), 6, 0, 6)
}

func TestScopeOfLet(t *testing.T) {
	wantValid(t, "behind it", text(1, block(let(0), give(use(0)))))
	wantValid(t, "in a block behind it", text(1, block(let(0), block(while(use(0), block(give(use(0))))))))
	wantValid(t, "as a target", text(1, block(let(0), at(1, impl.NSet, use(0), null()).num(1))))
	want(t, "in its own expressions", text(1, block(let(0, use(0)))), 6, 0, 0)
	want(t, "ahead of it", text(1, block(give(use(0)), let(0))), 6, 0, 0)
	want(t, "behind its block", text(1, block(block(let(0)), give(use(0)))), 6, 0, 2)
	want(t, "of no NLet", text(1, block(give(use(0)))), 6, 0, 0)
	want(t, "in the other branch", text(1, block(at(1, impl.NIf, null(), block(let(0)), block(give(use(0)))))), 6, 0, 3)
	want(t, "in the condition of a third", text(1, block(at(1, impl.NIf, null(), block(let(0)), at(1, impl.NIf, use(0), block())))), 6, 0, 3)
	want(t, "as a target ahead of it", text(1, block(at(1, impl.NSet, use(0), null()).num(1), let(0))), 6, 0, 0)
	f := plainFn()
	f.Vars = names(1)
	f.Nodes = grow(block(give(use(0))))
	want(t, "of the fn around", with(text(1, block(let(0), give(fn(1)))), f), 6, 1, 0)
	f.Params = 1
	wantValid(t, "a parameter", with(text(1, block(let(0), give(fn(1)))), f))
	// The order of Kids counts, not that of the numbers.
	u := text(1, block(give(use(0)), let(0)))
	u.Fns[0].Nodes[3].Kids = []int{2, 1}
	wantValid(t, "a NLet that stands ahead though its number is greater", u)
}

func TestScopeOfLoops(t *testing.T) {
	wantValid(t, "in the NFor's block", text(1, block(count(null(), null(), null(), block(give(use(0))), 0))))
	wantValid(t, "another in its three", text(2, block(let(1), count(use(1), use(1), use(1), block(), 0))))
	want(t, "in its first", text(1, block(count(use(0), null(), null(), block(), 0))), 6, 0, 0)
	want(t, "in its second", text(1, block(count(null(), use(0), null(), block(), 0))), 6, 0, 1)
	want(t, "in its third", text(1, block(count(null(), null(), use(0), block(), 0))), 6, 0, 2)
	want(t, "behind the NFor", text(1, block(count(null(), null(), null(), block(), 0), give(use(0)))), 6, 0, 5)
	want(t, "ahead of the NFor", text(1, block(give(use(0)), count(null(), null(), null(), block(), 0))), 6, 0, 0)
	wantValid(t, "in the NEach's block", text(4, block(each(null(), block(give(use(0), use(1), use(2), use(3))), 3, 2, 1, 0))))
	want(t, "in its expression", text(1, block(each(use(0), block(), 0))), 6, 0, 0)
	want(t, "behind the NEach", text(2, block(each(null(), block(), 0, 1), give(use(1)))), 6, 0, 3)
	want(t, "a NLet of a NWhile's block in its condition", text(1, block(while(use(0), block(let(0))))), 6, 0, 0)
	want(t, "a NLet of a loop's block behind it", text(1, block(while(null(), block(let(0))), give(use(0)))), 6, 0, 4)
}

func TestScopeOfTry(t *testing.T) {
	wantValid(t, "both in the second block", text(2, block(try(block(), block(give(use(0), use(1))), 0, 1))))
	want(t, "in the first block", text(2, block(try(block(give(use(0))), block(), 0, 1))), 6, 0, 0)
	want(t, "the second one in the first block", text(2, block(try(block(give(use(1))), block(), 0, 1))), 6, 0, 0)
	want(t, "behind the NTry", text(2, block(try(block(), block(), 0, 1), give(use(1)))), 6, 0, 3)
	want(t, "a NLet of the first block in the second", text(3, block(try(block(let(2)), block(give(use(2))), 0, 1))), 6, 0, 2)
}

func TestJumps(t *testing.T) {
	for _, kind := range []int{impl.NBreak, impl.NNext} {
		jump := at(1, kind)
		want(t, "in no loop", text(0, block(jump)), 7, 0, 0)
		want(t, "in a NIf", text(0, block(at(1, impl.NIf, null(), block(jump)))), 7, 0, 1)
		want(t, "behind a loop", text(0, block(while(null(), block()), jump)), 7, 0, 3)
		want(t, "in a NTry", text(2, block(try(block(), block(jump), 0, 1))), 7, 0, 1)
		wantValid(t, "in a NWhile", text(0, block(while(null(), block(jump)))))
		wantValid(t, "in a NFor", text(1, block(count(null(), null(), null(), block(jump), 0))))
		wantValid(t, "in a NEach", text(1, block(each(null(), block(jump), 0))))
		wantValid(t, "in a third of a NIf in a NWhile", text(0, block(while(null(), block(at(1, impl.NIf, null(), block(), at(1, impl.NIf, null(), block(), block(jump))))))))
		wantValid(t, "in a NTry in a NWhile", text(2, block(while(null(), block(try(block(jump), block(jump), 0, 1))))))
		wantValid(t, "behind an inner loop", text(0, block(while(null(), block(while(null(), block()), jump)))))
		f := plainFn()
		f.Nodes = grow(block(jump))
		want(t, "in a fn in a loop", with(text(0, block(while(null(), block(give(fn(1)))))), f), 7, 1, 0)
	}
}

func TestRest(t *testing.T) {
	u := text(0, block(give(ex(impl.NRest))))
	wantValid(t, "a text with Rest", u)
	u.Fns[0].Rest = false
	want(t, "a text without", u, 8, 0, 0)
	f := plainFn()
	f.Nodes = u.Fns[0].Nodes
	u = with(text(0, block(give(fn(1), ex(impl.NRest)))), f)
	want(t, "a fn without, in one with it", u, 8, 1, 0)
	u.Fns[1].Rest = true
	wantValid(t, "a fn with it", u)
}

func TestFnsThatAreMade(t *testing.T) {
	want(t, "fn 0 of itself", text(0, block(give(fn(0)))), 8, 0, 0)
	want(t, "made by none", with(text(0, block()), plainFn()), 9, 1, 0)
	want(t, "the second made by none", with(with(text(0, block(give(fn(1)))), plainFn()), plainFn()), 9, 2, 0)
	want(t, "made twice in one fn", with(text(0, block(give(fn(1), fn(1)))), plainFn()), 8, 0, 1)
	self := plainFn()
	self.Nodes = grow(block(give(fn(1))))
	want(t, "a fn of itself alone", with(text(0, block()), self), 8, 1, 0)
	want(t, "a fn of itself", with(text(0, block(give(fn(1)))), self), 8, 1, 0)
	two := plainFn()
	two.Nodes = grow(block(give(fn(2))))
	u := with(with(text(0, block(give(fn(1)))), two), plainFn())
	wantValid(t, "a fn in a fn", u)
	u.Fns[0].Nodes = grow(block(give(fn(1), fn(2))))
	want(t, "made in two fns", u, 8, 1, 0)
	u.Fns[0].Nodes = grow(block(give(fn(2))))
	want(t, "made in two fns, one of them by none", u, 8, 1, 0)
	down := plainFn()
	down.Nodes = grow(block(give(fn(1))))
	want(t, "a fn below", with(with(text(0, block(give(fn(2)))), plainFn()), down), 8, 2, 0)
	// Ahead is by number, not by the walk.
	u = with(text(0, block(give(fn(1)), at(1, impl.NThrow, fn(1)))), plainFn())
	u.Fns[0].Nodes[4].Kids = []int{3, 1}
	want(t, "the second by number", u, 8, 0, 2)
}

func TestUpsOfFns(t *testing.T) {
	local := func(v int) impl.Up { return impl.Up{Local: true, Index: v} }
	wantValid(t, "a variable in scope", with(text(1, block(let(0), give(fn(1)))), plainFn(local(0))))
	want(t, "in its own NLet", with(text(1, block(let(0, fn(1)))), plainFn(local(0))), 8, 0, 0)
	want(t, "ahead of it", with(text(1, block(give(fn(1)), let(0))), plainFn(local(0))), 8, 0, 0)
	want(t, "declared by none", with(text(1, block(give(fn(1)))), plainFn(local(0))), 8, 0, 0)
	wantValid(t, "written into it", with(text(1, block(let(0), at(1, impl.NSet, use(0), fn(1)).num(1))), plainFn(local(0))))
	wantValid(t, "a loop's", with(text(1, block(each(null(), block(give(fn(1))), 0))), plainFn(local(0))))
	want(t, "a loop's, in its expression", with(text(1, block(each(fn(1), block(), 0))), plainFn(local(0))), 8, 0, 0)
	wantValid(t, "a catch's", with(text(2, block(try(block(), block(give(fn(1))), 0, 1))), plainFn(local(1))))
	want(t, "a catch's, in the first block", with(text(2, block(try(block(give(fn(1))), block(), 0, 1))), plainFn(local(1))), 8, 0, 0)
	for _, v := range []int{math.MinInt, -1, 1, math.MaxInt} {
		want(t, "no variable", with(text(1, block(let(0), give(fn(1)))), plainFn(local(0), local(v))), 8, 0, 1)
		want(t, "no place", with(text(1, block(let(0), give(fn(1)))), plainFn(local(0), impl.Up{Index: v})), 8, 0, 1)
	}
	want(t, "a place in the text's, which has none", with(text(1, block(let(0), give(fn(1)))), plainFn(impl.Up{})), 8, 0, 1)
	for index, code := range map[int]int{-1: 8, 0: 0, 1: 0, 2: 8} {
		mid := plainFn(local(0), local(0))
		mid.Nodes = grow(block(give(fn(2))))
		u := with(with(text(1, block(let(0), give(fn(1)))), mid), plainFn(impl.Up{Index: index}))
		want(t, "a place in the ups of the fn around", u, code, code/8, 0)
	}
	param := plainFn()
	param.Vars, param.Params = names(1), 1
	param.Nodes = grow(block(give(fn(2))))
	wantValid(t, "a parameter", with(with(text(0, block(give(fn(1)))), param), plainFn(local(0))))
}
