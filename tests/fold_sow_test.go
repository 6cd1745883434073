package tests

import (
	"fmt"
	"math"
	"math/rand"
	"testing"

	"loop.example/reed/impl"
)

// unitSower makes valid units in which there is much to fold; left is how many nodes it may still make, or nearly so.
type unitSower struct {
	*rand.Rand
	left int
	fns  []*sownFn
	in   *sownFn
}

// sownFn is a fn that is being sown, and what holds where the sower is in it.
type sownFn struct {
	fn    impl.Fn
	scope []int
	loops int
}

// someUnit is a valid unit, with its nodes in any order that a valid one may have.
func someUnit(r *rand.Rand) impl.Unit {
	for {
		s := &unitSower{Rand: r, left: 20 + r.Intn(150)}
		s.sowFn(impl.Fn{Name: "main", Rest: true})
		var u impl.Unit
		for _, f := range s.fns {
			f.fn.Nodes = shuffled(r, f.fn.Nodes)
			u.Fns = append(u.Fns, f.fn)
		}
		// A few stand too deep; there is nothing else that could be wrong.
		if impl.CheckUnit(u).Code != 5 {
			return u
		}
	}
}

// shuffled has the same nodes in another order, each still behind its kids.
func shuffled(r *rand.Rand, nodes []impl.Node) []impl.Node {
	if r.Intn(2) == 0 {
		return nodes
	}
	places := make([]int, len(nodes))
	for n := range places {
		places[n] = -1
	}
	var out []impl.Node
	for len(out) < len(nodes) {
		n := r.Intn(len(nodes))
		ready := places[n] < 0
		for _, k := range nodes[n].Kids {
			ready = ready && places[k] >= 0
		}
		if !ready {
			continue
		}
		node := nodes[n]
		var kids []int
		for _, k := range node.Kids {
			kids = append(kids, places[k])
		}
		node.Kids = kids
		places[n] = len(out)
		out = append(out, node)
	}
	return out
}

// sowFn makes a fn with its body, and answers its number.
func (s *unitSower) sowFn(fn impl.Fn) int {
	around, number := s.in, len(s.fns)
	s.in = &sownFn{fn: fn}
	s.fns = append(s.fns, s.in)
	for v := range fn.Params {
		s.in.scope = append(s.in.scope, v)
	}
	if number == 0 {
		s.in.fn.Nodes = grow(s.text())
	} else {
		s.in.fn.Nodes = grow(s.block())
	}
	s.in = around
	return number
}

// text has much in tries, so that what is thrown ends but a little of a run.
func (s *unitSower) text() sprout {
	b := block().onLine(1 + s.Intn(90))
	for len(b.kids) < 4 || s.left > 0 {
		if s.Intn(3) > 0 {
			b.kids = append(b.kids, s.tried())
		} else {
			b.kids = append(b.kids, s.statement())
		}
	}
	return b
}

func (s *unitSower) tried() sprout {
	tried, vars := s.inside(0), s.declare(2)
	return try(tried, s.inside(0, vars...), vars[0], vars[1]).onLine(1 + s.Intn(90))
}

func (s *unitSower) declare(n int) []int {
	var numbers []int
	for range n {
		numbers = append(numbers, len(s.in.fn.Vars))
		s.in.fn.Vars = append(s.in.fn.Vars, fmt.Sprintf("v%d", len(s.in.fn.Vars)))
	}
	return numbers
}

// inside sows a block in which variables are in scope.
func (s *unitSower) inside(loops int, vars ...int) sprout {
	held := len(s.in.scope)
	s.in.scope = append(s.in.scope, vars...)
	s.in.loops += loops
	b := s.block()
	s.in.loops -= loops
	s.in.scope = s.in.scope[:held]
	return b
}

func (s *unitSower) block() sprout {
	held := len(s.in.scope)
	b := block().onLine(1 + s.Intn(90))
	for range s.Intn(5) {
		if s.left > 0 {
			b.kids = append(b.kids, s.statement())
		}
	}
	s.in.scope = s.in.scope[:held]
	return b
}

func (s *unitSower) statement() sprout {
	s.left--
	return s.plainStatement().onLine(1 + s.Intn(90))
}

func (s *unitSower) plainStatement() sprout {
	switch s.Intn(19) {
	case 0, 1, 2:
		values := s.values(0, 2)
		vars := s.declare(1 + s.Intn(2))
		s.in.scope = append(s.in.scope, vars...)
		return at(1, impl.NLet, values...).refs(vars...)
	case 3:
		targets := []sprout{s.target()}
		for s.Intn(4) == 0 {
			targets = append(targets, s.target())
		}
		return at(1, impl.NSet, append(targets, s.values(1, 2)...)...).num(int64(len(targets)))
	case 4, 5:
		return when(s.branches()...)
	case 6:
		return while(s.condition(), s.inside(1))
	case 7:
		first, v := s.values(3, 3), s.declare(1)
		return count(first[0], first[1], first[2], s.inside(1, v...), v[0])
	case 8:
		over, vars := s.value(), s.declare(1+s.Intn(4))
		return each(over, s.inside(1, vars...), vars...)
	case 9:
		return s.tried()
	case 10:
		return throws(s.value())
	case 11:
		return give(s.values(0, 3)...)
	case 12, 13:
		if s.in.loops > 0 {
			return []sprout{breaks(), nexts()}[s.Intn(2)]
		}
	case 14:
		return at(1, impl.NDefer, s.call())
	case 15:
		return at(1, impl.NDo, s.call())
	case 16:
		return s.inside(0)
	}
	return show(s.values(1, 2)...)
}

func (s *unitSower) branches() []sprout {
	kids := []sprout{s.condition(), s.inside(0)}
	switch s.Intn(4) {
	case 0:
		return append(kids, s.inside(0))
	case 1:
		return append(kids, when(s.branches()...).onLine(1+s.Intn(90)))
	}
	return kids
}

func (s *unitSower) target() sprout {
	switch {
	case s.Intn(3) == 0:
		return ex(impl.NIndex, s.value(), s.value())
	case len(s.in.scope) > 0 && s.Intn(2) == 0:
		return use(s.in.scope[s.Intn(len(s.in.scope))])
	case len(s.in.fn.Ups) > 0:
		return up(s.Intn(len(s.in.fn.Ups)))
	}
	return ex(impl.NIndex, s.value(), s.value())
}

func (s *unitSower) values(least, most int) []sprout {
	var list []sprout
	for range least + s.Intn(most-least+1) {
		list = append(list, s.value())
	}
	return list
}

// condition is more often known ahead of the run than not.
func (s *unitSower) condition() sprout {
	if s.Intn(3) > 0 {
		return s.literal()
	}
	return s.value()
}

func (s *unitSower) literal() sprout {
	var x sprout
	switch s.Intn(9) {
	case 0, 1:
		x = null()
	case 2, 3:
		x = falsely()
	case 4:
		x = truly()
	case 5:
		x = whole([]int64{0, 1, 2, 3, -1, 64, least, most}[s.Intn(8)])
	case 6:
		x = real([]float64{0, minusZero(), 1.5, -2, math.Inf(1), math.Inf(-1), 5e-324}[s.Intn(7)])
	case 7:
		x = quote([]string{"", "a", "b", "10"}[s.Intn(4)])
	case 8:
		x = builtin(int64(s.Intn(impl.Builtins)))
	}
	if s.Intn(20) == 0 && x.node.Kind != impl.NFlt {
		x.node.Flt = minusZero()
	}
	return x
}

func (s *unitSower) leaf() sprout {
	switch n := s.Intn(8); {
	case n < 3 && len(s.in.scope) > 0:
		return use(s.in.scope[s.Intn(len(s.in.scope))])
	case n == 3 && len(s.in.fn.Ups) > 0:
		return up(s.Intn(len(s.in.fn.Ups)))
	case n == 4 && s.in.fn.Rest:
		return rest()
	}
	return s.literal()
}

func (s *unitSower) value() sprout {
	if s.left--; s.left < 0 {
		return s.leaf()
	}
	switch s.Intn(16) {
	case 0, 1, 2:
		return []func(a, b sprout) sprout{and, or}[s.Intn(2)](s.condition(), s.value())
	case 3:
		return unary(impl.OpNeg+s.Intn(4), s.value())
	case 4, 5:
		return binary(impl.OpAdd+s.Intn(18), s.value(), s.value())
	case 6:
		return ex(impl.NIndex, s.value(), s.value())
	case 7:
		return s.call()
	case 8:
		return s.table()
	case 9:
		if len(s.fns) < 12 {
			return s.makeFn()
		}
	case 10:
		return single(s.call())
	}
	return s.leaf()
}

func (s *unitSower) call() sprout {
	switch s.Intn(4) {
	case 0:
		return call(append([]sprout{builtin(impl.BPrint)}, s.values(0, 2)...)...)
	case 1:
		return call(append([]sprout{builtin(impl.BText)}, s.values(0, 2)...)...)
	}
	return call(s.values(1, 3)...)
}

func (s *unitSower) table() sprout {
	t := ex(impl.NTable, s.pairs(s.Intn(3))...)
	if s.Intn(3) == 0 {
		t.kids = append(t.kids, whole(int64(s.Intn(3))), s.call())
		t = t.op(1)
	}
	return t
}

func (s *unitSower) pairs(n int) []sprout { return s.values(2*n, 2*n) }

// makeFn makes a fn that closes over some of what can be seen.
func (s *unitSower) makeFn() sprout {
	fn := impl.Fn{Name: fmt.Sprintf("f%d", len(s.fns)), Line: s.Intn(90), Params: s.Intn(3), Rest: s.Intn(2) == 0}
	for v := range fn.Params {
		fn.Vars = append(fn.Vars, fmt.Sprintf("p%d", v))
	}
	for _, v := range s.in.scope {
		if s.Intn(2) == 0 {
			fn.Ups = append(fn.Ups, local(v))
		}
	}
	for place := range s.in.fn.Ups {
		if s.Intn(2) == 0 {
			fn.Ups = append(fn.Ups, handed(place))
		}
	}
	return ex(impl.NFn).refs(s.sowFn(fn))
}

func TestSownUnitsAreValid(t *testing.T) {
	r := rand.New(rand.NewSource(80))
	kinds := map[int]int{}
	for range 1500 {
		u := someUnit(r)
		wantValid(t, "sown", u)
		for _, f := range u.Fns {
			for _, n := range f.Nodes {
				kinds[n.Kind]++
			}
		}
	}
	for kind := range rowsOfTables() {
		if kinds[kind] < 100 {
			t.Errorf("kind %d came only %d times", kind, kinds[kind])
		}
	}
	t.Log(kinds)
}
