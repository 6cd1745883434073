package tests

import (
	"math"
	"math/rand"
	"reflect"
	"testing"

	"loop.example/reed/impl"
)

func copyUnit(u impl.Unit) impl.Unit {
	out := impl.Unit{Fns: append([]impl.Fn(nil), u.Fns...)}
	for f := range out.Fns {
		fn := &out.Fns[f]
		fn.Vars = append([]string(nil), fn.Vars...)
		fn.Ups = append([]impl.Up(nil), fn.Ups...)
		fn.Nodes = append([]impl.Node(nil), fn.Nodes...)
		for n := range fn.Nodes {
			fn.Nodes[n].Refs = append([]int(nil), fn.Nodes[n].Refs...)
			fn.Nodes[n].Kids = append([]int(nil), fn.Nodes[n].Kids...)
		}
	}
	return out
}

func someInt(r *rand.Rand, near int) int {
	far := []int{math.MinInt, math.MaxInt, -1, 0, 1, near, near - 1, near + 1, 1 << 40}
	if r.Intn(2) == 0 {
		return r.Intn(near + 2)
	}
	return far[r.Intn(len(far))]
}

func spoilList(r *rand.Rand, list []int, near int) []int {
	at := r.Intn(len(list) + 1)
	switch {
	case len(list) == 0 || r.Intn(4) == 0:
		return append(append(append([]int(nil), list[:at]...), someInt(r, near)), list[at:]...)
	case r.Intn(3) == 0:
		at = r.Intn(len(list))
		return append(list[:at:at], list[at+1:]...)
	case r.Intn(2) == 0:
		i, j := r.Intn(len(list)), r.Intn(len(list))
		list[i], list[j] = list[j], list[i]
	default:
		list[r.Intn(len(list))] = someInt(r, near)
	}
	return list
}

func spoilNode(r *rand.Rand, u *impl.Unit, fn *impl.Fn) {
	if len(fn.Nodes) == 0 {
		return
	}
	n := &fn.Nodes[r.Intn(len(fn.Nodes))]
	flts := []float64{0, math.Copysign(0, -1), 1.5, math.NaN(), math.Inf(1)}
	switch r.Intn(12) {
	case 0:
		n.Kind = r.Intn(42) - 1
	case 1:
		n.Line = someInt(r, impl.MaxLine)
	case 2:
		n.Op = someInt(r, 22)
	case 3:
		n.Num = int64(someInt(r, impl.Builtins))
	case 4:
		n.Flt = flts[r.Intn(len(flts))]
	case 5:
		n.Str = string(make([]byte, r.Intn(2)*someSize(r)))
	case 6, 7, 8:
		n.Refs = spoilList(r, n.Refs, []int{len(fn.Vars), len(fn.Ups), len(u.Fns)}[r.Intn(3)])
	default:
		n.Kids = spoilList(r, n.Kids, len(fn.Nodes))
	}
}

func someSize(r *rand.Rand) int { return []int{1, 40, 41, impl.MaxStr, impl.MaxStr + 1}[r.Intn(5)] }

func spoilFn(r *rand.Rand, fn *impl.Fn) {
	switch r.Intn(7) {
	case 0:
		fn.Params = someInt(r, len(fn.Vars))
	case 1:
		fn.Line = someInt(r, impl.MaxLine)
	case 2:
		fn.Rest = !fn.Rest
	case 3:
		fn.Name = string(make([]byte, someSize(r)))
	case 4:
		fn.Vars = append(fn.Vars, string(make([]byte, r.Intn(2)*someSize(r))))
	case 5:
		fn.Ups = append(fn.Ups, impl.Up{Local: r.Intn(2) == 0, Index: someInt(r, len(fn.Vars))})
	case 6:
		if len(fn.Ups) > 0 {
			fn.Ups[r.Intn(len(fn.Ups))] = impl.Up{Local: r.Intn(2) == 0, Index: someInt(r, len(fn.Vars))}
		}
	}
}

// shiftNode moves a node to another place and leads all kids there, so that the numbers no longer follow the walk.
func shiftNode(r *rand.Rand, fn *impl.Fn) {
	if len(fn.Nodes) < 3 {
		return
	}
	i := r.Intn(len(fn.Nodes) - 2)
	fn.Nodes[i], fn.Nodes[i+1] = fn.Nodes[i+1], fn.Nodes[i]
	for n := range fn.Nodes {
		for k, kid := range fn.Nodes[n].Kids {
			switch kid {
			case i:
				fn.Nodes[n].Kids[k] = i + 1
			case i + 1:
				fn.Nodes[n].Kids[k] = i
			}
		}
	}
}

// swapRefs gives two nodes of one kind each other's Refs, which only names and scopes can tell.
func swapRefs(r *rand.Rand, fn *impl.Fn) {
	if len(fn.Nodes) == 0 {
		return
	}
	i, j := r.Intn(len(fn.Nodes)), r.Intn(len(fn.Nodes))
	if len(fn.Nodes[i].Refs) > 0 && len(fn.Nodes[j].Refs) > 0 {
		fn.Nodes[i].Refs[0], fn.Nodes[j].Refs[0] = fn.Nodes[j].Refs[0], fn.Nodes[i].Refs[0]
	}
}

// plant puts a statement into some block: a break, a declaration, or a name or a fn that is used.
func plant(r *rand.Rand, u *impl.Unit, fn *impl.Fn) {
	var blocks []int
	for n, node := range fn.Nodes {
		if node.Kind == impl.NBlock {
			blocks = append(blocks, n)
		}
	}
	if len(blocks) == 0 {
		return
	}
	into := blocks[r.Intn(len(blocks))]
	v := r.Intn(len(fn.Vars) + 1)
	grown := grow([]sprout{
		at(1, impl.NBreak), at(1, impl.NNext), let(v), give(use(v)), give(fn0(r, u)),
		at(1, impl.NFor, use(v), whole(1), whole(1), block(give(use(v)))).refs(v),
	}[r.Intn(6)])
	from := r.Intn(into + 1)
	shift := func(kids []int) {
		for k := range kids {
			if kids[k] >= from {
				kids[k] += len(grown)
			}
		}
	}
	for n := range fn.Nodes {
		shift(fn.Nodes[n].Kids)
	}
	for n := range grown {
		for k := range grown[n].Kids {
			grown[n].Kids[k] += from
		}
	}
	b := &fn.Nodes[into]
	spot := r.Intn(len(b.Kids) + 1)
	b.Kids = append(b.Kids[:spot:spot], append([]int{from + len(grown) - 1}, b.Kids[spot:]...)...)
	fn.Nodes = append(fn.Nodes[:from:from], append(grown, fn.Nodes[from:]...)...)
}

func fn0(r *rand.Rand, u *impl.Unit) sprout { return fn(r.Intn(len(u.Fns) + 1)) }

func spoil(r *rand.Rand, u *impl.Unit) {
	if len(u.Fns) == 0 {
		return
	}
	fn := &u.Fns[r.Intn(len(u.Fns))]
	switch r.Intn(30) {
	case 0:
		spoilFn(r, fn)
	case 1:
		i, j := r.Intn(len(u.Fns)), r.Intn(len(u.Fns))
		u.Fns[i], u.Fns[j] = u.Fns[j], u.Fns[i]
	case 2:
		*u = copyUnit(impl.Unit{Fns: append(u.Fns, *fn)})
	case 3, 4, 5, 6:
		shiftNode(r, fn)
	case 7, 8, 9, 10:
		swapRefs(r, fn)
	case 11, 12, 13:
		spoilNode(r, u, fn)
	default:
		plant(r, u, fn)
	}
}

// Spoilt units are held against the second reading; and nothing is written into them.
func TestCheckUnitOfSpoiltUnits(t *testing.T) {
	r := rand.New(rand.NewSource(1))
	codes := map[int]int{}
	for round := range 12000 {
		u := copyUnit([]impl.Unit{richUnit(), loopUnit()}[round%2])
		for range 1 + r.Intn(5) {
			spoil(r, &u)
		}
		kept := copyUnit(u)
		got, expect := impl.CheckUnit(u), modelCheck(u)
		if got != expect {
			t.Fatalf("round %d: %v, want %v, of %+v", round, got, expect, u)
		}
		if impl.CheckUnit(u) != got {
			t.Fatalf("round %d: the same unit has another answer", round)
		}
		if !sameUnit(u, kept) {
			t.Fatalf("round %d: the unit was written into", round)
		}
		codes[got.Code]++
	}
	for _, code := range []int{0, 2, 3, 4, 6, 7, 8, 9} {
		if codes[code] < 20 {
			t.Errorf("code %d came only %d times: %v", code, codes[code], codes)
		}
	}
	t.Log(codes)
}

// sameUnit compares bits, since a NaN is not equal to itself.
func sameUnit(a, b impl.Unit) bool {
	for _, u := range []impl.Unit{a, b} {
		if len(u.Fns) != len(a.Fns) {
			return false
		}
	}
	for f := range a.Fns {
		if len(a.Fns[f].Nodes) != len(b.Fns[f].Nodes) {
			return false
		}
		for n := range a.Fns[f].Nodes {
			x, y := a.Fns[f].Nodes[n], b.Fns[f].Nodes[n]
			if math.Float64bits(x.Flt) != math.Float64bits(y.Flt) || !sameInts(x.Refs, y.Refs) || !sameInts(x.Kids, y.Kids) {
				return false
			}
			x.Flt, x.Refs, x.Kids, y.Flt, y.Refs, y.Kids = 0, nil, nil, 0, nil, nil
			if !reflect.DeepEqual(x, y) {
				return false
			}
		}
		x, y := a.Fns[f], b.Fns[f]
		x.Nodes, y.Nodes = nil, nil
		if !reflect.DeepEqual(x, y) {
			return false
		}
	}
	return true
}

func sameInts(a, b []int) bool {
	return len(a) == len(b) && (len(a) == 0 || reflect.DeepEqual(a, b))
}

// oddUnit is a unit of nothing but odd numbers.
func oddUnit(r *rand.Rand) impl.Unit {
	ints := func() []int {
		var list []int
		for range r.Intn(4) {
			list = append(list, someInt(r, 3))
		}
		return list
	}
	var u impl.Unit
	for range r.Intn(4) {
		fn := impl.Fn{Params: r.Intn(2), Vars: names(r.Intn(3)), Rest: r.Intn(2) == 0}
		for range r.Intn(6) {
			fn.Nodes = append(fn.Nodes, impl.Node{Kind: r.Intn(44) - 2, Line: r.Intn(2), Op: someInt(r, 22) * r.Intn(2), Num: int64(someInt(r, 3) * r.Intn(2)), Refs: ints(), Kids: ints()})
		}
		for range r.Intn(3) {
			fn.Ups = append(fn.Ups, impl.Up{Local: r.Intn(2) == 0, Index: someInt(r, 3)})
		}
		u.Fns = append(u.Fns, fn)
	}
	return u
}

// Units of nothing but odd numbers: an answer is all that is asked, and that it is the model's.
func TestCheckUnitAnswersAtEveryArgument(t *testing.T) {
	r := rand.New(rand.NewSource(2))
	for round := range 20000 {
		u := oddUnit(r)
		if got, expect := impl.CheckUnit(u), modelCheck(u); got != expect {
			t.Fatalf("round %d: %v, want %v, of %+v", round, got, expect, u)
		}
	}
}
