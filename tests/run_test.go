package tests

import (
	"fmt"
	"math"
	"strings"
	"testing"

	"loop.example/reed/impl"
)

// A small machine for units: enough to see which variable a name is, and whether two units run alike. What the document leaves to runs (what a catch is given, what can be gone through) it does in the simplest way.

// cell is a variable as long as a run has it.
type cell struct{ value any }

// made is a fn with what it closes over; id tells how many things the run had made before.
type made struct {
	id, fn int
	ups    []*cell
}

// hash is a table, with its keys in the order in which they came.
type hash struct {
	id   int
	keys []any
	vals map[any]any
}

// ability is a builtin.
type ability int64

// thrown is what a catch gets; halted is what no catch gets.
type thrown struct{ value any }

type halted struct{}

// way is how a statement ends.
type way int

const (
	goesOn way = iota
	leavesLoop
	nextRound
	leavesFn
)

// machine is a run; open are its calls, the innermost last. log has all that it shows on its way, out what it prints.
type machine struct {
	unit  impl.Unit
	lines []string
	ticks int
	depth int
	ids   int
	open  []*frame
	log   []string
	out   []any
}

type frame struct {
	number int
	fn     impl.Fn
	line   int
	vars   []*cell
	scope  []int
	ups    []*cell
	rest   []any
	later  [][]any
	back   []any
}

// report is all that can be told of a run.
type report struct {
	log  []string
	out  []any
	back []any
	end  string
}

// runs answers all that a unit prints that runs to its end.
func runs(t *testing.T, u impl.Unit) []any {
	t.Helper()
	r := runOf(u, impl.Input{Ticks: 100000, Depth: 60})
	if r.end != "" {
		t.Errorf("the run ends with %s", r.end)
	}
	return r.out
}

func runOf(u impl.Unit, in impl.Input) (r report) {
	m := &machine{unit: u, lines: in.Lines, ticks: in.Ticks, depth: in.Depth}
	var args []any
	for _, arg := range in.Args {
		args = append(args, arg)
	}
	defer func() {
		switch x := recover().(type) {
		case nil:
		case halted:
			r.end = "out of ticks"
		case thrown:
			r.end = "thrown " + told(x.value)
		default:
			panic(x)
		}
		r.log, r.out = m.log, m.out
	}()
	r.back = m.call(&made{}, args)
	return r
}

// told has the text of a value; floats by their bits.
func told(v any) string {
	switch x := v.(type) {
	case float64:
		if math.IsNaN(x) {
			return "nan"
		}
		return fmt.Sprintf("%x", math.Float64bits(x))
	case string:
		return fmt.Sprintf("%q", x)
	case *made:
		return fmt.Sprintf("fn %d made %d", x.fn, x.id)
	case *hash:
		return fmt.Sprintf("table made %d with %d", x.id, len(x.keys))
	case ability:
		return fmt.Sprintf("builtin %d", int64(x))
	}
	return fmt.Sprint(v)
}

func toldAll(values []any) string {
	var texts []string
	for _, v := range values {
		texts = append(texts, told(v))
	}
	return strings.Join(texts, ", ")
}

// record notes what happens and what can be seen then: the open calls with their variables in scope.
func (m *machine) record(what string) {
	view := what
	for _, fr := range m.open {
		view += fmt.Sprintf(" | fn %d line %d:", fr.number, fr.line)
		for _, v := range fr.scope {
			view += " " + fr.fn.Vars[v] + "=" + told(fr.vars[v].value)
		}
	}
	m.log = append(m.log, view)
}

func (m *machine) tick() {
	if m.ticks--; m.ticks < 0 {
		panic(halted{})
	}
}

func (m *machine) throw(v any) {
	m.record("throws " + told(v))
	panic(thrown{v})
}

func (m *machine) id() int {
	m.ids++
	return m.ids
}

// attempt answers what is thrown on the way, nil for nothing.
func attempt(do func()) (caught *thrown) {
	defer func() {
		switch x := recover().(type) {
		case nil:
		case thrown:
			caught = &x
		default:
			panic(x)
		}
	}()
	do()
	return nil
}

// call runs a fn to its end, and then what it has put off, the last one first.
func (m *machine) call(f *made, args []any) []any {
	m.tick()
	if len(m.open) >= m.depth {
		m.throw("too deep")
	}
	fr := &frame{number: f.fn, fn: m.unit.Fns[f.fn], ups: f.ups}
	fr.vars = make([]*cell, len(fr.fn.Vars))
	for v := range fr.fn.Params {
		fr.hold(v, nth(args, v))
	}
	if fr.fn.Rest && len(args) > fr.fn.Params {
		fr.rest = args[fr.fn.Params:]
	}
	m.open = append(m.open, fr)
	height := len(m.open)
	m.record("begins")
	fault := attempt(func() { m.do(fr, len(fr.fn.Nodes)-1) })
	for i := len(fr.later) - 1; i >= 0; i-- {
		m.open = m.open[:height]
		if later := attempt(func() { m.invoke(fr.later[i]) }); later != nil {
			fault = later
		}
	}
	m.open = m.open[:height-1]
	if fault != nil {
		panic(*fault)
	}
	m.record("gives back " + toldAll(fr.back))
	return fr.back
}

func nth(values []any, i int) any {
	if i < len(values) {
		return values[i]
	}
	return nil
}

// hold makes a variable anew, in scope from here on.
func (fr *frame) hold(v int, value any) {
	fr.vars[v] = &cell{value}
	fr.scope = append(fr.scope, v)
}

func (fr *frame) holdAll(vars []int, values []any) {
	for i, v := range vars {
		fr.hold(v, nth(values, i))
	}
}

// Statements.

func (m *machine) do(fr *frame, n int) way {
	node := fr.fn.Nodes[n]
	m.tick()
	fr.line = node.Line
	m.record(fmt.Sprintf("statement %d", node.Kind))
	switch node.Kind {
	case impl.NBlock:
		return m.block(fr, node)
	case impl.NLet:
		fr.holdAll(node.Refs, m.all(fr, node.Kids))
	case impl.NSet:
		m.set(fr, node)
	case impl.NDo:
		m.many(fr, node.Kids[0])
	case impl.NIf:
		return m.choose(fr, node)
	case impl.NWhile, impl.NFor, impl.NEach:
		return m.loop(fr, node)
	case impl.NBreak:
		return leavesLoop
	case impl.NNext:
		return nextRound
	case impl.NReturn:
		fr.back = m.all(fr, node.Kids)
		return leavesFn
	case impl.NTry:
		return m.try(fr, node)
	case impl.NThrow:
		m.throw(m.give(fr, node.Kids[0]))
	case impl.NDefer:
		fr.later = append(fr.later, m.all(fr, fr.fn.Nodes[node.Kids[0]].Kids))
	}
	return goesOn
}

func (m *machine) block(fr *frame, node impl.Node) way {
	held := len(fr.scope)
	for _, k := range node.Kids {
		if w := m.do(fr, k); w != goesOn {
			fr.scope = fr.scope[:held]
			return w
		}
	}
	fr.scope = fr.scope[:held]
	return goesOn
}

// within runs a block with variables of its own.
func (m *machine) within(fr *frame, block int, vars []int, values []any) way {
	held := len(fr.scope)
	fr.holdAll(vars, values)
	w := m.do(fr, block)
	fr.scope = fr.scope[:held]
	return w
}

func (m *machine) choose(fr *frame, node impl.Node) way {
	switch {
	case isTrue(m.give(fr, node.Kids[0])):
		return m.do(fr, node.Kids[1])
	case len(node.Kids) == 3:
		return m.do(fr, node.Kids[2])
	}
	return goesOn
}

func (m *machine) try(fr *frame, node impl.Node) (w way) {
	held, height := len(fr.scope), len(m.open)
	caught := attempt(func() { w = m.do(fr, node.Kids[0]) })
	if caught == nil {
		return w
	}
	line := fr.line
	fr.scope, m.open = fr.scope[:held], m.open[:height]
	m.record("catches " + told(caught.value))
	return m.within(fr, node.Kids[1], node.Refs, []any{caught.value, int64(line)})
}

// set has all values before it writes the first one.
func (m *machine) set(fr *frame, node impl.Node) {
	var writes []func(v any)
	for _, k := range node.Kids[:node.Num] {
		target := fr.fn.Nodes[k]
		if target.Kind != impl.NIndex {
			c := m.cellOf(fr, target)
			writes = append(writes, func(v any) { c.value = v })
			continue
		}
		of, key := m.give(fr, target.Kids[0]), m.give(fr, target.Kids[1])
		writes = append(writes, func(v any) { m.put(of, key, v) })
	}
	values := m.all(fr, node.Kids[node.Num:])
	for i, write := range writes {
		write(nth(values, i))
	}
}

// loop goes on as long as there is a round, which has the loop's variables.
func (m *machine) loop(fr *frame, node impl.Node) way {
	next := m.rounds(fr, node)
	for {
		m.tick()
		values, ok := next()
		if !ok {
			return goesOn
		}
		switch m.within(fr, node.Kids[len(node.Kids)-1], node.Refs, values) {
		case leavesLoop:
			return goesOn
		case leavesFn:
			return leavesFn
		}
	}
}

func (m *machine) rounds(fr *frame, node impl.Node) func() ([]any, bool) {
	switch node.Kind {
	case impl.NWhile:
		return func() ([]any, bool) { return nil, isTrue(m.give(fr, node.Kids[0])) }
	case impl.NFor:
		return m.counts(m.give(fr, node.Kids[0]), m.give(fr, node.Kids[1]), m.give(fr, node.Kids[2]))
	}
	switch over := m.give(fr, node.Kids[0]).(type) {
	case *hash:
		i := -1
		return func() ([]any, bool) {
			if i++; i >= len(over.keys) {
				return nil, false
			}
			return []any{over.keys[i], over.vals[over.keys[i]]}, true
		}
	case *made:
		return func() ([]any, bool) {
			values := m.call(over, nil)
			return values, nth(values, 0) != nil
		}
	}
	m.throw("nothing to go through")
	return nil
}

func (m *machine) counts(from, to, by any) func() ([]any, bool) {
	now, ok := from.(int64)
	end, too := to.(int64)
	step, three := by.(int64)
	if !ok || !too || !three || step == 0 {
		m.throw("nothing to count")
	}
	return func() ([]any, bool) {
		value := now
		now += step
		return []any{value}, step > 0 && value <= end || step < 0 && value >= end
	}
}

// Expressions.

// all has the values of expressions; the last one gives all that it has.
func (m *machine) all(fr *frame, places []int) []any {
	var values []any
	for i, k := range places {
		if i == len(places)-1 {
			return append(values, m.many(fr, k)...)
		}
		values = append(values, m.give(fr, k))
	}
	return values
}

// many has all values of a call or of the further arguments, of all else the one.
func (m *machine) many(fr *frame, n int) []any {
	node := fr.fn.Nodes[n]
	switch node.Kind {
	case impl.NCall:
		return m.invoke(m.all(fr, node.Kids))
	case impl.NRest:
		return fr.rest
	}
	return []any{m.give(fr, n)}
}

func (m *machine) cellOf(fr *frame, node impl.Node) *cell {
	if node.Kind == impl.NUp {
		return fr.ups[node.Refs[0]]
	}
	return fr.vars[node.Refs[0]]
}

func isTrue(v any) bool { return v != nil && v != false }

// give has the one value of an expression.
func (m *machine) give(fr *frame, n int) any {
	node := fr.fn.Nodes[n]
	if value, ok := modelLiteral(node); ok {
		return plainOf(value)
	}
	switch node.Kind {
	case impl.NVar, impl.NUp:
		return m.cellOf(fr, node).value
	case impl.NAnd, impl.NOr:
		first := m.give(fr, node.Kids[0])
		if isTrue(first) == (node.Kind == impl.NOr) {
			return first
		}
		return m.give(fr, node.Kids[1])
	case impl.NUnary:
		return m.operate(node.Op, m.give(fr, node.Kids[0]))
	case impl.NBinary:
		return m.operate(node.Op, m.give(fr, node.Kids[0]), m.give(fr, node.Kids[1]))
	case impl.NIndex:
		return m.get(m.give(fr, node.Kids[0]), m.give(fr, node.Kids[1]))
	case impl.NCall, impl.NRest:
		return nth(m.many(fr, n), 0)
	case impl.NOne:
		return m.give(fr, node.Kids[0])
	case impl.NTable:
		return m.table(fr, node)
	}
	return m.makeFn(fr, node.Refs[0])
}

func (m *machine) makeFn(fr *frame, g int) any {
	f := &made{id: m.id(), fn: g}
	for _, up := range m.unit.Fns[g].Ups {
		if up.Local {
			f.ups = append(f.ups, fr.vars[up.Index])
		} else {
			f.ups = append(f.ups, fr.ups[up.Index])
		}
	}
	return f
}

func plainOf(v impl.Value) any {
	switch v.Kind {
	case impl.KBool:
		return v.Num == 1
	case impl.KInt:
		return v.Num
	case impl.KFlt:
		return v.Flt
	case impl.KStr:
		return v.Str
	case impl.KBuiltin:
		return ability(v.Num)
	}
	return nil
}

// valueOf has the value of what can be written as a literal, and of a NaN.
func valueOf(v any) (impl.Value, bool) {
	switch x := v.(type) {
	case nil:
		return vNil(), true
	case bool:
		return vBool(x), true
	case int64:
		return vInt(x), true
	case float64:
		return vFlt(x), true
	case string:
		return vStr(x), true
	case ability:
		return vBuiltin(int64(x)), true
	}
	return impl.Value{}, false
}

// operate does what Unary and Binary do; tables and fns are only the same or not.
func (m *machine) operate(op int, of ...any) any {
	var values []impl.Value
	for _, x := range of {
		v, ok := valueOf(x)
		switch {
		case ok:
			values = append(values, v)
		case op == impl.OpNot:
			return false
		case op == impl.OpEq || op == impl.OpNe:
			return (of[0] == of[1]) == (op == impl.OpEq)
		default:
			m.throw("no such operation")
		}
	}
	var v impl.Value
	var ok bool
	if len(of) == 1 {
		v, ok = modelUnary(op, values[0])
	} else {
		v, ok = modelBinary(op, values[0], values[1])
	}
	if !ok {
		m.throw("operation refused")
	}
	if v.Kind == impl.KStr {
		m.id()
	}
	return plainOf(v)
}

// keyOf makes whole floats ints; there is no key of nil or NaN.
func (m *machine) keyOf(key any) any {
	f, ok := key.(float64)
	switch {
	case key == nil || ok && math.IsNaN(f):
		m.throw("no key")
	case ok && math.Abs(f) < 1<<62 && f == math.Floor(f):
		return int64(f)
	}
	return key
}

func (m *machine) get(of, key any) any {
	h, ok := of.(*hash)
	if !ok {
		m.throw("no table to look into")
	}
	return h.vals[m.keyOf(key)]
}

func (m *machine) put(of, key, v any) {
	h, ok := of.(*hash)
	if !ok {
		m.throw("no table to write into")
	}
	key = m.keyOf(key)
	if _, has := h.vals[key]; !has {
		h.keys = append(h.keys, key)
	}
	h.vals[key] = v
}

func (m *machine) table(fr *frame, node impl.Node) any {
	h := &hash{id: m.id(), vals: map[any]any{}}
	last := len(node.Kids) - 2
	for i := 0; i <= last; i += 2 {
		key := m.give(fr, node.Kids[i])
		if i < last || node.Op == 0 {
			m.put(h, key, m.give(fr, node.Kids[i+1]))
			continue
		}
		for j, v := range m.many(fr, node.Kids[i+1]) {
			m.put(h, key.(int64)+int64(j), v)
		}
	}
	return h
}

// invoke calls the first with the others; of the builtins it knows four.
func (m *machine) invoke(values []any) []any {
	callee, args := nth(values, 0), values[min(1, len(values)):]
	switch f := callee.(type) {
	case *made:
		return m.call(f, args)
	case ability:
		m.tick()
		switch f {
		case impl.BPrint:
			m.record("prints " + toldAll(args))
			m.out = append(m.out, args...)
			return nil
		case impl.BRead:
			if len(m.lines) == 0 {
				return []any{nil}
			}
			line := m.lines[0]
			m.lines = m.lines[1:]
			return []any{line}
		case impl.BType:
			return []any{fmt.Sprintf("%T", nth(args, 0))}
		case impl.BText:
			// All of its arguments, so that there is a call that gives many values.
			var texts []any
			for _, arg := range args {
				texts = append(texts, told(arg))
			}
			return texts
		}
	}
	m.throw("nothing to call")
	return nil
}
