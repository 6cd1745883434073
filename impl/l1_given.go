package impl

import (
	"cmp"
	"math"
	"math/bits"
	"strconv"
)

const (
	KNil     = 0
	KBool    = 1
	KInt     = 2
	KFlt     = 3
	KStr     = 4
	KTable   = 5
	KFn      = 6
	KTask    = 7
	KBuiltin = 8
)

const (
	OpAdd  = 1
	OpSub  = 2
	OpMul  = 3
	OpDiv  = 4
	OpIDiv = 5
	OpMod  = 6
	OpAnd  = 7
	OpOr   = 8
	OpXor  = 9
	OpShl  = 10
	OpShr  = 11
	OpJoin = 12
	OpEq   = 13
	OpNe   = 14
	OpLt   = 15
	OpLe   = 16
	OpGt   = 17
	OpGe   = 18
	OpNeg  = 19
	OpFlip = 20
	OpNot  = 21
	OpLen  = 22
)

const (
	ErrType  = 1
	ErrZero  = 2
	ErrRange = 3
	ErrLong  = 4
	ErrKey   = 5
	ErrCall  = 6
	ErrIndex = 7
	ErrDepth = 8
	ErrCells = 9
	ErrTask  = 10
	ErrLoop  = 11
	ErrArgs  = 12
	ErrTicks = 13
	ErrStep  = 14
	ErrUnit  = 15
)

const MaxStr = 4000

// Value is a value of the language.
type Value struct {
	Kind int
	Num  int64
	Flt  float64
	Str  string
	Ref  int
}

// Valued is a value, or the code of an error.
type Valued struct {
	Code  int
	Value Value
}

const MaxPairs = 500

// Pair is a key and its value; Turn tells when the key came.
type Pair struct {
	Key  Value
	Val  Value
	Turn int
}

// Table is the pairs in the order in which their keys came, and how many keys have ever come.
type Table struct {
	Pairs []Pair
	Turns int
}

// Found is a pair, if there is one.
type Found struct {
	Found bool
	Pair  Pair
}

const (
	MaxTicks = 5000
	MaxDepth = 60
	MaxTasks = 100
	MaxCells = 20000
	MaxInput = 200
	MaxChain = 20
	MaxList  = 250
	MaxRecs  = 100000
)

const (
	RecLine  = 1
	RecCall  = 2
	RecBack  = 3
	RecThrow = 4
	RecCatch = 5
	RecPrint = 6
	RecTurn  = 7
	RecLast  = 8
)

// Input is what a run is given: its arguments, the lines that it can read, and its allowances.
type Input struct {
	Args  []string
	Lines []string
	Ticks int
	Depth int
	Cells int
}

// Rec is one thing that a run shows.
type Rec struct {
	Kind int
	Task int
	Fn   int
	Line int
	Text string
}

// Report is all that a run shows.
type Report struct {
	Code  int
	Recs  []Rec
	Vals  []string
	Error string
	Trace string
	Ticks int
	Made  int
}

// Shown is a variable by its name, and the text of its value.
type Shown struct {
	Name string
	Text string
}

// Open is a call that is open: of which fn, at which line, and its variables in scope.
type Open struct {
	Fn   int
	Line int
	Vars []Shown
}

// View is what can be seen at one record of a run.
type View struct {
	Ok    bool
	Task  int
	Calls []Open
}

const (
	MaxFns   = 300
	MaxNodes = 3000
	MaxVars  = 200
	MaxKids  = 200
	MaxNest  = 100
	MaxName  = 40
	MaxLine  = 100000
)

const (
	NBlock  = 1
	NLet    = 2
	NSet    = 3
	NDo     = 4
	NIf     = 5
	NWhile  = 6
	NFor    = 7
	NEach   = 8
	NBreak  = 9
	NNext   = 10
	NReturn = 11
	NTry    = 12
	NThrow  = 13
	NDefer  = 14

	NNil     = 20
	NTrue    = 21
	NFalse   = 22
	NInt     = 23
	NFlt     = 24
	NStr     = 25
	NVar     = 26
	NUp      = 27
	NBuiltin = 28
	NAnd     = 29
	NOr      = 30
	NUnary   = 31
	NBinary  = 32
	NIndex   = 33
	NCall    = 34
	NTable   = 35
	NFn      = 36
	NRest    = 37
	NOne     = 38
)

const (
	BPrint   = 0
	BRead    = 1
	BType    = 2
	BText    = 3
	BSetKind = 4
	BKind    = 5
	BRawGet  = 6
	BRawSet  = 7
	BTask    = 8
	BResume  = 9
	BYield   = 10
	BStatus  = 11
	BGiveUp  = 12
	BCollect = 13
	BCells   = 14
	Builtins = 15
)

// Node is a part of a fn's text.
type Node struct {
	Kind int
	Line int
	Op   int
	Num  int64
	Flt  float64
	Str  string
	Refs []int
	Kids []int
}

// Up says what a fn closes over: a variable of the fn in which it stands, or what that one closes over.
type Up struct {
	Local bool
	Index int
}

// Fn is a fn's text: its variables, parameters first, what it closes over, and its nodes, the body last.
type Fn struct {
	Name   string
	Line   int
	Params int
	Rest   bool
	Vars   []string
	Ups    []Up
	Nodes  []Node
}

// Unit is a text whose names are bound; fn 0 is the text itself.
type Unit struct {
	Fns []Fn
}

// Fault is what is wrong with a unit, and where.
type Fault struct {
	Code int
	Fn   int
	Node int
}

// The codes of faults, in the order in which they are told.
const (
	faultNone = iota
	faultSize
	faultHead
	faultForm
	faultTree
	faultDeep
	faultRefs
	faultJump
	faultMade
	faultUnmade
)

// noNode stands for a fault's node where there is no fault.
const noNode = -1

// CheckUnit answers the first fault of a unit, or the zero value when it is valid.
func CheckUnit(u Unit) Fault {
	if !sizeFits(u) {
		return Fault{Code: faultSize}
	}
	c := unitCheck{fns: u.Fns, forms: formsOf(u.Fns)}
	fault := c.firstFault(
		rule{faultHead, c.headFault},
		rule{faultForm, c.formFault},
		rule{faultTree, c.treeFault},
		rule{faultDeep, c.deepFault},
	)
	if fault.Code != faultNone {
		return fault
	}
	// Only now is every fn a tree of known depth, so that a walk through it ends.
	c.sights = sightsOf(c.fns, c.forms)
	c.makers = makersOf(c.fns, c.forms)
	return c.firstFault(
		rule{faultRefs, c.refsFault},
		rule{faultJump, c.jumpFault},
		rule{faultMade, c.madeFault},
		rule{faultUnmade, c.unmadeFault},
	)
}

func sizeFits(u Unit) bool {
	if len(u.Fns) < 1 || len(u.Fns) > MaxFns {
		return false
	}
	nodes := 0
	for _, fn := range u.Fns {
		nodes += len(fn.Nodes)
	}
	return nodes <= MaxNodes
}

// unitCheck is a unit and what the rules have to know of it; all lists go by fn.
type unitCheck struct {
	fns    []Fn
	forms  [][]form
	sights [][]sight
	makers []maker
}

// rule is a code, and what answers the first node of a fn that has this fault.
type rule struct {
	code  int
	first func(f int) int
}

func (c unitCheck) firstFault(rules ...rule) Fault {
	for _, r := range rules {
		for f := range c.fns {
			if n := r.first(f); n != noNode {
				return Fault{Code: r.code, Fn: f, Node: n}
			}
		}
	}
	return Fault{}
}

// within tells whether a number is a place in a list of that length.
func within(number, length int) bool {
	return number >= 0 && number < length
}

// The head of a fn.

func (c unitCheck) headFault(f int) int {
	fn := c.fns[f]
	if !headFits(fn) || !namesFit(fn) {
		return 0
	}
	if f == 0 && (fn.Params != 0 || len(fn.Ups) != 0) {
		return 0
	}
	return noNode
}

func headFits(fn Fn) bool {
	return len(fn.Nodes) > 0 &&
		len(fn.Vars) <= MaxVars &&
		len(fn.Ups) <= MaxVars &&
		fn.Params >= 0 && fn.Params <= len(fn.Vars) &&
		fn.Line >= 0 && fn.Line <= MaxLine
}

func namesFit(fn Fn) bool {
	for _, name := range fn.Vars {
		if len(name) < 1 || len(name) > MaxName {
			return false
		}
	}
	return len(fn.Name) <= MaxName
}

// The forms of nodes: each row of the tables is a type.

// class is what may stand at a place among the kids.
type class int

const (
	aStatement class = iota
	anExpression
	aBlock
	aBlockOrIf
	aCall
	aCallOrRest
	anInt
	aTarget
)

func (c class) has(kind int) bool {
	switch c {
	case aStatement:
		return isStatement(kind)
	case anExpression:
		return kind >= NNil && kind <= NOne
	case aBlock:
		return kind == NBlock
	case aBlockOrIf:
		return kind == NBlock || kind == NIf
	case aCall:
		return kind == NCall
	case aCallOrRest:
		return kind == NCall || kind == NRest
	case anInt:
		return kind == NInt
	case aTarget:
		return kind == NVar || kind == NUp || kind == NIndex
	}
	return false
}

func (c class) hasAll(kinds []int) bool {
	for _, kind := range kinds {
		if !c.has(kind) {
			return false
		}
	}
	return true
}

func isStatement(kind int) bool {
	return kind >= NBlock && kind <= NDefer
}

// The fields that a row of the tables may name.
const (
	useOp = 1 << iota
	useNum
	useFlt
	useStr
	useRefs
	useKids
)

// header is what every form has: its node, the place where that stands, and the kinds of its kids.
type header struct {
	place int
	node  Node
	kinds []int
}

func (h header) head() header { return h }

// usesOnly tells whether all fields but the named ones are 0 or empty.
func (h header) usesOnly(fields int) bool {
	n := h.node
	return (fields&useOp != 0 || n.Op == 0) &&
		(fields&useNum != 0 || n.Num == 0) &&
		(fields&useFlt != 0 || n.Flt == 0) &&
		(fields&useStr != 0 || n.Str == "") &&
		(fields&useRefs != 0 || len(n.Refs) == 0) &&
		(fields&useKids != 0 || len(n.Kids) == 0)
}

// kidsAre tells whether there is one kid for each class, in this order.
func (h header) kidsAre(classes ...class) bool {
	if len(h.kinds) != len(classes) {
		return false
	}
	for i, c := range classes {
		if !c.has(h.kinds[i]) {
			return false
		}
	}
	return true
}

func (h header) lineFits() bool {
	if isStatement(h.node.Kind) {
		return h.node.Line >= 1 && h.node.Line <= MaxLine
	}
	return h.node.Line == 0
}

// form is a node as its row of the tables has it.
type form interface {
	head() header
	fits() bool
}

type (
	strangeForm struct{ header }

	blockForm  struct{ header }
	letForm    struct{ header }
	setForm    struct{ header }
	doForm     struct{ header }
	ifForm     struct{ header }
	whileForm  struct{ header }
	forForm    struct{ header }
	eachForm   struct{ header }
	jumpForm   struct{ header }
	returnForm struct{ header }
	tryForm    struct{ header }
	throwForm  struct{ header }

	bareForm    struct{ header }
	restForm    struct{ header }
	intForm     struct{ header }
	fltForm     struct{ header }
	strForm     struct{ header }
	varForm     struct{ header }
	upForm      struct{ header }
	builtinForm struct{ header }
	twoForm     struct{ header }
	unaryForm   struct{ header }
	binaryForm  struct{ header }
	callForm    struct{ header }
	tableForm   struct{ header }
	fnForm      struct{ header }
	oneForm     struct{ header }
)

func (x strangeForm) fits() bool { return false }

func (x blockForm) fits() bool {
	return x.usesOnly(useKids) && aStatement.hasAll(x.kinds)
}

func (x letForm) fits() bool {
	return x.usesOnly(useRefs|useKids) && len(x.node.Refs) >= 1 && anExpression.hasAll(x.kinds)
}

func (x setForm) fits() bool {
	targets := x.node.Num
	if !x.usesOnly(useNum|useKids) || targets < 1 || targets >= int64(len(x.kinds)) {
		return false
	}
	return aTarget.hasAll(x.kinds[:targets]) && anExpression.hasAll(x.kinds[targets:])
}

func (x doForm) fits() bool {
	return x.usesOnly(useKids) && x.kidsAre(aCall)
}

func (x ifForm) fits() bool {
	return x.usesOnly(useKids) &&
		(x.kidsAre(anExpression, aBlock) || x.kidsAre(anExpression, aBlock, aBlockOrIf))
}

func (x whileForm) fits() bool {
	return x.usesOnly(useKids) && x.kidsAre(anExpression, aBlock)
}

func (x forForm) fits() bool {
	return x.usesOnly(useRefs|useKids) && len(x.node.Refs) == 1 &&
		x.kidsAre(anExpression, anExpression, anExpression, aBlock)
}

func (x eachForm) fits() bool {
	return x.usesOnly(useRefs|useKids) && len(x.node.Refs) >= 1 && len(x.node.Refs) <= 4 &&
		x.kidsAre(anExpression, aBlock)
}

func (x jumpForm) fits() bool { return x.usesOnly(0) }

func (x returnForm) fits() bool {
	return x.usesOnly(useKids) && anExpression.hasAll(x.kinds)
}

func (x tryForm) fits() bool {
	return x.usesOnly(useRefs|useKids) && len(x.node.Refs) == 2 && x.kidsAre(aBlock, aBlock)
}

func (x throwForm) fits() bool {
	return x.usesOnly(useKids) && x.kidsAre(anExpression)
}

func (x bareForm) fits() bool { return x.usesOnly(0) }

func (x restForm) fits() bool { return x.usesOnly(0) }

func (x intForm) fits() bool { return x.usesOnly(useNum) }

func (x fltForm) fits() bool {
	return x.usesOnly(useFlt) && !math.IsNaN(x.node.Flt)
}

func (x strForm) fits() bool {
	return x.usesOnly(useStr) && len(x.node.Str) <= MaxStr
}

func (x varForm) fits() bool {
	return x.usesOnly(useRefs) && len(x.node.Refs) == 1
}

func (x upForm) fits() bool {
	return x.usesOnly(useRefs) && len(x.node.Refs) == 1
}

func (x builtinForm) fits() bool {
	return x.usesOnly(useNum) && x.node.Num >= 0 && x.node.Num < Builtins
}

func (x twoForm) fits() bool {
	return x.usesOnly(useKids) && x.kidsAre(anExpression, anExpression)
}

func (x unaryForm) fits() bool {
	return x.usesOnly(useOp|useKids) && x.node.Op >= OpNeg && x.node.Op <= OpLen &&
		x.kidsAre(anExpression)
}

func (x binaryForm) fits() bool {
	return x.usesOnly(useOp|useKids) && x.node.Op >= OpAdd && x.node.Op <= OpGe &&
		x.kidsAre(anExpression, anExpression)
}

func (x callForm) fits() bool {
	return x.usesOnly(useKids) && len(x.kinds) >= 1 && anExpression.hasAll(x.kinds)
}

func (x tableForm) fits() bool {
	kids := len(x.kinds)
	if !x.usesOnly(useOp|useKids) || kids%2 != 0 || !anExpression.hasAll(x.kinds) {
		return false
	}
	switch x.node.Op {
	case 0:
		return true
	case 1:
		return kids >= 2 && anInt.has(x.kinds[kids-2]) && aCallOrRest.has(x.kinds[kids-1])
	}
	return false
}

func (x fnForm) fits() bool {
	return x.usesOnly(useRefs) && len(x.node.Refs) == 1
}

func (x oneForm) fits() bool {
	return x.usesOnly(useKids) && x.kidsAre(aCallOrRest)
}

func formsOf(fns []Fn) [][]form {
	all := make([][]form, len(fns))
	for f, fn := range fns {
		all[f] = make([]form, len(fn.Nodes))
		for n := range fn.Nodes {
			all[f][n] = formOf(fn.Nodes, n)
		}
	}
	return all
}

func formOf(nodes []Node, place int) form {
	n := nodes[place]
	if len(n.Kids) > MaxKids {
		return strangeForm{header{place: place, node: n}}
	}
	h := header{place: place, node: n, kinds: kindsOf(nodes[:place], n.Kids)}
	if isStatement(n.Kind) {
		return statementForm(h)
	}
	return expressionForm(h)
}

// kindsOf has 0 for a kid that is not among the nodes: no class has that kind.
func kindsOf(nodes []Node, kids []int) []int {
	kinds := make([]int, len(kids))
	for i, kid := range kids {
		if within(kid, len(nodes)) {
			kinds[i] = nodes[kid].Kind
		}
	}
	return kinds
}

func statementForm(h header) form {
	switch h.node.Kind {
	case NBlock:
		return blockForm{h}
	case NLet:
		return letForm{h}
	case NSet:
		return setForm{h}
	case NDo, NDefer:
		return doForm{h}
	case NIf:
		return ifForm{h}
	case NWhile:
		return whileForm{h}
	case NFor:
		return forForm{h}
	case NEach:
		return eachForm{h}
	case NBreak, NNext:
		return jumpForm{h}
	case NReturn:
		return returnForm{h}
	case NTry:
		return tryForm{h}
	case NThrow:
		return throwForm{h}
	}
	return strangeForm{h}
}

func expressionForm(h header) form {
	switch h.node.Kind {
	case NNil, NTrue, NFalse:
		return bareForm{h}
	case NInt:
		return intForm{h}
	case NFlt:
		return fltForm{h}
	case NStr:
		return strForm{h}
	case NVar:
		return varForm{h}
	case NUp:
		return upForm{h}
	case NBuiltin:
		return builtinForm{h}
	case NAnd, NOr, NIndex:
		return twoForm{h}
	case NUnary:
		return unaryForm{h}
	case NBinary:
		return binaryForm{h}
	case NCall:
		return callForm{h}
	case NTable:
		return tableForm{h}
	case NFn:
		return fnForm{h}
	case NRest:
		return restForm{h}
	case NOne:
		return oneForm{h}
	}
	return strangeForm{h}
}

func (c unitCheck) formFault(f int) int {
	for n, x := range c.forms[f] {
		if !x.head().lineFits() || !x.fits() {
			return n
		}
	}
	return noNode
}

// The tree of a fn.

func (c unitCheck) treeFault(f int) int {
	nodes := c.fns[f].Nodes
	parents := make([]int, len(nodes))
	for _, node := range nodes {
		for _, kid := range node.Kids {
			parents[kid]++
		}
	}
	last := len(nodes) - 1
	for n := range last {
		if parents[n] != 1 {
			return n
		}
	}
	if nodes[last].Kind != NBlock {
		return last
	}
	return noNode
}

func (c unitCheck) deepFault(f int) int {
	nodes := c.fns[f].Nodes
	depths := make([]int, len(nodes))
	// A parent stands behind its kids: from the end on, its depth is known when theirs are asked.
	for n := len(nodes) - 1; n >= 0; n-- {
		for _, kid := range nodes[n].Kids {
			depths[kid] = depths[n] + 1
		}
	}
	for n, depth := range depths {
		if depth > MaxNest {
			return n
		}
	}
	return noNode
}

// What a node sees where it stands.

// sight tells whether a node stands in a loop, and whether all that it names from there is in scope.
type sight struct {
	inLoop bool
	finds  bool
}

// walker goes through a fn in the order of scopes, which need not be that of the nodes' numbers.
type walker struct {
	fns    []Fn
	forms  []form
	ups    int
	holds  []int
	loops  int
	sights []sight
}

func sightsOf(fns []Fn, forms [][]form) [][]sight {
	all := make([][]sight, len(fns))
	for f, fn := range fns {
		w := walker{fns: fns, forms: forms[f], ups: len(fn.Ups)}
		w.holds = make([]int, len(fn.Vars))
		w.sights = make([]sight, len(fn.Nodes))
		for v := range fn.Params {
			w.holds[v] = 1
		}
		w.visit(len(fn.Nodes) - 1)
		all[f] = w.sights
	}
	return all
}

func (w *walker) visit(place int) {
	w.sights[place].inLoop = w.loops > 0
	switch x := w.forms[place].(type) {
	case blockForm:
		w.visitBlock(x)
	case whileForm:
		w.visit(x.node.Kids[0])
		w.visitLoop(x.node.Kids[1], nil)
	case forForm:
		w.visitAll(x.node.Kids[:3])
		w.visitLoop(x.node.Kids[3], x.node.Refs)
	case eachForm:
		w.visit(x.node.Kids[0])
		w.visitLoop(x.node.Kids[1], x.node.Refs)
	case tryForm:
		w.visit(x.node.Kids[0])
		w.hold(x.node.Refs, 1)
		w.visit(x.node.Kids[1])
		w.hold(x.node.Refs, -1)
	case varForm:
		w.sights[x.place].finds = w.inScope(x.node.Refs[0])
	case fnForm:
		w.sights[x.place].finds = w.findsUps(x.node.Refs[0])
	default:
		w.visitAll(x.head().node.Kids)
	}
}

func (w *walker) visitAll(places []int) {
	for _, place := range places {
		w.visit(place)
	}
}

func (w *walker) visitBlock(block blockForm) {
	for _, place := range block.node.Kids {
		w.visit(place)
		if let, ok := w.forms[place].(letForm); ok {
			w.hold(let.node.Refs, 1)
		}
	}
	for _, place := range block.node.Kids {
		if let, ok := w.forms[place].(letForm); ok {
			w.hold(let.node.Refs, -1)
		}
	}
}

func (w *walker) visitLoop(block int, vars []int) {
	w.loops++
	w.hold(vars, 1)
	w.visit(block)
	w.hold(vars, -1)
	w.loops--
}

// hold counts declarations, since one that is wrongly declared twice may hold by the other one still.
func (w *walker) hold(vars []int, step int) {
	for _, v := range vars {
		if within(v, len(w.holds)) {
			w.holds[v] += step
		}
	}
}

func (w *walker) inScope(v int) bool {
	return within(v, len(w.holds)) && w.holds[v] > 0
}

func (w *walker) findsUps(g int) bool {
	if !within(g, len(w.fns)) {
		return false
	}
	for _, up := range w.fns[g].Ups {
		if up.Local && !w.inScope(up.Index) {
			return false
		}
		if !up.Local && !within(up.Index, w.ups) {
			return false
		}
	}
	return true
}

func (c unitCheck) refsFault(f int) int {
	fn := c.fns[f]
	declared := make([]int, len(fn.Vars))
	for v := range fn.Params {
		declared[v] = 1
	}
	for n, form := range c.forms[f] {
		ok := true
		switch x := form.(type) {
		case letForm, forForm, eachForm, tryForm:
			ok = declareAll(declared, x.head().node.Refs)
		case varForm:
			ok = c.sights[f][n].finds
		case upForm:
			ok = within(x.node.Refs[0], len(fn.Ups))
		case fnForm:
			ok = within(x.node.Refs[0], len(c.fns))
		}
		if !ok {
			return n
		}
	}
	return noNode
}

// declareAll marks variables as declared; false when there is one that is not or that is marked already.
func declareAll(declared []int, vars []int) bool {
	for _, v := range vars {
		if !within(v, len(declared)) || declared[v] != 0 {
			return false
		}
		declared[v] = 1
	}
	return true
}

func (c unitCheck) jumpFault(f int) int {
	for _, form := range c.forms[f] {
		if x, ok := form.(jumpForm); ok && !c.sights[f][x.place].inLoop {
			return x.place
		}
	}
	return noNode
}

// What makes the fns.

// maker is the first NFn for a fn, if there is one.
type maker struct {
	found bool
	fn    int
	node  int
}

func makersOf(fns []Fn, forms [][]form) []maker {
	makers := make([]maker, len(fns))
	for f := range fns {
		for _, form := range forms[f] {
			x, ok := form.(fnForm)
			if !ok {
				continue
			}
			g := x.node.Refs[0]
			if within(g, len(fns)) && !makers[g].found {
				makers[g] = maker{found: true, fn: f, node: x.place}
			}
		}
	}
	return makers
}

func (c unitCheck) madeFault(f int) int {
	for n, form := range c.forms[f] {
		ok := true
		switch x := form.(type) {
		case restForm:
			ok = c.fns[f].Rest
		case fnForm:
			g := x.node.Refs[0]
			ok = g > f && c.makers[g] == maker{found: true, fn: f, node: n} && c.sights[f][n].finds
		}
		if !ok {
			return n
		}
	}
	return noNode
}

func (c unitCheck) unmadeFault(f int) int {
	if f > 0 && !c.makers[f].found {
		return 0
	}
	return noNode
}

// What can be done with values. Each one that comes here is a literal's or an operation's and so a valid one.

func boolValue(b bool) Value {
	if b {
		return Value{Kind: KBool, Num: 1}
	}
	return Value{Kind: KBool}
}

func intValue(n int64) Value { return Value{Kind: KInt, Num: n} }

func fltValue(f float64) Value { return Value{Kind: KFlt, Flt: f} }

func strValue(s string) Value { return Value{Kind: KStr, Str: s} }

func builtinValue(number int) Value { return Value{Kind: KBuiltin, Num: int64(number)} }

func gives(v Value) Valued { return Valued{Value: v} }

func fails(code int) Valued { return Valued{Code: code} }

func isNumber(v Value) bool {
	return v.Kind == KInt || v.Kind == KFlt
}

func isNaN(v Value) bool {
	return v.Kind == KFlt && math.IsNaN(v.Flt)
}

func truth(v Value) bool {
	return v.Kind != KNil && v != boolValue(false)
}

func same(a, b Value) bool {
	if isNumber(a) && isNumber(b) {
		return compare(a, b) == 0
	}
	return a == b
}

// What compare answers where neither of two values comes first.
const (
	besideNaN = 2
	noOrder   = 3
)

func compare(a, b Value) int {
	switch {
	case a.Kind == KStr && b.Kind == KStr:
		return cmp.Compare(a.Str, b.Str)
	case !isNumber(a) || !isNumber(b):
		return noOrder
	case isNaN(a) || isNaN(b):
		return besideNaN
	case a.Kind == KInt && b.Kind == KInt:
		return cmp.Compare(a.Num, b.Num)
	case a.Kind == KInt:
		return compareMixed(a.Num, b.Flt)
	case b.Kind == KInt:
		return -compareMixed(b.Num, a.Flt)
	}
	return cmp.Compare(a.Flt, b.Flt)
}

// compareMixed makes the float an int, which is exact for its whole part; an int made a float may be rounded.
func compareMixed(n int64, f float64) int {
	const beyond = 1 << 63
	if f >= beyond {
		return -1
	}
	if f < -beyond {
		return 1
	}
	whole := math.Floor(f)
	if order := cmp.Compare(n, int64(whole)); order != 0 {
		return order
	}
	return cmp.Compare(whole, f)
}

func binary(op int, a, b Value) Valued {
	switch op {
	case OpJoin:
		return join(a, b)
	case OpEq:
		return gives(boolValue(same(a, b)))
	case OpNe:
		return gives(boolValue(!same(a, b)))
	case OpLt, OpLe, OpGt, OpGe:
		return inOrder(op, compare(a, b))
	}
	if !isNumber(a) || !isNumber(b) {
		return fails(ErrType)
	}
	if a.Kind == KInt && b.Kind == KInt && op != OpDiv {
		return binaryOfInts(op, a.Num, b.Num)
	}
	return binaryOfFloats(op, asFloat(a), asFloat(b))
}

func inOrder(op, order int) Valued {
	if order == noOrder {
		return fails(ErrType)
	}
	holds := false
	switch op {
	case OpLt:
		holds = order == -1
	case OpLe:
		holds = order == -1 || order == 0
	case OpGt:
		holds = order == 1
	case OpGe:
		holds = order == 1 || order == 0
	}
	return gives(boolValue(holds))
}

func binaryOfInts(op int, a, b int64) Valued {
	switch op {
	case OpAdd:
		return gives(intValue(a + b))
	case OpSub:
		return gives(intValue(a - b))
	case OpMul:
		return gives(intValue(a * b))
	case OpIDiv, OpMod:
		return divide(op, a, b)
	case OpAnd:
		return gives(intValue(a & b))
	case OpOr:
		return gives(intValue(a | b))
	case OpXor:
		return gives(intValue(a ^ b))
	case OpShl, OpShr:
		return shift(op, a, b)
	}
	return fails(ErrType)
}

func divide(op int, a, b int64) Valued {
	if b == 0 {
		return fails(ErrZero)
	}
	quotient := a / b
	// The language of this program cuts towards 0, Heddle goes down.
	if a%b != 0 && (a < 0) != (b < 0) {
		quotient--
	}
	if op == OpMod {
		return gives(intValue(a - b*quotient))
	}
	return gives(intValue(quotient))
}

func shift(op int, a, b int64) Valued {
	if b < 0 {
		return fails(ErrRange)
	}
	if op == OpShl {
		return gives(intValue(a << b))
	}
	// Unsigned, so that zeros come in and not the sign.
	return gives(intValue(int64(uint64(a) >> b)))
}

func asFloat(v Value) float64 {
	if v.Kind == KInt {
		return float64(v.Num)
	}
	return v.Flt
}

// binaryOfFloats converts after each step, which bars a machine from doing two of them with one rounding.
func binaryOfFloats(op int, a, b float64) Valued {
	switch op {
	case OpAdd:
		return gives(fltValue(float64(a + b)))
	case OpSub:
		return gives(fltValue(float64(a - b)))
	case OpMul:
		return gives(fltValue(float64(a * b)))
	case OpDiv:
		return gives(fltValue(float64(a / b)))
	case OpIDiv:
		return gives(fltValue(math.Floor(a / b)))
	case OpMod:
		taken := float64(math.Floor(a/b) * b)
		return gives(fltValue(float64(a - taken)))
	}
	return fails(ErrType)
}

func join(a, b Value) Valued {
	if !isJoined(a) || !isJoined(b) {
		return fails(ErrType)
	}
	both := textOf(a) + textOf(b)
	if len(both) > MaxStr {
		return fails(ErrLong)
	}
	return gives(strValue(both))
}

func isJoined(v Value) bool {
	return v.Kind == KStr || isNumber(v)
}

// textOf has the texts of what can be joined.
func textOf(v Value) string {
	switch v.Kind {
	case KStr:
		return v.Str
	case KInt:
		return strconv.FormatInt(v.Num, 10)
	}
	return floatText(v.Flt)
}

func floatText(f float64) string {
	switch {
	case math.IsNaN(f):
		return "nan"
	case math.IsInf(f, 1):
		return "inf"
	case math.IsInf(f, -1):
		return "-inf"
	case f == 0 && math.Signbit(f):
		return "-0p0"
	case f == 0:
		return "0p0"
	}
	// A float has 53 bits, so that its fraction times 2 to the 53 is a whole number.
	fraction, exponent := math.Frexp(f)
	whole := int64(math.Ldexp(fraction, 53))
	zeros := bits.TrailingZeros64(uint64(whole))
	return strconv.FormatInt(whole>>zeros, 10) + "p" + strconv.Itoa(exponent-53+zeros)
}

func unary(op int, v Value) Valued {
	switch {
	case op == OpNeg && v.Kind == KInt:
		return gives(intValue(-v.Num))
	case op == OpNeg && v.Kind == KFlt:
		return gives(fltValue(-v.Flt))
	case op == OpFlip && v.Kind == KInt:
		return gives(intValue(^v.Num))
	case op == OpNot:
		return gives(boolValue(!truth(v)))
	case op == OpLen && v.Kind == KStr:
		return gives(intValue(int64(len(v.Str))))
	}
	return fails(ErrType)
}
