package tests

import (
	"math"
	"math/big"
	"slices"
	"strconv"
	"strings"

	"loop.example/reed/impl"
)

// A second reading of the document's chapter 3, built another way than the program: a name is sought by climbing from where it stands; numbers are reckoned as fractions of any size and rounded by those.

const builtinsInOrder = "print read type text setkind kind rawget rawset task resume yield status giveup collect cells"

func parentOf(parts []impl.Part, place int) int {
	for n := place + 1; n < len(parts); n++ {
		if slices.Contains(parts[n].Kids, place) {
			return n
		}
	}
	return -1
}

// lastNamed is the last place of a name in a list, -1 for none.
func lastNamed(names []string, name string) int {
	for i := len(names) - 1; i >= 0; i-- {
		if names[i] == name {
			return i
		}
	}
	return -1
}

// modelNamedAt has what part p declares of a name for its kid; of a SBlock it is what the statements ahead of the kid declare.
func modelNamedAt(parts []impl.Part, p, kid int, name string) (part, place int) {
	kids := parts[p].Kids
	switch parts[p].Kind {
	case impl.SBlock:
		for i := slices.Index(kids, kid) - 1; i >= 0; i-- {
			kind := parts[kids[i]].Kind
			if kind == impl.SLet || kind == impl.SConst || kind == impl.SFn {
				if place := lastNamed(parts[kids[i]].Names, name); place >= 0 {
					return kids[i], place
				}
			}
		}
	case impl.SFn, impl.EFn:
		return p, lastNamed(parts[p].Names, name)
	case impl.SFor, impl.SEach:
		if parts[kid].Kind == impl.SBlock {
			return p, lastNamed(parts[p].Names, name)
		}
	case impl.STry:
		if kid == kids[1] {
			return p, lastNamed(parts[p].Names, name)
		}
	}
	return -1, -1
}

func modelUse(parts []impl.Part, place int) impl.Use {
	name, left := parts[place].Text, 0
	for kid, p := place, parentOf(parts, place); p >= 0; kid, p = p, parentOf(parts, p) {
		part, nth := modelNamedAt(parts, p, kid, name)
		switch {
		case nth >= 0 && parts[part].Kind == impl.SConst:
			return impl.Use{Part: place, Kind: 3, Decl: part, Place: nth}
		case nth >= 0 && left > 0:
			return impl.Use{Part: place, Kind: 2, Decl: part, Place: nth}
		case nth >= 0:
			return impl.Use{Part: place, Kind: 1, Decl: part, Place: nth}
		}
		if parts[p].Kind == impl.EFn {
			left++
		}
	}
	if number := slices.Index(strings.Fields(builtinsInOrder), name); number >= 0 {
		return impl.Use{Part: place, Kind: 4, Decl: -1, Place: number}
	}
	return impl.Use{Part: place, Decl: -1}
}

func modelUses(t impl.Tree) []impl.Use {
	var uses []impl.Use
	if modelWrong(t) != (impl.Wrong{}) {
		return nil
	}
	for n, p := range t.Parts {
		if p.Kind == impl.EName {
			uses = append(uses, modelUse(t.Parts, n))
		}
	}
	return uses
}

func modelConsts(t impl.Tree) []impl.Const {
	var consts []impl.Const
	if modelWrong(t) != (impl.Wrong{}) {
		return nil
	}
	for n, p := range t.Parts {
		if p.Kind != impl.SConst {
			continue
		}
		c := impl.Const{Part: n, Code: 1}
		if v, ok := modelConst(t.Parts, n); ok {
			c = impl.Const{Part: n, Value: v}
		}
		consts = append(consts, c)
	}
	return consts
}

func modelConst(parts []impl.Part, n int) (impl.Value, bool) {
	v, ok := modelWorth(parts, parts[n].Kids[0])
	return v, ok && v.Flt == v.Flt
}

func modelWorth(parts []impl.Part, n int) (impl.Value, bool) {
	p := parts[n]
	switch p.Kind {
	case impl.ENil:
		return vNil(), true
	case impl.ETrue, impl.EFalse:
		return vBool(p.Kind == impl.ETrue), true
	case impl.EInt:
		return vInt(p.Num), true
	case impl.EFlt:
		return vFlt(p.Flt), true
	case impl.EStr:
		return vStr(p.Text), true
	case impl.EName:
		use := modelUse(parts, n)
		if use.Kind == impl.UConst {
			return modelConst(parts, use.Decl)
		}
		return vBuiltin(int64(use.Place)), use.Kind == impl.UBuiltin
	case impl.EUnary:
		v, ok := modelWorth(parts, p.Kids[0])
		if !ok {
			return v, false
		}
		return modelUnary(p.Op, v)
	case impl.EBinary, impl.EAnd, impl.EOr:
		a, ok := modelWorth(parts, p.Kids[0])
		b, too := modelWorth(parts, p.Kids[1])
		switch {
		case !ok || !too:
			return impl.Value{}, false
		case p.Kind == impl.EBinary:
			return modelBinary(p.Op, a, b)
		case modelTruth(a) != (p.Kind == impl.EOr):
			return b, true
		}
		return a, true
	}
	return impl.Value{}, false
}

func modelTruth(v impl.Value) bool {
	switch v.Kind {
	case impl.KNil:
		return false
	case impl.KBool:
		return v.Num == 1
	}
	return true
}

func modelUnary(op int, v impl.Value) (impl.Value, bool) {
	minus := big.NewInt(-1)
	switch n := big.NewInt(v.Num); {
	case op == 19 && v.Kind == impl.KInt:
		return wrapped(n.Mul(n, minus)), true
	case op == 19 && v.Kind == impl.KFlt:
		return vFlt(math.Copysign(v.Flt, map[bool]float64{true: 1, false: -1}[math.Signbit(v.Flt)])), true
	case op == 20 && v.Kind == impl.KInt:
		return wrapped(n.Sub(minus, n)), true
	case op == 21:
		return vBool(!modelTruth(v)), true
	case op == 22 && v.Kind == impl.KStr:
		return vInt(int64(len(v.Str))), true
	}
	return impl.Value{}, false
}

// wrapped is what is left of a number modulo 2^64, as a signed one.
func wrapped(n *big.Int) impl.Value {
	all := new(big.Int).Lsh(big.NewInt(1), 64)
	n = new(big.Int).Mod(n, all)
	if n.Bit(63) == 1 {
		n.Sub(n, all)
	}
	return vInt(n.Int64())
}

func modelBinary(op int, a, b impl.Value) (impl.Value, bool) {
	numbers := modelNumber(a) && modelNumber(b)
	floats := a.Kind == impl.KFlt || b.Kind == impl.KFlt
	switch {
	case op >= 13:
		return modelCompares(op, a, b)
	case op == 12:
		return modelJoin(a, b)
	case !numbers || floats && op >= 7:
		return impl.Value{}, false
	case floats || op == 4:
		return vFlt(modelFloats(op, modelFloat(a), modelFloat(b))), true
	}
	return modelInts(op, big.NewInt(a.Num), big.NewInt(b.Num))
}

func modelNumber(v impl.Value) bool { return v.Kind == impl.KInt || v.Kind == impl.KFlt }

func modelInts(op int, a, b *big.Int) (impl.Value, bool) {
	out, low := new(big.Int), new(big.Int).Sub(new(big.Int).Lsh(big.NewInt(1), 64), big.NewInt(1))
	switch op {
	case 1:
		return wrapped(out.Add(a, b)), true
	case 2:
		return wrapped(out.Sub(a, b)), true
	case 3:
		return wrapped(out.Mul(a, b)), true
	case 5, 6:
		if b.Sign() == 0 {
			return impl.Value{}, false
		}
		quotient := floored(new(big.Rat).SetFrac(a, b))
		if op == 5 {
			return wrapped(quotient), true
		}
		return wrapped(out.Sub(a, quotient.Mul(quotient, b))), true
	case 7:
		return wrapped(out.And(a, b)), true
	case 8:
		return wrapped(out.Or(a, b)), true
	case 9:
		return wrapped(out.Xor(a, b)), true
	}
	if b.Sign() < 0 {
		return impl.Value{}, false
	}
	by := uint(min(b.Int64(), 200))
	if op == 10 {
		return wrapped(out.Lsh(a, by)), true
	}
	return wrapped(out.Rsh(out.And(a, low), by)), true
}

// floored is the greatest whole number not above a fraction.
func floored(r *big.Rat) *big.Int {
	whole, rest := new(big.Int).QuoRem(r.Num(), r.Denom(), new(big.Int))
	if rest.Sign() < 0 {
		whole.Sub(whole, big.NewInt(1))
	}
	return whole
}

func modelFloat(v impl.Value) float64 {
	if v.Kind == impl.KFlt {
		return v.Flt
	}
	return rounded(new(big.Rat).SetInt64(v.Num))
}

func rounded(r *big.Rat) float64 {
	f, _ := r.Float64()
	return f
}

func fraction(f float64) *big.Rat { return new(big.Rat).SetFloat64(f) }

func modelFloats(op int, a, b float64) float64 {
	switch op {
	case 1:
		return modelPlus(a, b)
	case 2:
		return modelPlus(a, math.Copysign(b, map[bool]float64{true: 1, false: -1}[math.Signbit(b)]))
	case 3:
		return modelTimes(a, b)
	case 4:
		return modelOver(a, b)
	case 5:
		return modelFloor(modelOver(a, b))
	}
	taken := modelTimes(modelFloor(modelOver(a, b)), b)
	return modelFloats(2, a, taken)
}

// isOdd tells that a float is an infinity or a NaN.
func isOdd(f float64) bool { return math.IsInf(f, 0) || math.IsNaN(f) }

func modelPlus(a, b float64) float64 {
	switch {
	case math.IsNaN(a) || math.IsNaN(b) || math.IsInf(a, 0) && math.IsInf(b, 0) && a != b:
		return math.NaN()
	case isOdd(a):
		return a
	case isOdd(b):
		return b
	case a == 0 && b == 0 && math.Signbit(a) && math.Signbit(b):
		return a
	}
	return rounded(new(big.Rat).Add(fraction(a), fraction(b)))
}

func modelTimes(a, b float64) float64 {
	sign := 1.0
	if math.Signbit(a) != math.Signbit(b) {
		sign = -1
	}
	switch {
	case math.IsNaN(a) || math.IsNaN(b) || isOdd(a) && b == 0 || isOdd(b) && a == 0:
		return math.NaN()
	case isOdd(a) || isOdd(b):
		return math.Copysign(math.Inf(1), sign)
	case a == 0 || b == 0:
		return math.Copysign(0, sign)
	}
	return rounded(new(big.Rat).Mul(fraction(a), fraction(b)))
}

func modelOver(a, b float64) float64 {
	sign := 1.0
	if math.Signbit(a) != math.Signbit(b) {
		sign = -1
	}
	switch {
	case math.IsNaN(a) || math.IsNaN(b) || isOdd(a) && isOdd(b) || a == 0 && b == 0:
		return math.NaN()
	case isOdd(a) || b == 0:
		return math.Copysign(math.Inf(1), sign)
	case isOdd(b) || a == 0:
		return math.Copysign(0, sign)
	}
	return rounded(new(big.Rat).Quo(fraction(a), fraction(b)))
}

func modelFloor(f float64) float64 {
	if isOdd(f) || f == 0 {
		return f
	}
	return rounded(new(big.Rat).SetInt(floored(fraction(f))))
}

// modelCompare is Compare.
func modelCompare(a, b impl.Value) int {
	if a.Kind == impl.KStr && b.Kind == impl.KStr {
		return strings.Compare(a.Str, b.Str)
	}
	if !modelNumber(a) || !modelNumber(b) {
		return 3
	}
	if math.IsNaN(a.Flt) || math.IsNaN(b.Flt) {
		return 2
	}
	// Infinities become numbers that are beyond all others.
	exact := func(v impl.Value) *big.Rat {
		switch {
		case v.Kind == impl.KInt:
			return new(big.Rat).SetInt64(v.Num)
		case math.IsInf(v.Flt, 0):
			beyond := new(big.Rat).SetInt(new(big.Int).Lsh(big.NewInt(1), 5000))
			if v.Flt < 0 {
				beyond.Neg(beyond)
			}
			return beyond
		}
		return fraction(v.Flt)
	}
	return exact(a).Cmp(exact(b))
}

func modelCompares(op int, a, b impl.Value) (impl.Value, bool) {
	order := modelCompare(a, b)
	if op <= 14 {
		same := order == 0
		if order == 3 {
			same = a.Kind == b.Kind && a.Num == b.Num
		}
		return vBool(same == (op == 13)), true
	}
	holds := map[int]string{15: "-", 16: "-0", 17: "+", 18: "0+"}[op]
	if order == 3 {
		return impl.Value{}, false
	}
	return vBool(order < 2 && strings.Contains(holds, string("-0+"[order+1]))), true
}

func modelJoin(a, b impl.Value) (impl.Value, bool) {
	x, ok := modelText(a)
	y, too := modelText(b)
	if !ok || !too || len(x)+len(y) > 4000 {
		return impl.Value{}, false
	}
	return vStr(x + y), true
}

func modelText(v impl.Value) (string, bool) {
	switch v.Kind {
	case impl.KStr:
		return v.Str, true
	case impl.KInt:
		return big.NewInt(v.Num).String(), true
	case impl.KFlt:
		return modelFloatText(v.Flt), true
	}
	return "", false
}

func modelFloatText(f float64) string {
	switch {
	case isOdd(f):
		return strings.ToLower(strings.TrimPrefix(strconv.FormatFloat(f, 'g', -1, 64), "+"))
	case f == 0:
		return strconv.FormatFloat(f, 'g', -1, 64) + "p0"
	}
	mantissa, power, _ := strings.Cut(strconv.FormatFloat(f, 'b', -1, 64), "p")
	m, _ := new(big.Int).SetString(mantissa, 10)
	e, _ := strconv.Atoi(power)
	for m.Bit(0) == 0 {
		m.Rsh(m, 1)
		e++
	}
	return m.String() + "p" + strconv.Itoa(e)
}
