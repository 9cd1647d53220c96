package impl

import (
	"math"
	"slices"
)

// What a function says of a call.
const (
	CodeOK = iota
	CodeBad
	CodeSyntax
	CodeName
	CodeShape
	CodeLimit
	CodePass
	CodeBudget
)

// The limits of a graph.
const (
	MaxIns   = 20
	MaxVals  = 2000
	MaxLen   = 1000
	MaxCells = 50000
	MaxOuts  = 50
)

// The operations.
const (
	OpInput = iota
	OpConst
	OpAdd
	OpSub
	OpMul
	OpDiv
	OpNeg
	OpMax
	OpSel
	OpSum
	OpFill
	OpPick
	OpPut
	OpExp
)

// Val is one value of a graph: an operation on earlier values.
type Val struct {
	Op  int
	Len int
	A   int
	B   int
	C   int
	K   float64
}

// Graph is a list of values, each made of earlier ones.
type Graph struct {
	Ins  []int
	Vals []Val
	Outs []int
}

// element is a kind of number of which the kernels' lists are made.
type element interface {
	~float32 | ~float64
}

// SameFloat answers whether a and b are the same: all NaNs are one, and the two zeros differ.
func SameFloat(a, b float64) bool {
	return FloatBits(a) == FloatBits(b)
}

// FloatBits answers the 64 bits of f, with one pattern for all NaNs.
func FloatBits(f float64) uint64 {
	if math.IsNaN(f) {
		return 0x7ff8000000000000
	}
	return math.Float64bits(f)
}

// FloatFrom answers the float with the bits b.
func FloatFrom(b uint64) float64 {
	return math.Float64frombits(b)
}

// ExpFloat answers a number near e to the power x, the same to the last bit on every machine.
func ExpFloat(x float64) float64 {
	if math.IsNaN(x) {
		return x
	}
	if x > 1000 {
		return math.Inf(1)
	}
	if x < -1000 {
		return 0
	}
	r := over(x, 1024)
	p := 1.0
	for k := 14; k >= 1; k-- {
		p = times(r, p)
		p = over(p, float64(k))
		p = plus(p, 1)
	}
	for range 10 {
		p = times(p, p)
	}
	return p
}

// The conversions in plus, minus, times and over are there because a compiler
// may otherwise join two operations into one that is rounded only once.

func plus[T element](x, y T) T {
	return T(x + y)
}

func minus[T element](x, y T) T {
	return T(x - y)
}

func times[T element](x, y T) T {
	return T(x * y)
}

func over[T element](x, y T) T {
	return T(x / y)
}

func negated[T element](x T) T {
	return -x
}

// greater is not the built-in max, which answers a NaN whenever one is given.
func greater[T element](x, y T) T {
	if x > y {
		return x
	}
	return y
}

func chosen[T element](x, y, z T) T {
	if x > 0 {
		return y
	}
	return z
}

func eachOne[T element](a []T, op func(x T) T) []T {
	out := make([]T, len(a))
	for i, x := range a {
		out[i] = op(x)
	}
	return out
}

func eachTwo[T element](a, b []T, op func(x, y T) T) []T {
	out := make([]T, len(a))
	for i, x := range a {
		out[i] = op(x, b[i])
	}
	return out
}

func eachThree[T element](a, b, c []T, op func(x, y, z T) T) []T {
	out := make([]T, len(a))
	for i, x := range a {
		out[i] = op(x, b[i], c[i])
	}
	return out
}

// fold begins with the first element, not with 0: a sum of negative zeros is a negative zero.
func fold[T element](a []T, op func(x, y T) T) T {
	s := a[0]
	for _, x := range a[1:] {
		s = op(s, x)
	}
	return s
}

func copies[T element](x T, n int) []T {
	out := make([]T, n)
	for i := range out {
		out[i] = x
	}
	return out
}

func placed[T element](x T, place, n int) []T {
	out := make([]T, n)
	out[place] = x
	return out
}

// operandCount answers how many of the fields A, B and C, in this order, are operands.
func operandCount(op int) int {
	switch op {
	case OpNeg, OpSum, OpFill, OpPick, OpPut, OpExp:
		return 1
	case OpAdd, OpSub, OpMul, OpDiv, OpMax:
		return 2
	case OpSel:
		return 3
	}
	return 0
}

func operandsOf(v Val) []int {
	return []int{v.A, v.B, v.C}[:operandCount(v.Op)]
}

func hasPlace(op int) bool {
	return op == OpPick || op == OpPut
}

func isLength(n int) bool {
	return 1 <= n && n <= MaxLen
}

func isIndex(i, n int) bool {
	return 0 <= i && i < n
}

// shapeFits answers whether the value's Len and place go with operands of these lengths.
// It refuses OpInput, whose Len hangs on the graph, and whatever is no operation.
func shapeFits(v Val, lens []int) bool {
	switch v.Op {
	case OpConst, OpAdd, OpSub, OpMul, OpDiv, OpNeg, OpMax, OpSel, OpExp:
		return allAre(lens, v.Len)
	case OpSum:
		return v.Len == 1 && isLength(lens[0])
	case OpFill:
		return lens[0] == 1
	case OpPick:
		return v.Len == 1 && isLength(lens[0]) && isIndex(v.C, lens[0])
	case OpPut:
		return lens[0] == 1 && isIndex(v.C, v.Len)
	}
	return false
}

func allAre(lens []int, n int) bool {
	for _, l := range lens {
		if l != n {
			return false
		}
	}
	return true
}

// Kernel answers the elements of v from those of its operands, or the empty list if they do not fit.
func Kernel(v Val, a, b, c []float64) []float64 {
	lens := []int{len(a), len(b), len(c)}
	if !isLength(v.Len) || !shapeFits(v, lens[:operandCount(v.Op)]) {
		return nil
	}
	switch v.Op {
	case OpConst:
		return copies(v.K, v.Len)
	case OpAdd:
		return eachTwo(a, b, plus[float64])
	case OpSub:
		return eachTwo(a, b, minus[float64])
	case OpMul:
		return eachTwo(a, b, times[float64])
	case OpDiv:
		return eachTwo(a, b, over[float64])
	case OpNeg:
		return eachOne(a, negated[float64])
	case OpMax:
		return eachTwo(a, b, greater[float64])
	case OpSel:
		return eachThree(a, b, c, chosen[float64])
	case OpSum:
		return copies(fold(a, plus[float64]), 1)
	case OpFill:
		return copies(a[0], v.Len)
	case OpPick:
		return copies(a[v.C], 1)
	case OpPut:
		return placed(a[0], v.C, v.Len)
	case OpExp:
		return eachOne(a, ExpFloat)
	}
	return nil
}

// ValidGraph answers whether g keeps every rule and limit of a graph.
func ValidGraph(g Graph) bool {
	if len(g.Ins) > MaxIns || len(g.Vals) > MaxVals || len(g.Outs) > MaxOuts {
		return false
	}
	for _, n := range g.Ins {
		if !isLength(n) {
			return false
		}
	}
	cells := 0
	for i, v := range g.Vals {
		if !validVal(g, i) {
			return false
		}
		cells += v.Len
	}
	for _, o := range g.Outs {
		if !isIndex(o, len(g.Vals)) {
			return false
		}
	}
	return cells <= MaxCells
}

func validVal(g Graph, i int) bool {
	v := g.Vals[i]
	if !isLength(v.Len) || !spareFieldsAreZero(v) {
		return false
	}
	if v.Op == OpInput {
		return isIndex(v.A, len(g.Ins)) && v.Len == g.Ins[v.A]
	}
	operands := operandsOf(v)
	lens := make([]int, len(operands))
	for k, o := range operands {
		if !isIndex(o, i) {
			return false
		}
		lens[k] = g.Vals[o].Len
	}
	return shapeFits(v, lens)
}

func spareFieldsAreZero(v Val) bool {
	n := operandCount(v.Op)
	spareA := n < 1 && v.Op != OpInput
	spareB := n < 2
	spareC := n < 3 && !hasPlace(v.Op)
	return !(spareA && v.A != 0 || spareB && v.B != 0 || spareC && v.C != 0)
}

// Eval answers the elements of each output of g for these inputs.
func Eval(g Graph, inputs [][]float64) ([][]float64, int) {
	if !ValidGraph(g) {
		return nil, CodeBad
	}
	if !inputsFit(g.Ins, inputs) {
		return nil, CodeShape
	}
	lists := make([][]float64, len(g.Vals))
	for i, v := range g.Vals {
		lists[i] = elementsOf(v, lists, inputs)
	}
	outs := make([][]float64, len(g.Outs))
	for i, o := range g.Outs {
		// An output may stand twice, or be an input: each gets a copy of its own.
		outs[i] = slices.Clone(lists[o])
	}
	return outs, CodeOK
}

func inputsFit(ins []int, inputs [][]float64) bool {
	if len(inputs) != len(ins) {
		return false
	}
	for i, n := range ins {
		if len(inputs[i]) != n {
			return false
		}
	}
	return true
}

func elementsOf(v Val, lists, inputs [][]float64) []float64 {
	if v.Op == OpInput {
		return inputs[v.A]
	}
	var operands [3][]float64
	for k, o := range operandsOf(v) {
		operands[k] = lists[o]
	}
	return Kernel(v, operands[0], operands[1], operands[2])
}
