package tests

import (
	"math"
	"slices"
	"testing"

	"loop.example/s08086/impl"
)

// source is a small generator of numbers, so that every run of the tests sees the same ones.
type source struct {
	state uint64
}

func (s *source) bits() uint64 {
	s.state += 0x9e3779b97f4a7c15
	z := s.state
	z = (z ^ z>>30) * 0xbf58476d1ce4e5b9
	z = (z ^ z>>27) * 0x94d049bb133111eb
	return z ^ z>>31
}

func (s *source) below(n int) int {
	return int(s.bits() % uint64(n))
}

func minusZero() float64 {
	return math.Copysign(0, -1)
}

// edgeFloats are the floats at which something changes, among them NaNs of many bits.
func edgeFloats() []float64 {
	patterns := []uint64{
		0x0000000000000000, 0x8000000000000000, // both zeros
		0x7ff0000000000000, 0xfff0000000000000, // both infinities
		0x7ff8000000000000, 0x7ff8000000000001, 0x7ff0000000000001, 0x7fffffffffffffff, // NaNs
		0xfff8000000000000, 0xfff0000000000001, 0xffffffffffffffff,
		0x0000000000000001, 0x8000000000000001, // the smallest below the normal ones
		0x000fffffffffffff, 0x800fffffffffffff, // the greatest below the normal ones
		0x0010000000000000, 0x8010000000000000, // the smallest normal
		0x7fefffffffffffff, 0xffefffffffffffff, // the greatest finite
		0x3ff0000000000000, 0xbff0000000000000, 0x3ff0000000000001, 0x3fefffffffffffff,
	}
	out := []float64{0.1, -0.1, 0.5, 2, -3, 10, 1e16, -1e16, 9007199254740992, 9007199254740994, 1e300, -1e-300, 1000, -1000}
	for _, p := range patterns {
		out = append(out, math.Float64frombits(p))
	}
	return out
}

// farInts are numbers that are no good length, index or place in any test.
func farInts() []int {
	return []int{math.MinInt, math.MinInt + 1, math.MinInt32, -1001, -2, -1, math.MaxInt32, math.MaxInt - 1, math.MaxInt}
}

func sameOne(x, y float64) bool {
	if x != x || y != y {
		return x != x && y != y
	}
	return math.Float64bits(x) == math.Float64bits(y)
}

func sameList(a, b []float64) bool {
	return slices.EqualFunc(a, b, sameOne)
}

func sameLists(a, b [][]float64) bool {
	return slices.EqualFunc(a, b, sameList)
}

// rawEqual tells also NaNs of other bits apart: for arguments, that nobody may touch.
func rawEqual(a, b []float64) bool {
	return slices.EqualFunc(a, b, func(x, y float64) bool { return math.Float64bits(x) == math.Float64bits(y) })
}

// someFloats answers n floats, edges and others by turns.
func someFloats(s *source, n int) []float64 {
	edges := edgeFloats()
	out := make([]float64, n)
	for i := range out {
		switch s.below(3) {
		case 0:
			out[i] = edges[s.below(len(edges))]
		case 1:
			out[i] = float64(s.below(2001)-1000) / 8
		default:
			out[i] = math.Float64frombits(s.bits())
		}
	}
	return out
}

func val(op, n, a, b, c int) impl.Val {
	return impl.Val{Op: op, Len: n, A: a, B: b, C: c}
}

func constant(n int, k float64) impl.Val {
	return impl.Val{Op: impl.OpConst, Len: n, K: k}
}

// opRule is what the table says of an Op's fields.
type opRule struct {
	name     string
	operands int
	place    bool
}

func ruleOf(op int) opRule {
	rules := []opRule{
		{"input", 0, false}, {"const", 0, false}, {"add", 2, false}, {"sub", 2, false}, {"mul", 2, false},
		{"div", 2, false}, {"neg", 1, false}, {"max", 2, false}, {"sel", 3, false}, {"sum", 1, false},
		{"fill", 1, false}, {"pick", 1, true}, {"put", 1, true}, {"exp", 1, false},
	}
	return rules[op]
}

// wantElement is one element of a value, read off the table.
func wantElement(v impl.Val, a, b, c []float64, i int) float64 {
	switch v.Op {
	case impl.OpConst:
		return v.K
	case impl.OpAdd:
		return a[i] + b[i]
	case impl.OpSub:
		return a[i] - b[i]
	case impl.OpMul:
		return a[i] * b[i]
	case impl.OpDiv:
		return a[i] / b[i]
	case impl.OpNeg:
		return math.Float64frombits(math.Float64bits(a[i]) ^ 1<<63)
	case impl.OpMax:
		if a[i] > b[i] {
			return a[i]
		}
		return b[i]
	case impl.OpSel:
		if a[i] > 0 {
			return b[i]
		}
		return c[i]
	case impl.OpSum:
		s := a[0]
		for j := 1; j < len(a); j++ {
			s += a[j]
		}
		return s
	case impl.OpFill:
		return a[0]
	case impl.OpPick:
		return a[v.C]
	case impl.OpPut:
		if i == v.C {
			return a[0]
		}
		return 0
	}
	return impl.ExpFloat(a[i])
}

// wantKernel is Kernel by the text of 1.2.
func wantKernel(v impl.Val, a, b, c []float64) []float64 {
	if v.Len < 1 || v.Len > 1000 {
		return nil
	}
	fit := false
	switch v.Op {
	case impl.OpConst:
		fit = true
	case impl.OpAdd, impl.OpSub, impl.OpMul, impl.OpDiv, impl.OpMax:
		fit = len(a) == v.Len && len(b) == v.Len
	case impl.OpNeg, impl.OpExp:
		fit = len(a) == v.Len
	case impl.OpSel:
		fit = len(a) == v.Len && len(b) == v.Len && len(c) == v.Len
	case impl.OpSum:
		fit = v.Len == 1 && len(a) > 0 && len(a) <= 1000
	case impl.OpFill:
		fit = len(a) == 1
	case impl.OpPick:
		fit = v.Len == 1 && len(a) <= 1000 && v.C >= 0 && v.C < len(a)
	case impl.OpPut:
		fit = len(a) == 1 && v.C >= 0 && v.C < v.Len
	}
	if !fit {
		return nil
	}
	out := []float64{}
	for i := range v.Len {
		out = append(out, wantElement(v, a, b, c, i))
	}
	return out
}

// wantEval answers the outputs of a valid graph by the table, without Kernel or Eval.
func wantEval(g impl.Graph, inputs [][]float64) [][]float64 {
	lists := [][]float64{}
	at := func(i int) []float64 {
		if i < 0 || i >= len(lists) {
			return nil
		}
		return lists[i]
	}
	for _, v := range g.Vals {
		if v.Op == impl.OpInput {
			lists = append(lists, inputs[v.A])
			continue
		}
		lists = append(lists, wantKernel(v, at(v.A), at(v.B), at(v.C)))
	}
	out := [][]float64{}
	for _, o := range g.Outs {
		out = append(out, lists[o])
	}
	return out
}

// anyGraph answers a valid graph with values of every Op, as the generator will have it.
func anyGraph(s *source) impl.Graph {
	g := impl.Graph{}
	for range s.below(4) {
		g.Ins = append(g.Ins, 1+s.below(4))
	}
	for range s.below(40) {
		g.Vals = append(g.Vals, anyVal(s, g))
	}
	if len(g.Vals) > 0 {
		for range s.below(6) {
			g.Outs = append(g.Outs, s.below(len(g.Vals)))
		}
	}
	return g
}

// anyVal answers a value that may stand behind g.
func anyVal(s *source, g impl.Graph) impl.Val {
	op := s.below(14)
	if op == impl.OpInput && len(g.Ins) > 0 {
		in := s.below(len(g.Ins))
		return impl.Val{Op: op, Len: g.Ins[in], A: in, K: someFloats(s, 1)[0]}
	}
	if ruleOf(op).operands == 0 || len(g.Vals) == 0 {
		return constant(1+s.below(4), someFloats(s, 1)[0])
	}
	a := s.below(len(g.Vals))
	n := g.Vals[a].Len
	v := impl.Val{Op: op, Len: n, A: a, K: someFloats(s, 1)[0]}
	switch {
	case op == impl.OpSum:
		v.Len = 1
	case op == impl.OpPick:
		v.Len, v.C = 1, s.below(n)
	case op == impl.OpFill || op == impl.OpPut:
		v.A = withLength(s, g, 1)
		if v.A < 0 {
			return constant(1, 2)
		}
		v.Len = 1 + s.below(4)
		if op == impl.OpPut {
			v.C = s.below(v.Len)
		}
	}
	if ruleOf(op).operands > 1 {
		v.B = withLength(s, g, n)
	}
	if ruleOf(op).operands > 2 {
		v.C = withLength(s, g, n)
	}
	return v
}

// withLength answers the index of some value with n elements, or -1.
func withLength(s *source, g impl.Graph, n int) int {
	found := []int{}
	for i, v := range g.Vals {
		if v.Len == n {
			found = append(found, i)
		}
	}
	if len(found) == 0 {
		return -1
	}
	return found[s.below(len(found))]
}

func inputsFor(s *source, g impl.Graph) [][]float64 {
	out := [][]float64{}
	for _, n := range g.Ins {
		out = append(out, someFloats(s, n))
	}
	return out
}

func sameGraph(a, b impl.Graph) bool {
	sameVal := func(v, w impl.Val) bool {
		sameBits := math.Float64bits(v.K) == math.Float64bits(w.K)
		v.K, w.K = 0, 0
		return sameBits && v == w
	}
	return slices.Equal(a.Ins, b.Ins) && slices.EqualFunc(a.Vals, b.Vals, sameVal) && slices.Equal(a.Outs, b.Outs)
}

func copyGraph(g impl.Graph) impl.Graph {
	return impl.Graph{Ins: slices.Clone(g.Ins), Vals: slices.Clone(g.Vals), Outs: slices.Clone(g.Outs)}
}

func copyLists(lists [][]float64) [][]float64 {
	out := make([][]float64, len(lists))
	for i := range lists {
		out[i] = slices.Clone(lists[i])
	}
	return out
}

// scribble writes over all the memory of a list, also that beyond its end.
func scribble(list []float64, f float64) {
	list = list[:cap(list)]
	for i := range list {
		list[i] = f
	}
}

func mustPanicNever(t *testing.T, what string, call func()) {
	t.Helper()
	defer func() {
		if r := recover(); r != nil {
			t.Errorf("%s: panic: %v", what, r)
		}
	}()
	call()
}
