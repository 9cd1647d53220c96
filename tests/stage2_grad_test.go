package tests

import (
	"testing"

	"loop.example/s08086/impl"
)

// gradCase asks for a gradient in a graph; more are the values put behind, written out by hand.
type gradCase struct {
	name string
	g    impl.Graph
	s, x int
	at   int
	more []impl.Val
}

func behind(g impl.Graph, more []impl.Val) impl.Graph {
	out := copyGraph(g)
	out.Vals = append(out.Vals, more...)
	return out
}

func checkDerivative(t *testing.T, name string, got impl.Graph, at, code int, want impl.Graph, wantAt int) {
	t.Helper()
	if code != impl.CodeOK || at != wantAt || !sameGraph(got, want) {
		t.Errorf("%s: code %d, index %d, graph %+v\nwant index %d, graph %+v", name, code, at, got, wantAt, want)
	}
}

func checkGrads(t *testing.T, cases []gradCase) {
	t.Helper()
	for _, c := range cases {
		got, at, code := impl.Grad(c.g, c.s, c.x)
		checkDerivative(t, c.name, got, at, code, behind(c.g, c.more), c.at)
	}
}

// scalars has the inputs 0, 1 and 2 of length 1, and then these values, from 3 on.
func scalars(vals ...impl.Val) impl.Graph {
	return inputsThen([]int{1, 1, 1}, vals...)
}

// triples has the inputs 0, 1 and 2 of length 3, the input 3 of length 1, and then these values, from 4 on.
func triples(vals ...impl.Val) impl.Graph {
	return inputsThen([]int{3, 3, 3, 1}, vals...)
}

func inputsThen(ins []int, vals ...impl.Val) impl.Graph {
	g := impl.Graph{Ins: ins, Outs: []int{len(ins) - 1, 0, 0}}
	for i, n := range ins {
		g.Vals = append(g.Vals, impl.Val{Op: impl.OpInput, Len: n, A: i, K: minusZero()})
	}
	g.Vals = append(g.Vals, vals...)
	return g
}

func one() impl.Val {
	return constant(1, 1)
}

// P4: each Op of the table as s itself, by each of its operands.
func TestGradEachOpAtTheEnd(t *testing.T) {
	of := func(op, a, b, c int) impl.Graph { return scalars(val(op, 1, a, b, c)) }
	zero := constant(1, 0)
	checkGrads(t, []gradCase{
		{"add A", of(impl.OpAdd, 0, 1, 0), 3, 0, 4, []impl.Val{one()}},
		{"add B", of(impl.OpAdd, 0, 1, 0), 3, 1, 4, []impl.Val{one()}},
		{"sub A", of(impl.OpSub, 1, 2, 0), 3, 1, 4, []impl.Val{one()}},
		{"sub B", of(impl.OpSub, 1, 2, 0), 3, 2, 5, []impl.Val{one(), val(impl.OpNeg, 1, 4, 0, 0)}},
		{"mul A", of(impl.OpMul, 1, 2, 0), 3, 1, 5, []impl.Val{one(), val(impl.OpMul, 1, 4, 2, 0)}},
		{"mul B", of(impl.OpMul, 1, 2, 0), 3, 2, 5, []impl.Val{one(), val(impl.OpMul, 1, 4, 1, 0)}},
		{"div A", of(impl.OpDiv, 1, 2, 0), 3, 1, 5, []impl.Val{one(), val(impl.OpDiv, 1, 4, 2, 0)}},
		{"div B", of(impl.OpDiv, 1, 2, 0), 3, 2, 7,
			[]impl.Val{one(), val(impl.OpMul, 1, 4, 3, 0), val(impl.OpDiv, 1, 5, 2, 0), val(impl.OpNeg, 1, 6, 0, 0)}},
		{"neg", of(impl.OpNeg, 2, 0, 0), 3, 2, 5, []impl.Val{one(), val(impl.OpNeg, 1, 4, 0, 0)}},
		{"max A", of(impl.OpMax, 1, 2, 0), 3, 1, 7, []impl.Val{one(), val(impl.OpSub, 1, 1, 2, 0), zero, val(impl.OpSel, 1, 5, 4, 6)}},
		{"max B", of(impl.OpMax, 1, 2, 0), 3, 2, 7, []impl.Val{one(), val(impl.OpSub, 1, 1, 2, 0), zero, val(impl.OpSel, 1, 5, 6, 4)}},
		{"sel A", of(impl.OpSel, 0, 1, 2), 3, 0, 5, []impl.Val{one(), zero}},
		{"sel B", of(impl.OpSel, 0, 1, 2), 3, 1, 6, []impl.Val{one(), zero, val(impl.OpSel, 1, 0, 4, 5)}},
		{"sel C", of(impl.OpSel, 0, 1, 2), 3, 2, 6, []impl.Val{one(), zero, val(impl.OpSel, 1, 0, 5, 4)}},
		{"sum", triples(val(impl.OpSum, 1, 2, 0, 0)), 4, 2, 6, []impl.Val{one(), val(impl.OpFill, 3, 5, 0, 0)}},
		{"fill", of(impl.OpFill, 2, 0, 0), 3, 2, 5, []impl.Val{one(), val(impl.OpSum, 1, 4, 0, 0)}},
		{"pick", triples(val(impl.OpPick, 1, 1, 0, 2)), 4, 1, 6, []impl.Val{one(), val(impl.OpPut, 3, 5, 0, 2)}},
		{"put", of(impl.OpPut, 1, 0, 0), 3, 1, 5, []impl.Val{one(), val(impl.OpPick, 1, 4, 0, 0)}},
		{"exp", of(impl.OpExp, 1, 0, 0), 3, 1, 5, []impl.Val{one(), val(impl.OpMul, 1, 4, 3, 0)}},
		{"input", scalars(), 1, 1, 3, []impl.Val{one()}},
		{"input, another", scalars(), 2, 1, 3, []impl.Val{zero}},
		{"const", scalars(constant(1, 7)), 3, 3, 4, []impl.Val{one()}},
		{"const, by an input", scalars(constant(1, 7)), 3, 1, 4, []impl.Val{zero}},
	})
}

// middle puts an OpSum behind a value of length 3: its slope is then value 7.
func middle(op, a, b, c int) impl.Graph {
	return triples(val(op, 3, a, b, c), val(impl.OpSum, 1, 4, 0, 0))
}

func afterSum(more ...impl.Val) []impl.Val {
	return append([]impl.Val{one(), val(impl.OpFill, 3, 6, 0, 0)}, more...)
}

// P4: each Op in the middle of the way, with a length other than 1.
func TestGradEachOpInTheMiddle(t *testing.T) {
	zeros := constant(3, 0)
	turned := val(impl.OpNeg, 1, 4, 0, 0)
	checkGrads(t, []gradCase{
		{"add A", middle(impl.OpAdd, 0, 1, 0), 5, 0, 7, afterSum()},
		{"add B", middle(impl.OpAdd, 0, 1, 0), 5, 1, 7, afterSum()},
		{"sub A", middle(impl.OpSub, 0, 1, 0), 5, 0, 7, afterSum()},
		{"sub B", middle(impl.OpSub, 0, 1, 0), 5, 1, 8, afterSum(val(impl.OpNeg, 3, 7, 0, 0))},
		{"mul A", middle(impl.OpMul, 1, 2, 0), 5, 1, 8, afterSum(val(impl.OpMul, 3, 7, 2, 0))},
		{"mul B", middle(impl.OpMul, 1, 2, 0), 5, 2, 8, afterSum(val(impl.OpMul, 3, 7, 1, 0))},
		{"div A", middle(impl.OpDiv, 1, 2, 0), 5, 1, 8, afterSum(val(impl.OpDiv, 3, 7, 2, 0))},
		{"div B", middle(impl.OpDiv, 1, 2, 0), 5, 2, 10,
			afterSum(val(impl.OpMul, 3, 7, 4, 0), val(impl.OpDiv, 3, 8, 2, 0), val(impl.OpNeg, 3, 9, 0, 0))},
		{"neg", middle(impl.OpNeg, 2, 0, 0), 5, 2, 8, afterSum(val(impl.OpNeg, 3, 7, 0, 0))},
		{"max A", middle(impl.OpMax, 1, 2, 0), 5, 1, 10, afterSum(val(impl.OpSub, 3, 1, 2, 0), zeros, val(impl.OpSel, 3, 8, 7, 9))},
		{"max B", middle(impl.OpMax, 1, 2, 0), 5, 2, 10, afterSum(val(impl.OpSub, 3, 1, 2, 0), zeros, val(impl.OpSel, 3, 8, 9, 7))},
		{"sel A", middle(impl.OpSel, 0, 1, 2), 5, 0, 8, afterSum(zeros)},
		{"sel B", middle(impl.OpSel, 0, 1, 2), 5, 1, 9, afterSum(zeros, val(impl.OpSel, 3, 0, 7, 8))},
		{"sel C", middle(impl.OpSel, 0, 1, 2), 5, 2, 9, afterSum(zeros, val(impl.OpSel, 3, 0, 8, 7))},
		{"sum", triples(val(impl.OpSum, 1, 2, 0, 0), turned), 5, 2, 8, []impl.Val{one(), val(impl.OpNeg, 1, 6, 0, 0), val(impl.OpFill, 3, 7, 0, 0)}},
		{"fill", middle(impl.OpFill, 3, 0, 0), 5, 3, 8, afterSum(val(impl.OpSum, 1, 7, 0, 0))},
		{"pick", triples(val(impl.OpPick, 1, 2, 0, 1), turned), 5, 2, 8,
			[]impl.Val{one(), val(impl.OpNeg, 1, 6, 0, 0), val(impl.OpPut, 3, 7, 0, 1)}},
		{"put", middle(impl.OpPut, 3, 0, 2), 5, 3, 8, afterSum(val(impl.OpPick, 1, 7, 0, 2))},
		{"exp", middle(impl.OpExp, 1, 0, 0), 5, 1, 8, afterSum(val(impl.OpMul, 3, 7, 4, 0))},
	})
}

// P4: an index that stands in two or three fields counts in each.
func TestGradOperandInSeveralFields(t *testing.T) {
	zeros := constant(3, 0)
	add := func(p, q int) impl.Val { return val(impl.OpAdd, 3, p, q, 0) }
	sel := func(p, q, r int) impl.Val { return val(impl.OpSel, 3, p, q, r) }
	sub := val(impl.OpSub, 3, 1, 1, 0)
	checkGrads(t, []gradCase{
		{"add", middle(impl.OpAdd, 1, 1, 0), 5, 1, 8, afterSum(add(7, 7))},
		{"sub", middle(impl.OpSub, 1, 1, 0), 5, 1, 9, afterSum(val(impl.OpNeg, 3, 7, 0, 0), add(7, 8))},
		{"mul", middle(impl.OpMul, 1, 1, 0), 5, 1, 10, afterSum(val(impl.OpMul, 3, 7, 1, 0), val(impl.OpMul, 3, 7, 1, 0), add(8, 9))},
		{"div", middle(impl.OpDiv, 1, 1, 0), 5, 1, 12, afterSum(val(impl.OpDiv, 3, 7, 1, 0),
			val(impl.OpMul, 3, 7, 4, 0), val(impl.OpDiv, 3, 9, 1, 0), val(impl.OpNeg, 3, 10, 0, 0), add(8, 11))},
		{"max", middle(impl.OpMax, 1, 1, 0), 5, 1, 14, afterSum(sub, zeros, sel(8, 7, 9), sub, zeros, sel(11, 12, 7), add(10, 13))},
		{"sel A B", middle(impl.OpSel, 1, 1, 2), 5, 1, 9, afterSum(zeros, sel(1, 7, 8))},
		{"sel A C", middle(impl.OpSel, 1, 2, 1), 5, 1, 9, afterSum(zeros, sel(1, 8, 7))},
		{"sel B C", middle(impl.OpSel, 2, 1, 1), 5, 1, 12, afterSum(zeros, sel(2, 7, 8), zeros, sel(2, 10, 7), add(9, 11))},
		{"sel A B C", middle(impl.OpSel, 1, 1, 1), 5, 1, 12, afterSum(zeros, sel(1, 7, 8), zeros, sel(1, 10, 7), add(9, 11))},
	})
}

// P4: parts are added as they are given, the old slope first, and a sum stands ahead of the next operand's part.
func TestGradSeveralParts(t *testing.T) {
	three := scalars(val(impl.OpNeg, 1, 0, 0, 0), val(impl.OpAdd, 1, 0, 3, 0), val(impl.OpMul, 1, 4, 0, 0))
	joined := scalars(val(impl.OpNeg, 1, 0, 0, 0), val(impl.OpMul, 1, 3, 0, 0), val(impl.OpMul, 1, 4, 3, 0))
	checkGrads(t, []gradCase{
		{"three parts", three, 5, 0, 11, []impl.Val{one(),
			val(impl.OpMul, 1, 6, 0, 0), val(impl.OpMul, 1, 6, 4, 0), // of value 5: 7 to value 4, 8 to value 0
			val(impl.OpAdd, 1, 8, 7, 0), // of value 4: 7 once more to 0, and to 3
			val(impl.OpNeg, 1, 7, 0, 0), val(impl.OpAdd, 1, 9, 10, 0)}},
		{"parts for A and B by turns", joined, 5, 0, 13, []impl.Val{one(),
			val(impl.OpMul, 1, 6, 3, 0), val(impl.OpMul, 1, 6, 4, 0), // of value 5: 7 to value 4, 8 to value 3
			val(impl.OpMul, 1, 7, 0, 0), val(impl.OpAdd, 1, 8, 9, 0), // of value 4: 9 to value 3,
			val(impl.OpMul, 1, 7, 3, 0), // and 11 to value 0
			val(impl.OpNeg, 1, 10, 0, 0), val(impl.OpAdd, 1, 11, 12, 0)}},
	})
}

// P4: s = x, s < x, an s that x does not reach, and an x that is reached by the first operand of an OpSel alone.
func TestGradWithoutSlope(t *testing.T) {
	lone := triples(val(impl.OpSum, 1, 0, 0, 0), val(impl.OpMul, 3, 1, 2, 0), val(impl.OpSum, 1, 5, 0, 0), val(impl.OpNeg, 3, 1, 0, 0))
	zeros := constant(3, 0)
	// value 4 is active and has a slope by B; value 5 is active without one
	chosen := triples(val(impl.OpNeg, 3, 0, 0, 0), val(impl.OpExp, 3, 4, 0, 0), val(impl.OpSel, 3, 5, 1, 2), val(impl.OpSum, 1, 6, 0, 0))
	both := triples(val(impl.OpNeg, 3, 0, 0, 0), val(impl.OpSel, 3, 4, 4, 2), val(impl.OpSum, 1, 5, 0, 0))
	checkGrads(t, []gradCase{
		{"s = x, an input", triples(), 3, 3, 4, []impl.Val{one()}},
		{"s = x, a sum", lone, 6, 6, 8, []impl.Val{one()}},
		{"s < x, though s is an operand of x", lone, 3, 4, 8, []impl.Val{constant(1, 0)}},
		{"s < x, with another length", lone, 4, 5, 8, []impl.Val{zeros}},
		{"s < x, x last", lone, 6, 7, 8, []impl.Val{zeros}},
		{"not reached", lone, 6, 0, 8, []impl.Val{zeros}},
		{"not reached, with an active value before", lone, 6, 3, 8, []impl.Val{constant(1, 0)}},
		{"reached, with another active value behind", lone, 6, 1, 10,
			[]impl.Val{one(), val(impl.OpFill, 3, 8, 0, 0), val(impl.OpMul, 3, 9, 2, 0)}},
		{"by the first operand alone", chosen, 7, 0, 10, []impl.Val{one(), val(impl.OpFill, 3, 8, 0, 0), zeros}},
		{"by the first operand and another", both, 6, 0, 11, []impl.Val{one(), val(impl.OpFill, 3, 7, 0, 0),
			zeros, val(impl.OpSel, 3, 4, 8, 9), val(impl.OpNeg, 3, 10, 0, 0)}},
	})
}

// P4: operands before x, and values behind s, get nothing, though they hang together with both.
func TestGradStopsAtItsEnds(t *testing.T) {
	g := scalars(val(impl.OpMul, 1, 0, 1, 0), val(impl.OpMul, 1, 3, 0, 0), val(impl.OpMul, 1, 4, 3, 0), val(impl.OpMul, 1, 5, 3, 0))
	checkGrads(t, []gradCase{
		{"from the middle to the middle", g, 5, 3, 11, []impl.Val{one(), val(impl.OpMul, 1, 7, 3, 0), val(impl.OpMul, 1, 7, 4, 0),
			val(impl.OpMul, 1, 8, 0, 0), val(impl.OpAdd, 1, 9, 10, 0)}},
	})
}

// P4: Ins, Outs and all of g's values stay, with the K that an Op does not use.
func TestGradKeepsTheGraph(t *testing.T) {
	odd := edgeFloats()
	for _, outs := range [][]int{nil, {0}, {3, 3, 1, 0}} {
		g := impl.Graph{Ins: []int{2, 5, 2}, Outs: outs, Vals: []impl.Val{
			{Op: impl.OpInput, Len: 2, A: 2, K: odd[18]}, {Op: impl.OpNeg, Len: 2, K: odd[len(odd)-1]},
			{Op: impl.OpPick, Len: 1, A: 1, C: 1, K: minusZero()}, {Op: impl.OpConst, Len: 1, K: minusZero()}}}
		checkGrads(t, []gradCase{{"kept", g, 2, 0, 6, []impl.Val{one(), val(impl.OpPut, 2, 4, 0, 1), val(impl.OpNeg, 2, 5, 0, 0)}}})
		got, at, code := impl.Jvp(g, 2, 0, 1)
		checkDerivative(t, "kept", got, at, code, behind(g, []impl.Val{val(impl.OpNeg, 2, 1, 0, 0), val(impl.OpPick, 1, 4, 0, 1)}), 5)
	}
}
