package tests

import (
	"testing"

	"loop.example/s08086/impl"
)

// checkGradCall compares one call with the text of 2.1, whatever s and x are.
func checkGradCall(t *testing.T, g impl.Graph, s, x int) int {
	t.Helper()
	code := -1
	mustPanicNever(t, "Grad", func() {
		var got impl.Graph
		var at int
		got, at, code = impl.Grad(g, s, x)
		want, wantAt, wantCode := wantGrad(g, s, x)
		if code != wantCode || at != wantAt || !sameGraph(got, want) {
			t.Fatalf("Grad(%+v, %d, %d) = %+v, %d, %d\nwant %+v, %d, %d", g, s, x, got, at, code, want, wantAt, wantCode)
		}
		if code == impl.CodeOK && (!impl.ValidGraph(got) || got.Vals[at].Len != g.Vals[x].Len) {
			t.Fatalf("Grad(%+v, %d, %d) = %+v, %d: not valid, or a wrong length", g, s, x, got, at)
		}
	})
	return code
}

// checkJvpCall compares one call with the text of 2.2, whatever s, x and d are.
func checkJvpCall(t *testing.T, g impl.Graph, s, x, d int) int {
	t.Helper()
	code := -1
	mustPanicNever(t, "Jvp", func() {
		var got impl.Graph
		var at int
		got, at, code = impl.Jvp(g, s, x, d)
		want, wantAt, wantCode := wantJvp(g, s, x, d)
		if code != wantCode || at != wantAt || !sameGraph(got, want) {
			t.Fatalf("Jvp(%+v, %d, %d, %d) = %+v, %d, %d\nwant %+v, %d, %d", g, s, x, d, got, at, code, want, wantAt, wantCode)
		}
		if code == impl.CodeOK && (!impl.ValidGraph(got) || got.Vals[at].Len != g.Vals[s].Len) {
			t.Fatalf("Jvp(%+v, %d, %d, %d) = %+v, %d: not valid, or a wrong length", g, s, x, d, got, at)
		}
	})
	return code
}

// closeGraph answers a valid graph whose values take late values as operands, so that most of them hang together.
func closeGraph(s *source, size int) impl.Graph {
	g := impl.Graph{Ins: []int{1, 3}, Vals: []impl.Val{val(impl.OpInput, 1, 0, 0, 0), val(impl.OpInput, 3, 1, 0, 0)}}
	for len(g.Vals) < size {
		v := anyVal(s, g)
		if ruleOf(v.Op).operands == 0 {
			continue
		}
		for _, f := range fieldsOf(&v)[:ruleOf(v.Op).operands] {
			*f = latestWithLength(s, g, g.Vals[*f].Len)
		}
		g.Vals = append(g.Vals, v)
	}
	g.Outs = []int{size - 1}
	return g
}

// latestWithLength answers one of the last four values with n elements.
func latestWithLength(s *source, g impl.Graph, n int) int {
	back := s.below(4)
	found := -1
	for i := len(g.Vals) - 1; i >= 0 && back >= 0; i-- {
		if g.Vals[i].Len == n {
			found = i
			back--
		}
	}
	return found
}

// P4 and P5: all values of any graph, by all others, and indexes beside them.
func TestDerivativesOfAnyGraph(t *testing.T) {
	s := &source{20}
	codes := map[int]int{}
	for round := range 120 {
		g := anyGraph(s)
		if round%2 == 1 {
			g = closeGraph(s, 4+s.below(16))
		}
		n := len(g.Vals)
		for a := -1; a <= n; a++ {
			for b := -1; b <= n; b++ {
				codes[checkGradCall(t, g, a, b)]++
				d := s.below(n+2) - 1
				codes[10+checkJvpCall(t, g, a, b, d)]++
				if b >= 0 && b < n {
					checkJvpCall(t, g, a, b, withLength(s, g, g.Vals[b].Len))
				}
			}
		}
	}
	for _, c := range []int{impl.CodeOK, impl.CodeBad, impl.CodeShape} {
		if codes[c] < 1000 || codes[10+c] < 1000 {
			t.Errorf("code %d was answered %d and %d times: not much of a test", c, codes[c], codes[10+c])
		}
	}
}

// changeOneNumber writes another number, good or bad, into one of the graph's lists, none of which may be empty.
func changeOneNumber(s *source, g impl.Graph) {
	numbers := append(farInts(), 0, 1, 2, 3, 13, 14, 1000, 1001)
	x := numbers[s.below(len(numbers))]
	switch s.below(6) {
	case 0:
		g.Outs[s.below(len(g.Outs))] = x
	case 1:
		g.Ins[s.below(len(g.Ins))] = x
	default:
		v := &g.Vals[s.below(len(g.Vals))]
		*append(fieldsOf(v), &v.Op, &v.Len)[s.below(5)] = x
	}
}

// P4 and P5: graphs in which one number was changed, good or bad.
func TestDerivativesOfChangedGraphs(t *testing.T) {
	s := &source{21}
	codes := map[int]int{}
	for range 10000 {
		g := closeGraph(s, 4+s.below(8))
		changeOneNumber(s, g)
		codes[checkGradCall(t, g, s.below(len(g.Vals)), s.below(len(g.Vals)))]++
		codes[checkJvpCall(t, g, s.below(len(g.Vals)), s.below(len(g.Vals)), s.below(len(g.Vals)))]++
	}
	if codes[impl.CodeOK] < 500 || codes[impl.CodeBad] < 5000 {
		t.Errorf("%v: not much of a test", codes)
	}
}

// P4 and P5: a derivative is a graph of which derivatives are taken again.
func TestDerivativesOfDerivatives(t *testing.T) {
	s := &source{22}
	deep := 0
	for range 300 {
		g := closeGraph(s, 4+s.below(6))
		for depth := 0; depth < 4; depth++ {
			from, by := len(g.Vals)-1, s.below(2)
			if s.below(2) == 0 {
				checkJvpCall(t, g, from, by, by)
				g, _, _ = impl.Jvp(g, from, by, by)
			} else {
				g.Vals = append(g.Vals, val(impl.OpSum, 1, from, 0, 0))
				checkGradCall(t, g, from+1, by)
				g, _, _ = impl.Grad(g, from+1, by)
			}
			if len(g.Vals) == 0 {
				break
			}
			deep += depth
		}
	}
	if deep < 600 {
		t.Errorf("%d: not much of a test", deep)
	}
}

// P4 and P5: long ways that meet the limits, or break them, wherever they do.
func TestDerivativesOfLongGraphs(t *testing.T) {
	s := &source{23}
	codes := map[int]int{}
	for range 60 {
		g := closeGraph(s, 300+s.below(1200))
		last := len(g.Vals) - 1
		for g.Vals[last].Len != 1 {
			last--
		}
		x := s.below(6)
		codes[checkGradCall(t, g, last, x)]++
		codes[10+checkJvpCall(t, g, len(g.Vals)-1, x, withLength(s, g, g.Vals[x].Len))]++
	}
	if codes[impl.CodeOK] < 5 || codes[impl.CodeLimit] < 5 || codes[10+impl.CodeOK] < 5 || codes[10+impl.CodeLimit] < 5 {
		t.Errorf("%v: not much of a test", codes)
	}
}
