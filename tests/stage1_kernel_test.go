package tests

import (
	"math"
	"testing"

	"loop.example/s08086/impl"
)

type kernelCase struct {
	v       impl.Val
	a, b, c []float64
	want    []float64
}

func checkKernel(t *testing.T, cases []kernelCase) {
	t.Helper()
	for i, x := range cases {
		if got := impl.Kernel(x.v, x.a, x.b, x.c); !sameList(got, x.want) {
			t.Errorf("case %d, %s: %v, want %v", i, ruleOf(x.v.Op).name, got, x.want)
		}
	}
}

// P2: one line or two of the table each, with the answers written out.
func TestKernelTable(t *testing.T) {
	nan, inf, minus := math.NaN(), math.Inf(1), minusZero()
	checkKernel(t, []kernelCase{
		{constant(1, minus), nil, nil, nil, []float64{minus}},
		{constant(3, nan), nil, nil, nil, []float64{nan, nan, nan}},
		{val(impl.OpAdd, 1, 0, 0, 0), []float64{0.1}, []float64{0.2}, nil, []float64{0.30000000000000004}},
		{val(impl.OpAdd, 4, 0, 0, 0), []float64{minus, minus, inf, 1}, []float64{minus, 0, -inf, -1}, nil, []float64{minus, 0, nan, 0}},
		{val(impl.OpSub, 1, 0, 0, 0), []float64{5}, []float64{7}, nil, []float64{-2}},
		{val(impl.OpSub, 4, 0, 0, 0), []float64{minus, 0, inf, -inf}, []float64{0, 0, inf, 1}, nil, []float64{minus, 0, nan, -inf}},
		{val(impl.OpMul, 1, 0, 0, 0), []float64{3}, []float64{-4}, nil, []float64{-12}},
		{val(impl.OpMul, 4, 0, 0, 0), []float64{minus, minus, 0, 1e200}, []float64{3, -3, inf, 1e200}, nil, []float64{minus, 0, nan, inf}},
		{val(impl.OpDiv, 1, 0, 0, 0), []float64{1}, []float64{3}, nil, []float64{0.3333333333333333}},
		{val(impl.OpDiv, 5, 0, 0, 0), []float64{1, 1, 0, minus, inf}, []float64{0, minus, 0, 2, inf}, nil, []float64{inf, -inf, nan, minus, nan}},
		{val(impl.OpNeg, 1, 0, 0, 0), []float64{0}, nil, nil, []float64{minus}},
		{val(impl.OpNeg, 5, 0, 0, 0), []float64{minus, inf, -inf, nan, 2}, nil, nil, []float64{0, -inf, inf, nan, -2}},
		{val(impl.OpSum, 1, 0, 0, 0), []float64{3}, nil, nil, []float64{3}},
		{val(impl.OpFill, 1, 0, 0, 0), []float64{minus}, nil, nil, []float64{minus}},
		{val(impl.OpFill, 3, 0, 0, 0), []float64{nan}, nil, nil, []float64{nan, nan, nan}},
		{val(impl.OpPick, 1, 0, 0, 0), []float64{minus}, nil, nil, []float64{minus}},
		{val(impl.OpPick, 1, 0, 0, 0), []float64{4, 5, 6}, nil, nil, []float64{4}},
		{val(impl.OpPick, 1, 0, 0, 2), []float64{4, 5, 6}, nil, nil, []float64{6}},
		{val(impl.OpPut, 1, 0, 0, 0), []float64{minus}, nil, nil, []float64{minus}},
		{val(impl.OpPut, 3, 0, 0, 0), []float64{-1}, nil, nil, []float64{-1, 0, 0}},
		{val(impl.OpPut, 3, 0, 0, 2), []float64{minus}, nil, nil, []float64{0, 0, minus}},
		{val(impl.OpPut, 3, 0, 0, 1), []float64{nan}, nil, nil, []float64{0, nan, 0}},
		{val(impl.OpExp, 1, 0, 0, 0), []float64{minus}, nil, nil, []float64{1}},
		{val(impl.OpExp, 4, 0, 0, 0), []float64{nan, 1001, -1001, 1}, nil, nil, []float64{nan, inf, 0, 2.718281828458697}},
	})
}

// P2: OpMax answers b unless a is greater; OpSel answers c unless a is greater than zero.
func TestKernelMaxAndSel(t *testing.T) {
	nan, inf, minus := math.NaN(), math.Inf(1), minusZero()
	other := math.Float64frombits(0xfff0000000000001)
	checkKernel(t, []kernelCase{
		{val(impl.OpMax, 1, 0, 0, 0), []float64{nan}, []float64{1}, nil, []float64{1}},
		{val(impl.OpMax, 1, 0, 0, 0), []float64{1}, []float64{nan}, nil, []float64{nan}},
		{val(impl.OpMax, 1, 0, 0, 0), []float64{nan}, []float64{other}, nil, []float64{nan}},
		{val(impl.OpMax, 1, 0, 0, 0), []float64{inf}, []float64{other}, nil, []float64{nan}},
		{val(impl.OpMax, 6, 0, 0, 0), []float64{0, minus, 2, 1, other, -inf}, []float64{minus, 0, 1, 2, -inf, inf}, nil, []float64{minus, 0, 2, 2, -inf, inf}},
		{val(impl.OpSel, 1, 0, 0, 0), []float64{nan}, []float64{1}, []float64{2}, []float64{2}},
		{val(impl.OpSel, 1, 0, 0, 0), []float64{1}, []float64{nan}, []float64{2}, []float64{nan}},
		{val(impl.OpSel, 1, 0, 0, 0), []float64{1}, []float64{2}, []float64{nan}, []float64{2}},
		{val(impl.OpSel, 1, 0, 0, 0), []float64{-1}, []float64{nan}, []float64{2}, []float64{2}},
		{val(impl.OpSel, 1, 0, 0, 0), []float64{-1}, []float64{2}, []float64{nan}, []float64{nan}},
		{val(impl.OpSel, 7, 0, 0, 0), []float64{0, minus, 5e-324, -5e-324, inf, -inf, other}, []float64{1, 2, 3, 4, 5, 6, 7},
			[]float64{minus, -2, -3, -4, -5, -6, -7}, []float64{minus, -2, 3, -4, 5, -6, -7}},
	})
}

// P2: a sum begins with its first element and goes from left to right.
func TestKernelSumOrder(t *testing.T) {
	nan, inf, minus := math.NaN(), math.Inf(1), minusZero()
	sum := val(impl.OpSum, 1, 0, 0, 0)
	checkKernel(t, []kernelCase{
		{sum, []float64{minus}, nil, nil, []float64{minus}},
		{sum, []float64{minus, minus, minus}, nil, nil, []float64{minus}},
		{sum, []float64{minus, 0}, nil, nil, []float64{0}},
		{sum, []float64{1e16, 1, 1}, nil, nil, []float64{1e16}},
		{sum, []float64{1, 1, 1e16}, nil, nil, []float64{10000000000000002}},
		{sum, []float64{1, 1e100, 1, -1e100}, nil, nil, []float64{0}},
		{sum, []float64{1e308, 1e308, -1e308}, nil, nil, []float64{inf}},
		{sum, []float64{1e308, -1e308, 1e308}, nil, nil, []float64{1e308}},
		{sum, []float64{inf, -inf, 1}, nil, nil, []float64{nan}},
		{sum, []float64{1, nan, 1}, nil, nil, []float64{nan}},
		{sum, []float64{0.1, 0.2, 0.3}, nil, nil, []float64{0.6000000000000001}},
		{sum, []float64{0.3, 0.2, 0.1}, nil, nil, []float64{0.6}},
	})
	s := &source{4}
	for _, n := range []int{2, 3, 7, 8, 9, 64, 999, 1000} {
		a := make([]float64, n)
		want := 0.0
		for i := range a {
			a[i] = math.Ldexp(float64(s.below(2001)-1000), s.below(80)-40)
			if want = rounded(impl.OpAdd, want, a[i]); i == 0 {
				want = a[0]
			}
		}
		if got := impl.Kernel(sum, a, nil, nil); !sameList(got, []float64{want}) {
			t.Errorf("%d elements: %v, want %v", n, got, want)
		}
	}
}

// P2: each operation is the exact one, rounded once.
func TestKernelRounding(t *testing.T) {
	s := &source{5}
	pairs := [][2]float64{}
	for _, x := range edgeFloats() {
		for _, y := range edgeFloats() {
			pairs = append(pairs, [2]float64{x, y})
		}
	}
	for range 3000 {
		f := someFloats(s, 2)
		near := f[0] * (1 + float64(s.below(9)-4)*0x1p-52)
		pairs = append(pairs, [2]float64{f[0], f[1]}, [2]float64{f[0], near})
	}
	for _, p := range pairs {
		for op := impl.OpAdd; op <= impl.OpDiv; op++ {
			if !finite(p[0]) || !finite(p[1]) || op == impl.OpDiv && p[1] == 0 {
				continue
			}
			want := []float64{rounded(op, p[0], p[1])}
			if got := impl.Kernel(val(op, 1, 0, 0, 0), p[:1], p[1:], nil); !sameList(got, want) {
				t.Errorf("%s of %v and %v: %v, want %v", ruleOf(op).name, p[0], p[1], got, want)
			}
		}
	}
}

// P2: with every Op, every Len, place and length of a list near a bound, the table or the empty list.
func TestKernelGrid(t *testing.T) {
	s := &source{6}
	lists := [][]float64{nil, someFloats(s, 1), someFloats(s, 2), someFloats(s, 3), someFloats(s, 1000), someFloats(s, 1001)}
	ops := []int{math.MinInt, -14, -1, 14, 15, math.MaxInt}
	for op := 0; op <= 13; op++ {
		ops = append(ops, op)
	}
	lens := []int{math.MinInt, -1, 0, 1, 2, 3, 1000, 1001, math.MaxInt}
	places := []int{math.MinInt, -1, 0, 1, 2, 3, 999, 1000, 1001, math.MaxInt}
	for _, op := range ops {
		for _, n := range lens {
			for i := range len(lists) * len(lists) * len(lists) {
				a, b, c := lists[i%6], lists[i/6%6], lists[i/36]
				for _, place := range places {
					if op < 0 || op > 13 || !ruleOf(op).place {
						place = places[i%len(places)]
					}
					v := impl.Val{Op: op, Len: n, A: places[i%10], B: places[i/6%10], C: place, K: 2.5}
					if got, want := impl.Kernel(v, a, b, c), wantKernel(v, a, b, c); !sameList(got, want) {
						t.Fatalf("%+v with %d, %d, %d elements: %d elements, want %d, or others", v, len(a), len(b), len(c), len(got), len(want))
					}
					if op < 0 || op > 13 || !ruleOf(op).place {
						break
					}
				}
			}
		}
	}
}

// lensFor answers the lengths of fitting lists, for a value of n elements (OpSum and OpPick: from n elements).
func lensFor(op, n int) (int, []int) {
	count := ruleOf(op).operands
	switch op {
	case impl.OpSum, impl.OpPick:
		return 1, []int{n}
	case impl.OpFill, impl.OpPut:
		return n, []int{1}
	}
	return n, []int{n, n, n}[:count]
}

// P2: a fitting call has an answer, and the same call with any one length off by one or empty has none.
func TestKernelLengthsOffByOne(t *testing.T) {
	s := &source{7}
	for op := impl.OpConst; op <= impl.OpExp; op++ {
		for _, n := range []int{1, 3, impl.MaxLen} {
			length, lens := lensFor(op, n)
			call := func(length int, lens []int) int {
				var abc [3][]float64
				for i := range lens {
					abc[i] = someFloats(s, lens[i])
				}
				return len(impl.Kernel(val(op, length, 0, 0, 0), abc[0], abc[1], abc[2]))
			}
			if got := call(length, lens); got != length {
				t.Errorf("%s: %d elements, want %d", ruleOf(op).name, got, length)
			}
			for i := range lens {
				for _, l := range []int{0, lens[i] - 1, lens[i] + 1} {
					off := append([]int{}, lens...)
					off[i] = l
					free := (op == impl.OpSum || op == impl.OpPick) && l >= 1 && l <= impl.MaxLen
					if got := call(length, off); (got != 0) != free {
						t.Errorf("%s of %v: %d elements", ruleOf(op).name, off, got)
					}
				}
			}
			for _, l := range append(farInts(), 0, impl.MaxLen+1) {
				if got := call(l, lens); got != 0 {
					t.Errorf("%s with Len %d: %d elements", ruleOf(op).name, l, got)
				}
			}
		}
	}
}

// P2: places at both ends have an answer, those outside have none.
func TestKernelPlaces(t *testing.T) {
	for _, n := range []int{1, 2, 5, impl.MaxLen} {
		a := make([]float64, n)
		for i := range a {
			a[i] = float64(i) + 7
		}
		for _, place := range []int{0, n / 2, n - 1} {
			if got := impl.Kernel(val(impl.OpPick, 1, 0, 0, place), a, nil, nil); !sameList(got, []float64{float64(place) + 7}) {
				t.Errorf("pick %d of %d: %v", place, n, got)
			}
			want := make([]float64, n)
			want[place] = -3
			if got := impl.Kernel(val(impl.OpPut, n, 0, 0, place), []float64{-3}, nil, nil); !sameList(got, want) {
				t.Errorf("put at %d of %d: %v", place, n, got)
			}
		}
		for _, place := range append(farInts(), n, n+1) {
			if got := impl.Kernel(val(impl.OpPick, 1, 0, 0, place), a, nil, nil); len(got) != 0 {
				t.Errorf("pick %d of %d: %v", place, n, got)
			}
			if got := impl.Kernel(val(impl.OpPut, n, 0, 0, place), []float64{-3}, nil, nil); len(got) != 0 {
				t.Errorf("put at %d of %d: %v", place, n, got)
			}
		}
	}
}

// P2: the numbers A and B, C where it is no place, K but for OpConst, and lists of no operand play no part.
func TestKernelIgnoresWhatIsNoOperand(t *testing.T) {
	s := &source{8}
	for op := impl.OpConst; op <= impl.OpExp; op++ {
		length, lens := lensFor(op, 3)
		var abc [3][]float64
		for i := range lens {
			abc[i] = someFloats(s, lens[i])
		}
		plain := val(op, length, 0, 0, 0)
		want := wantKernel(plain, abc[0], abc[1], abc[2])
		for _, far := range append(farInts(), 0, 1, 5) {
			for _, spare := range [][]float64{nil, {1}, {1, 2, 3}, make([]float64, 1001)} {
				v := plain
				v.A, v.B = far, far
				if !ruleOf(op).place {
					v.C = far
				}
				if op != impl.OpConst {
					v.K = math.NaN()
				}
				lists := abc
				for i := len(lens); i < 3; i++ {
					lists[i] = spare
				}
				if got := impl.Kernel(v, lists[0], lists[1], lists[2]); !sameList(got, want) {
					t.Errorf("%+v: %v, want %v", v, got, want)
				}
			}
		}
	}
}
