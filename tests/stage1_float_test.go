package tests

import (
	"math"
	"math/big"
	"testing"

	"loop.example/s08086/impl"
)

// P1: SameFloat is an equivalence, with all NaNs in one class and every other pattern of bits in its own.
func TestSameFloatIsAnEquivalence(t *testing.T) {
	edges := edgeFloats()
	for _, a := range edges {
		if !impl.SameFloat(a, a) {
			t.Errorf("%#x is not the same as itself", math.Float64bits(a))
		}
		for _, b := range edges {
			if got := impl.SameFloat(a, b); got != sameOne(a, b) {
				t.Errorf("%#x and %#x: %v", math.Float64bits(a), math.Float64bits(b), got)
			}
			if impl.SameFloat(a, b) != impl.SameFloat(b, a) {
				t.Errorf("%#x and %#x: not the same both ways", math.Float64bits(a), math.Float64bits(b))
			}
			for _, c := range edges {
				if impl.SameFloat(a, b) && impl.SameFloat(b, c) && !impl.SameFloat(a, c) {
					t.Errorf("%v, %v, %v: not passed on", a, b, c)
				}
			}
		}
	}
}

// wantFloat makes the float of a pattern from its sign, exponent and fraction.
func wantFloat(b uint64) float64 {
	exponent, fraction := int(b>>52&0x7ff), float64(b&(1<<52-1))
	f := 0.0
	switch {
	case exponent == 0x7ff && fraction != 0:
		return math.NaN()
	case exponent == 0x7ff:
		f = math.Inf(1)
	case exponent == 0:
		f = math.Ldexp(fraction, -1074)
	default:
		f = math.Ldexp(fraction+(1<<52), exponent-1075)
	}
	if b>>63 == 1 {
		return math.Copysign(f, -1)
	}
	return f
}

func checkPattern(t *testing.T, b uint64) {
	t.Helper()
	f, want := impl.FloatFrom(b), wantFloat(b)
	if want != want {
		if f == f {
			t.Errorf("%#x: %v, want a NaN", b, f)
		}
		if got := impl.FloatBits(f); got != 0x7ff8000000000000 {
			t.Errorf("%#x: the bits of this NaN are %#x", b, got)
		}
		return
	}
	if f != want || math.Signbit(f) != math.Signbit(want) {
		t.Errorf("%#x: %v, want %v", b, f, want)
	}
	if got := impl.FloatBits(want); got != b {
		t.Errorf("%v: %#x, want %#x", want, got, b)
	}
	if got := impl.FloatBits(f); got != b {
		t.Errorf("%#x became %#x", b, got)
	}
}

// P1: bits to floats and back, for every exponent with both signs, and for many others.
func TestFloatBitsOfEveryExponent(t *testing.T) {
	fractions := []uint64{0, 1, 2, 3, 1 << 51, 1<<51 + 1, 1<<51 - 1, 1<<52 - 2, 1<<52 - 1, 0x5555555555555, 0x999999999999a}
	for exponent := uint64(0); exponent < 2048; exponent++ {
		for _, fraction := range fractions {
			checkPattern(t, exponent<<52|fraction)
			checkPattern(t, 1<<63|exponent<<52|fraction)
		}
	}
	for i := range 52 {
		checkPattern(t, 1<<i)
		checkPattern(t, 1<<63|1<<i)
	}
	s := &source{1}
	for range 100000 {
		checkPattern(t, s.bits())
	}
}

// P1: floats to bits and back, also for NaNs of all kinds.
func TestFloatFromOfFloatBits(t *testing.T) {
	for _, f := range edgeFloats() {
		back := impl.FloatFrom(impl.FloatBits(f))
		if !sameOne(back, f) || !impl.SameFloat(back, f) {
			t.Errorf("%#x became %#x", math.Float64bits(f), math.Float64bits(back))
		}
		if f != f && impl.FloatBits(f) != 0x7ff8000000000000 {
			t.Errorf("%#x: %#x", math.Float64bits(f), impl.FloatBits(f))
		}
	}
	s := &source{2}
	for range 100000 {
		f := math.Float64frombits(s.bits())
		if back := impl.FloatFrom(impl.FloatBits(f)); !sameOne(back, f) {
			t.Errorf("%v became %v", f, back)
		}
	}
	named := []struct {
		f float64
		b uint64
	}{
		{0, 0}, {minusZero(), 1 << 63}, {math.SmallestNonzeroFloat64, 1}, {2.225073858507201e-308, 0x000fffffffffffff},
		{2.2250738585072014e-308, 0x0010000000000000}, {math.MaxFloat64, 0x7fefffffffffffff}, {math.Inf(1), 0x7ff0000000000000},
		{math.Inf(-1), 0xfff0000000000000}, {1, 0x3ff0000000000000}, {-2, 0xc000000000000000}, {-1.5e-310, 0x80001b9cd1295941},
	}
	for _, x := range named {
		if got := impl.FloatBits(x.f); got != x.b {
			t.Errorf("%v: %#x, want %#x", x.f, got, x.b)
		}
	}
}

// rounded answers the exact answer of an operation on finite floats, rounded once, by rational numbers.
func rounded(op int, x, y float64) float64 {
	p, q := new(big.Rat).SetFloat64(x), new(big.Rat).SetFloat64(y)
	r := new(big.Rat)
	negative := math.Signbit(x) != math.Signbit(y)
	switch op {
	case impl.OpAdd:
		r.Add(p, q)
		negative = math.Signbit(x) && math.Signbit(y)
	case impl.OpSub:
		r.Sub(p, q)
		negative = math.Signbit(x) && !math.Signbit(y)
	case impl.OpMul:
		r.Mul(p, q)
	case impl.OpDiv:
		r.Quo(p, q)
	}
	if r.Sign() == 0 && negative {
		return minusZero()
	}
	f, _ := r.Float64()
	return f
}

func finite(f float64) bool {
	return !math.IsNaN(f) && !math.IsInf(f, 0)
}

// wantExp goes the steps of 1.0 on rational numbers, each rounded by itself.
func wantExp(x float64) float64 {
	r, p := rounded(impl.OpDiv, x, 1024), 1.0
	for k := 14; k >= 1; k-- {
		p = rounded(impl.OpMul, r, p)
		p = rounded(impl.OpDiv, p, float64(k))
		p = rounded(impl.OpAdd, p, 1)
	}
	for range 10 {
		if !finite(p) {
			return p
		}
		p = rounded(impl.OpMul, p, p)
	}
	return p
}

func TestExpFloatGoesTheSteps(t *testing.T) {
	s := &source{3}
	xs := []float64{0, minusZero(), 1, -1, 0.5, 1000, -1000, math.Nextafter(1000, 0), math.Nextafter(-1000, 0), 709.7, 709.8, -708.5, -740, -746}
	for range 600 {
		xs = append(xs, float64(s.below(2000001)-1000000)/1000, float64(s.below(200001)-100000)/70000)
	}
	for range 200 {
		f := math.Float64frombits(s.bits())
		if f >= -1000 && f <= 1000 {
			xs = append(xs, f)
		}
	}
	for _, x := range append(xs, 5e-324, -5e-324, 2.2250738585072014e-308) {
		if got, want := impl.ExpFloat(x), wantExp(x); !sameOne(got, want) {
			t.Errorf("%v: %#x, want %#x", x, math.Float64bits(got), math.Float64bits(want))
		}
	}
}

func TestExpFloatBits(t *testing.T) {
	cases := []struct {
		x float64
		b uint64
	}{
		{1, 0x4005bf0a8b145459}, {-1, 0x3fd78b56362cf004}, {0.5, 0x3ffa61298e1e04c0}, {-0.5, 0x3fe368b2fc6f9789},
		{2, 0x401d8e64b8d4dc72}, {0.1, 0x3ff1aec7b35a01fd}, {10, 0x40d5829dcf9505da}, {-10, 0x3f07cd79b5647ca5},
		{100, 0x48f3494a9b1719ae}, {-100, 0x36ea8c1f14e2b0bd}, {709.7, 0x7fed75ae7a50b8bc}, {709.782712893384, 0x7fefffffffffc400},
		{-708, 0x0017c8ab228965e4}, {-720, 0x0000000993b4dc95}, {-744, 2}, {-745, 1}, {1e-10, 0x3ff000000006e000},
		{0, 0x3ff0000000000000}, {minusZero(), 0x3ff0000000000000}, {5e-324, 0x3ff0000000000000}, {-5e-324, 0x3ff0000000000000},
	}
	for _, c := range cases {
		if got := math.Float64bits(impl.ExpFloat(c.x)); got != c.b {
			t.Errorf("%v: %#x, want %#x", c.x, got, c.b)
		}
	}
}

func TestExpFloatEnds(t *testing.T) {
	for _, x := range []float64{1000, math.Nextafter(1000, 2000), 1001, math.MaxFloat64, math.Inf(1)} {
		if got := impl.ExpFloat(x); !math.IsInf(got, 1) {
			t.Errorf("%v: %v", x, got)
		}
	}
	for _, x := range []float64{-1000, math.Nextafter(-1000, -2000), -1001, -math.MaxFloat64, math.Inf(-1)} {
		if got := impl.ExpFloat(x); math.Float64bits(got) != 0 {
			t.Errorf("%v: %v", x, got)
		}
	}
	for _, x := range edgeFloats() {
		if got := impl.ExpFloat(x); math.IsNaN(got) != math.IsNaN(x) {
			t.Errorf("%v: %v", x, got)
		}
	}
}
