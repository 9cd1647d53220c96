package tests

import (
	"bytes"
	"math"
	"slices"
	"testing"

	"loop.example/s08086/impl"
)

func joined(lists ...[]byte) []byte {
	return slices.Concat(lists...)
}

// checkSaved takes a code and its bytes.
func checkSaved(t *testing.T, c impl.Code, want []byte) {
	t.Helper()
	if got := saved(t, c); !bytes.Equal(got, want) {
		t.Errorf("%s\n got %v\nwant %v", toldCode(c), got, want)
	}
	if got, code := loaded(t, want); code != impl.CodeOK || !sameCodeByNaN(got, plainCode(c)) {
		t.Errorf("%s\nis loaded with code %d as %s", toldCode(c), code, toldCode(got))
	}
}

// P14: the bytes of codes, written out.
func TestSaveCode(t *testing.T) {
	checkSaved(t, impl.Code{}, []byte{71, 76, 0, 0, 0, 0, 0, 0, 0, 0})
	checkSaved(t, impl.Code{Peak: 7}, []byte{71, 76, 0, 0, 0, 0, 0, 0, 7, 0})
	checkSaved(t, impl.Code{Ins: []int{3, 1000, 1}}, []byte{71, 76, 3, 0, 3, 0, 232, 3, 1, 0, 0, 0, 0, 0, 0, 0})
	c := readCode(t, "ins 2; input 0 > 1+2; const 1.5 > 3+2; add 1+2 3+2 > 5+2; sel 5+2 1+2 3+2 > 7+2; pick 7+2 @1 > 0+1; outs 7+2 0+1 7+2; peak 9")
	checkSaved(t, c, joined(
		[]byte{71, 76},
		[]byte{1, 0, 2, 0},
		[]byte{5, 0},
		[]byte{0, 2, 0, 0, 0, 1, 0, 0, 0, 0, 0, 0, 0},
		[]byte{1, 2, 0, 0, 0, 3, 0, 0, 0, 0, 0, 0, 0}, []byte{0, 0, 0, 0, 0, 0, 248, 63},
		[]byte{2, 2, 0, 2, 0, 5, 0, 1, 0, 3, 0, 0, 0},
		[]byte{8, 2, 0, 2, 0, 7, 0, 5, 0, 1, 0, 3, 0},
		[]byte{11, 1, 0, 2, 0, 0, 0, 7, 0, 0, 0, 1, 0},
		[]byte{3, 0, 7, 0, 2, 0, 0, 0, 1, 0, 7, 0, 2, 0},
		[]byte{9, 0},
	))
}

// P14: each Op, behind a constant that all of them can read.
func TestSaveCodeOfEachOp(t *testing.T) {
	tails := [][]byte{
		{0, 3, 0, 0, 0, 4, 0, 1, 0, 0, 0, 0, 0},
		{1, 3, 0, 0, 0, 4, 0, 0, 0, 0, 0, 0, 0, 0, 0, 0, 0, 0, 0, 28, 64},
		{2, 3, 0, 3, 0, 4, 0, 0, 0, 1, 0, 0, 0},
		{3, 3, 0, 3, 0, 4, 0, 0, 0, 1, 0, 0, 0},
		{4, 3, 0, 3, 0, 4, 0, 0, 0, 1, 0, 0, 0},
		{5, 3, 0, 3, 0, 4, 0, 0, 0, 1, 0, 0, 0},
		{6, 3, 0, 3, 0, 4, 0, 1, 0, 0, 0, 0, 0},
		{7, 3, 0, 3, 0, 4, 0, 0, 0, 1, 0, 0, 0},
		{8, 3, 0, 3, 0, 4, 0, 0, 0, 1, 0, 1, 0},
		{9, 1, 0, 3, 0, 4, 0, 1, 0, 0, 0, 0, 0},
		{10, 3, 0, 1, 0, 4, 0, 1, 0, 0, 0, 0, 0},
		{11, 1, 0, 3, 0, 4, 0, 1, 0, 0, 0, 1, 0},
		{12, 3, 0, 1, 0, 4, 0, 1, 0, 0, 0, 1, 0},
		{13, 3, 0, 3, 0, 4, 0, 1, 0, 0, 0, 0, 0},
	}
	head := []byte{71, 76, 2, 0, 2, 0, 3, 0, 2, 0, 1, 4, 0, 0, 0, 0, 0, 0, 0, 0, 0, 0, 0, 0, 0, 0, 0, 0, 0, 240, 63}
	for op, c := range eachOp(t) {
		want := joined(head, tails[op], []byte{2, 0, 0, 0, 4, 0, 4, 0, 1, 0, 7, 0})
		checkSaved(t, c, want)
		// the K of every other Op is not saved
		for _, k := range edgeFloats() {
			if c.Steps[1].Op == impl.OpConst {
				continue
			}
			stray := copyCode(c)
			stray.Steps[1].K = k
			checkSaved(t, stray, want)
		}
	}
}

// P14: the floats of constants: all NaNs are one, both zeros are there.
func TestSaveCodeOfFloats(t *testing.T) {
	with := func(k float64) impl.Code {
		return impl.Code{Steps: []impl.Step{{Op: impl.OpConst, Len: 1, K: k}}, Peak: 1}
	}
	bytesOf := func(float ...byte) []byte {
		return joined([]byte{71, 76, 0, 0, 1, 0, 1, 1, 0, 0, 0, 0, 0, 0, 0, 0, 0, 0, 0}, float, []byte{0, 0, 1, 0})
	}
	checkSaved(t, with(0), bytesOf(0, 0, 0, 0, 0, 0, 0, 0))
	checkSaved(t, with(minusZero()), bytesOf(0, 0, 0, 0, 0, 0, 0, 128))
	checkSaved(t, with(math.Inf(1)), bytesOf(0, 0, 0, 0, 0, 0, 240, 127))
	checkSaved(t, with(math.Inf(-1)), bytesOf(0, 0, 0, 0, 0, 0, 240, 255))
	checkSaved(t, with(math.SmallestNonzeroFloat64), bytesOf(1, 0, 0, 0, 0, 0, 0, 0))
	checkSaved(t, with(-math.SmallestNonzeroFloat64), bytesOf(1, 0, 0, 0, 0, 0, 0, 128))
	checkSaved(t, with(math.Float64frombits(0x000fedcba9876543)), bytesOf(0x43, 0x65, 0x87, 0xa9, 0xcb, 0xed, 0x0f, 0))
	checkSaved(t, with(math.Float64frombits(0x0123456789abcdef)), bytesOf(0xef, 0xcd, 0xab, 0x89, 0x67, 0x45, 0x23, 0x01))
	for _, bits := range []uint64{0x7ff8000000000000, 0x7ff8000000000001, 0x7ff0000000000001, 0x7fffffffffffffff, 0xfff8000000000000, 0xfff0000000000001, 0xffffffffffffffff} {
		checkSaved(t, with(math.Float64frombits(bits)), bytesOf(0, 0, 0, 0, 0, 0, 248, 127))
	}
	s := &source{160}
	for _, k := range append(edgeFloats(), someFloats(s, 2000)...) {
		saved(t, with(k))
	}
}

// P14: counts around 255 and 256, and the greatest of each kind.
func TestSaveCodeOfCounts(t *testing.T) {
	for _, n := range []int{1, 2, 254, 255, 256, 257, 511, 512, 999, impl.MaxLen} {
		for _, at := range []int{0, 1, 254, 255, 256, 257, 32767, 32768, impl.MaxCells - 2*impl.MaxLen} {
			saved(t, impl.Code{
				Ins:   []int{n, n},
				Steps: []impl.Step{{Op: impl.OpInput, Len: n, Dst: at, A: 1}, {Op: impl.OpNeg, Len: n, N: n, Dst: at + n, A: at}},
				Outs:  []impl.Span{{Off: at + n, Len: n}, {Off: at, Len: n}},
				Peak:  at + 2*n,
			})
		}
	}
	for _, n := range []int{255, 256, 257, 1999, impl.MaxVals} {
		c := impl.Code{Peak: 1}
		for range n {
			c.Steps = append(c.Steps, impl.Step{Op: impl.OpConst, Len: 1, K: 2})
		}
		if b := saved(t, c); len(b) != 10+21*n || b[4] != byte(n) || b[5] != byte(n/256) {
			t.Errorf("%d steps: %d bytes, %v ..", n, len(b), b[:6])
		}
	}
	c := greatestCode()
	b := saved(t, c)
	head := joined([]byte{71, 76, 20, 0}, bytes.Repeat([]byte{232, 3}, 20), []byte{208, 7}, []byte{0, 232, 3, 0, 0, 0, 0, 19, 0, 0, 0, 0, 0})
	tail := joined(bytes.Repeat([]byte{104, 191, 232, 3}, 49), []byte{79, 195, 1, 0}, []byte{80, 195})
	if !bytes.HasPrefix(b, head) || !bytes.HasSuffix(b, joined([]byte{50, 0}, tail)) {
		t.Errorf("%v .. %v", b[:80], b[len(b)-210:])
	}
	for _, step := range [][]byte{
		{9, 1, 0, 232, 3, 79, 195, 128, 187, 0, 0, 0, 0},
		{11, 1, 0, 232, 3, 78, 195, 0, 0, 0, 0, 231, 3},
		{12, 232, 3, 1, 0, 0, 0, 79, 195, 0, 0, 231, 3},
		{8, 1, 0, 1, 0, 0, 0, 77, 195, 78, 195, 79, 195},
	} {
		if !bytes.Contains(b, step) {
			t.Errorf("%v is not there", step)
		}
	}
}

// greatestCode has as much of everything as a code can have.
func greatestCode() impl.Code {
	c := impl.Code{Ins: slices.Repeat([]int{impl.MaxLen}, impl.MaxIns), Peak: impl.MaxCells}
	last := impl.MaxCells - 1
	for at := 0; at < impl.MaxCells; at += impl.MaxLen {
		c.Steps = append(c.Steps, impl.Step{Op: impl.OpInput, Len: impl.MaxLen, Dst: at, A: impl.MaxIns - 1})
	}
	c.Steps = append(c.Steps,
		impl.Step{Op: impl.OpSum, Len: 1, N: impl.MaxLen, Dst: last, A: impl.MaxCells - 2*impl.MaxLen},
		impl.Step{Op: impl.OpPick, Len: 1, N: impl.MaxLen, Dst: last - 1, A: 0, C: impl.MaxLen - 1},
		impl.Step{Op: impl.OpPut, Len: impl.MaxLen, N: 1, Dst: 0, A: last, C: impl.MaxLen - 1},
		impl.Step{Op: impl.OpSel, Len: 1, N: 1, Dst: 0, A: last - 2, B: last - 1, C: last},
	)
	for len(c.Steps) < impl.MaxVals {
		c.Steps = append(c.Steps, impl.Step{Op: impl.OpConst, Len: impl.MaxLen, Dst: impl.MaxCells - impl.MaxLen, K: -1})
	}
	c.Outs = append(slices.Repeat([]impl.Span{{Off: impl.MaxCells - 1000, Len: impl.MaxLen}}, impl.MaxOuts-1), impl.Span{Off: last, Len: 1})
	return c
}

// P14: a code that Verify refuses is saved as nothing.
func TestSaveCodeOfRefusedCodes(t *testing.T) {
	refused := []impl.Code{
		{Peak: -1}, {Peak: impl.MaxCells + 1}, {Peak: 65536}, {Peak: 65536 + 7}, {Ins: []int{0}}, {Ins: []int{impl.MaxLen + 1}}, {Ins: []int{65537}},
		{Ins: slices.Repeat([]int{1}, impl.MaxIns+1)}, {Outs: []impl.Span{{Off: 0, Len: 1}}, Peak: 1}, {Outs: []impl.Span{{}}},
		readCode(t, "ins; neg 0+1 > 1+1; outs; peak 2"), readCode(t, "ins; input 0 > 0+1; outs; peak 1"), readCode(t, "ins; const 1 > 0+2; outs; peak 1"),
		readCode(t, "ins; const 1 > 0+1; neg 0+1 > 0+1; outs; peak 1"), readCode(t, "ins; const 1 > 0+1; outs 0+2; peak 2"),
	}
	for _, c := range refused {
		if b := saved(t, c); len(b) != 0 {
			t.Errorf("%s: %v", toldCode(c), b)
		}
	}
	for op, c := range eachOp(t) {
		for k := range stepFields(&c.Steps[1]) {
			for _, n := range append(farInts(), 65536, 65537, 256, 255) {
				changed := copyCode(c)
				*stepFields(&changed.Steps[1])[k] = n
				if b := saved(t, changed); len(b) != 0 {
					t.Errorf("%s, field %d: %v", ruleOf(op).name, k, b)
				}
				// as much more as two bytes do not show
				changed = copyCode(c)
				*stepFields(&changed.Steps[1])[k] += 65536
				if b := saved(t, changed); len(b) != 0 {
					t.Errorf("%s, field %d: %v", ruleOf(op).name, k, b)
				}
			}
		}
	}
	longer := greatestCode()
	longer.Steps = append(longer.Steps, longer.Steps[0])
	wider := greatestCode()
	wider.Outs = append(wider.Outs, wider.Outs[0])
	for _, c := range []impl.Code{longer, wider} {
		if b := saved(t, c); len(b) != 0 {
			t.Errorf("%d bytes", len(b))
		}
	}
}
