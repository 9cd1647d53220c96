package tests

import (
	"encoding/binary"
	"math"
	"slices"
	"testing"

	"loop.example/s08086/impl"
)

// smallCode has inputs, steps with and without a float, and outputs.
func smallCode(t *testing.T) impl.Code {
	t.Helper()
	return readCode(t, "ins 2 1; input 0 > 0+2; const 1.5 > 2+1; fill 2+1 > 3+2; mul 0+2 3+2 > 5+2; put 2+1 @1 > 0+2; outs 5+2 0+2; peak 7")
}

// P14: every proper beginning of a saved code is none, and neither is one with a byte behind it or ahead of it.
func TestLoadCodeOfTooFewAndTooManyBytes(t *testing.T) {
	codes := append(eachOp(t), impl.Code{}, impl.Code{Peak: 3}, smallCode(t), readCode(t, "ins 1 2 3; outs; peak 0"))
	for _, c := range codes {
		b := saved(t, c)
		for n := range b {
			checkBad(t, "a beginning", b[:n])
			checkBad(t, "an end", b[n+1:])
			checkBad(t, "one byte left out", slices.Delete(slices.Clone(b), n, n+1))
		}
		for more := range 256 {
			checkBad(t, "a byte behind", append(slices.Clone(b), byte(more)))
		}
		checkBad(t, "a byte ahead", append([]byte{0}, b...))
		checkBad(t, "two bytes behind", append(slices.Clone(b), 0, 0))
		checkBad(t, "twice", append(slices.Clone(b), b...))
	}
	checkBad(t, "nothing", nil)
	checkBad(t, "nothing", []byte{})
}

// P14: each byte of a saved code, changed to every other.
func TestLoadCodeOfEveryByteChanged(t *testing.T) {
	codes := map[int]int{}
	for _, c := range append(eachOp(t), smallCode(t), impl.Code{}) {
		b := saved(t, c)
		for i := range b {
			for to := range 256 {
				changed := slices.Clone(b)
				changed[i] = byte(to)
				_, code := loaded(t, changed)
				codes[code]++
				if i < 2 && byte(to) != b[i] && code != impl.CodeBad {
					t.Fatalf("%v: code %d", changed, code)
				}
			}
		}
	}
	if codes[impl.CodeOK] < 20000 || codes[impl.CodeBad] < 100000 {
		t.Errorf("%v: not much of a test", codes)
	}
}

// P14: the first two bytes.
func TestLoadCodeOfFirstBytes(t *testing.T) {
	b := saved(t, impl.Code{Peak: 9})
	for first := range 256 {
		for second := range 256 {
			b[0], b[1] = byte(first), byte(second)
			want := impl.CodeBad
			if first == 71 && second == 76 {
				want = impl.CodeOK
			}
			if c, code := impl.LoadCode(b); code != want || want == impl.CodeBad && !sameCode(c, impl.Code{}) {
				t.Fatalf("%d %d: code %d", first, second, code)
			}
		}
	}
}

// P14: Ops that there are not.
func TestLoadCodeOfWrongOps(t *testing.T) {
	for _, c := range eachOp(t) {
		for op := 14; op < 256; op++ {
			changed := copyCode(c)
			changed.Steps[1].Op = op
			checkBad(t, "an Op that there is not", rawBytes(changed))
		}
	}
}

// P14: bytes of codes that break a limit by one, or by much, are none; those that meet it are.
func TestLoadCodeOfLimits(t *testing.T) {
	steps := func(n int) impl.Code {
		return impl.Code{Steps: slices.Repeat([]impl.Step{{Op: impl.OpConst, Len: 1, K: 2}}, n), Peak: 1}
	}
	outs := func(n int) impl.Code {
		c := steps(1)
		c.Outs = slices.Repeat([]impl.Span{{Len: 1}}, n)
		return c
	}
	ins := func(n int) impl.Code { return impl.Code{Ins: slices.Repeat([]int{1}, n)} }
	length := func(n int) impl.Code { return impl.Code{Ins: []int{n}} }
	long := func(n int) impl.Code {
		return impl.Code{Steps: []impl.Step{{Op: impl.OpConst, Len: n}}, Peak: impl.MaxCells}
	}
	wide := func(n int) impl.Code {
		c := impl.Code{Peak: 1 + 2*impl.MaxLen}
		c.Steps = []impl.Step{{Op: impl.OpConst, Len: impl.MaxLen}, {Op: impl.OpConst, Len: impl.MaxLen, Dst: impl.MaxLen}, {Op: impl.OpSum, Len: 1, N: n, Dst: 2 * impl.MaxLen}}
		return c
	}
	peak := func(n int) impl.Code { return impl.Code{Peak: n} }
	cases := []struct {
		what  string
		code  func(n int) impl.Code
		limit int
	}{
		{"steps", steps, impl.MaxVals}, {"outputs", outs, impl.MaxOuts}, {"inputs", ins, impl.MaxIns}, {"an input", length, impl.MaxLen},
		{"a step", long, impl.MaxLen}, {"an operand", wide, impl.MaxLen}, {"peak", peak, impl.MaxCells},
	}
	for _, k := range cases {
		for _, n := range []int{1, k.limit - 1, k.limit} {
			if c, code := loaded(t, rawBytes(k.code(n))); code != impl.CodeOK || !sameCode(c, k.code(n)) {
				t.Errorf("%s of %d: code %d", k.what, n, code)
			}
		}
		for _, n := range []int{k.limit + 1, k.limit + 2, 65534, 65535} {
			if n > k.limit {
				checkBad(t, k.what, rawBytes(k.code(n)))
			}
		}
	}
	checkBad(t, "an input of no elements", rawBytes(length(0)))
	checkBad(t, "a step of no elements", rawBytes(long(0)))
	checkBad(t, "an operand of no elements", rawBytes(wide(0)))
	if c, code := loaded(t, rawBytes(greatestCode())); code != impl.CodeOK || !sameCode(c, greatestCode()) {
		t.Errorf("code %d", code)
	}
}

// P14: counts of more things than there are bytes for.
func TestLoadCodeOfGreatCounts(t *testing.T) {
	for _, count := range [][]byte{{255, 255}, {0, 128}, {0, 1}, {255, 0}, {208, 7}, {50, 0}, {20, 0}, {1, 0}} {
		checkBad(t, "inputs", joined([]byte{71, 76}, count))
		checkBad(t, "steps", joined([]byte{71, 76, 0, 0}, count))
		checkBad(t, "outputs", joined([]byte{71, 76, 0, 0, 0, 0}, count))
		checkBad(t, "inputs", joined([]byte{71, 76}, count, []byte{1, 0, 1, 0, 1, 0}))
		checkBad(t, "steps", joined([]byte{71, 76, 0, 0}, count, make([]byte, 12)))
		checkBad(t, "steps", joined([]byte{71, 76, 0, 0}, count, make([]byte, 2000)))
		checkBad(t, "outputs", joined([]byte{71, 76, 0, 0, 0, 0}, count, make([]byte, 2000)))
	}
}

// P14: of all NaNs only that of FloatBits is there; every other float is.
func TestLoadCodeOfFloats(t *testing.T) {
	s := &source{161}
	good, bad := 0, 0
	patterns := []uint64{0, 1 << 63, 0x7ff0000000000000, 0xfff0000000000000, 0x7ff8000000000000, 0x7ff8000000000001, 0x7ff0000000000001,
		0x7fffffffffffffff, 0xfff8000000000000, 0xfff0000000000001, 0xffffffffffffffff, 1, 1<<63 | 1, 0x000fffffffffffff, 0x7fefffffffffffff}
	for bit := range 52 {
		patterns = append(patterns, 0x7ff8000000000000^1<<bit, 0xfff0000000000000|1<<bit, 0x7ff0000000000000|1<<bit)
	}
	for range 2000 {
		patterns = append(patterns, s.bits(), s.bits()|0x7ff0000000000000)
	}
	b := rawBytes(impl.Code{Steps: []impl.Step{{Op: impl.OpConst, Len: 1}}, Peak: 1})
	for _, bits := range patterns {
		binary.LittleEndian.PutUint64(b[19:], bits)
		f := math.Float64frombits(bits)
		c, code := loaded(t, b)
		switch {
		case f != f && bits != nanBits:
			bad++
			if code != impl.CodeBad {
				t.Fatalf("%#x: code %d", bits, code)
			}
		default:
			good++
			if code != impl.CodeOK || !sameOne(c.Steps[0].K, f) {
				t.Fatalf("%#x: code %d, %s", bits, code, toldCode(c))
			}
		}
	}
	if good < 1000 || bad < 1000 {
		t.Errorf("%d floats, %d NaNs with other bits: not much of a test", good, bad)
	}
}

// P14: bytes of codes that Verify refuses for what they read and write.
func TestLoadCodeOfRefusedCodes(t *testing.T) {
	refused := []string{
		"ins; neg 0+1 > 1+1; outs; peak 2", "ins; input 0 > 0+1; outs; peak 1", "ins 2; input 0 > 0+1; outs; peak 1", "ins; const 1 > 0+2; outs; peak 1",
		"ins; const 1 > 0+1; neg 0+1 > 0+1; outs; peak 1", "ins; const 1 > 0+1; outs 0+2; peak 2", "ins; const 1 > 0+1; outs 1+1; peak 1",
		"ins; const 1 > 0+2; pick 0+2 @2 > 2+1; outs; peak 3", "ins; const 1 > 0+1; put 0+1 @3 > 1+3; outs; peak 4", "ins; outs 0+1; peak 1",
		"ins; const 1 > 50000+1; outs; peak 50000", "ins; const 1 > 65535+1; outs; peak 50000",
	}
	for _, text := range refused {
		checkBad(t, text, rawBytes(readCode(t, text)))
	}
	for op, c := range eachOp(t) {
		for k := range stepFields(&c.Steps[1]) {
			for _, n := range []int{65535, 50000, 32768, 1001, 1000, 256, 255} {
				if k == 0 && n > 255 {
					continue
				}
				changed := copyCode(c)
				*stepFields(&changed.Steps[1])[k] = n
				checkBad(t, ruleOf(op).name, rawBytes(changed))
			}
			for n := range 9 {
				changed := copyCode(c)
				*stepFields(&changed.Steps[1])[k] = n
				loaded(t, rawBytes(changed))
			}
		}
	}
}

// P14: a float for a step that has none, and none for one that has.
func TestLoadCodeOfMisplacedFloats(t *testing.T) {
	step := []byte{6, 1, 0, 1, 0, 1, 0, 0, 0, 0, 0, 0, 0}
	head := joined([]byte{71, 76, 0, 0, 2, 0, 1, 1, 0, 0, 0, 0, 0, 0, 0, 0, 0, 0, 0, 0, 0, 0, 0, 0, 0, 240, 63}, step)
	if _, code := loaded(t, joined(head, []byte{0, 0, 2, 0})); code != impl.CodeOK {
		t.Fatalf("code %d", code)
	}
	checkBad(t, "a float for OpNeg", joined(head, make([]byte, 8), []byte{0, 0, 2, 0}))
	checkBad(t, "no float for OpConst", []byte{71, 76, 0, 0, 1, 0, 1, 1, 0, 0, 0, 0, 0, 0, 0, 0, 0, 0, 0, 0, 0, 1, 0})
}
