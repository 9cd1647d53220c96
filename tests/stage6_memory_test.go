package tests

import (
	"bytes"
	"math"
	"slices"
	"testing"

	"loop.example/s08086/impl"
)

// smear writes over all the memory of a list, also that beyond its end.
func smear(b []byte) {
	b = b[:cap(b)]
	for i := range b {
		b[i] = 'Z'
	}
}

// checkBytesMemory takes a call that answers bytes: it is made twice, and no answer hangs on another or on what was given.
func checkBytesMemory(t *testing.T, what string, call func() []byte, spoil func()) {
	t.Helper()
	first := call()
	kept := slices.Clone(first)
	smear(first)
	second := call()
	third := call()
	smear(second)
	if !bytes.Equal(third, kept) {
		t.Fatalf("%s: a call remembers another, or two answers share memory: %q, want %q", what, third, kept)
	}
	spoil()
	if !bytes.Equal(third, kept) {
		t.Fatalf("%s: the answer changes with the argument", what)
	}
}

// No call of SaveCode or GraphText writes into its argument or shares memory with it, or with another answer.
func TestSaveAndTextMemory(t *testing.T) {
	s := &source{180}
	for round := range 2000 {
		c, g := anyCode(s), anyGraph(s)
		if round%10 == 0 {
			c.Peak = -1
			g.Outs = append(g.Outs, -1)
		}
		givenCode, codeUntouched := roomyCode(c)
		givenGraph, graphUntouched := roomy(g)
		kept := copyCode(givenCode)
		checkBytesMemory(t, toldCode(c), func() []byte { return impl.SaveCode(givenCode) }, func() {
			if !codeUntouched() || !sameCode(givenCode, kept) {
				t.Fatalf("the code is written to: %s", toldCode(c))
			}
			overwriteCode(givenCode)
		})
		checkBytesMemory(t, "a graph", func() []byte { return impl.GraphText(givenGraph) }, func() {
			if !graphUntouched() {
				t.Fatalf("the graph is written to: %+v", g)
			}
			overwrite(givenGraph)
		})
	}
}

// No call of LoadCode writes into its bytes, keeps them, or answers lists that another answer has too.
func TestLoadCodeMemory(t *testing.T) {
	s := &source{181}
	codes := map[int]int{}
	for range 2000 {
		b := impl.SaveCode(anyCode(s))
		if s.below(4) == 0 {
			b = changedBytes(s, b)
		}
		given, untouched := withMore(b, "\x01\x02\x03\x04\x05\x06\x07\x08")
		first, code := impl.LoadCode(given)
		codes[code]++
		kept := copyCode(first)
		overwriteCode(first)
		second, again := impl.LoadCode(given)
		third, _ := impl.LoadCode(given)
		overwriteCode(third)
		if !untouched() {
			t.Fatalf("the bytes are written to: %v", b)
		}
		smear(given)
		if again != code || !sameCode(second, kept) {
			t.Fatalf("the answer changes with the bytes, or a call remembers another: %v", b)
		}
	}
	if codes[impl.CodeOK] < 1000 || codes[impl.CodeBad] < 200 {
		t.Errorf("%v: not much of a test", codes)
	}
}

// outsOf answers all lists of all replies.
func outsOf(replies []impl.Reply) [][]float64 {
	out := [][]float64{}
	for _, r := range replies {
		out = append(out, r.Result.Outs...)
	}
	return out
}

func copyReplies(replies []impl.Reply) []impl.Reply {
	out := slices.Clone(replies)
	for i := range out {
		out[i].Result.Outs = copyLists(out[i].Result.Outs)
	}
	return out
}

// spoilReplies writes over all the memory of the replies.
func spoilReplies(replies []impl.Reply) {
	for _, list := range outsOf(replies) {
		scribble(list, math.Pi)
	}
	for i := range replies {
		for j := range replies[i].Result.Outs {
			replies[i].Result.Outs[j] = nil
		}
		replies[i] = impl.Reply{Hit: true}
	}
}

// No call of RunSession writes into its text or keeps it; no two lists of its replies share memory, hit or not.
func TestRunSessionMemory(t *testing.T) {
	s := &source{182}
	lists, hits := 0, 0
	for range 600 {
		text := newSessionMaker(s).session(5 + s.below(30))
		given, untouched := withMore([]byte(text), "\nPout 9;\nX\n")
		first := impl.RunSession(given)
		kept := copyReplies(first)
		outs := outsOf(first)
		lists += len(outs)
		for _, r := range first {
			if r.Hit && r.Result.Code == impl.CodeOK {
				hits++
			}
		}
		checkApart(t, outs, copyLists(outs))
		spoilReplies(first)
		second := impl.RunSession(given)
		third := impl.RunSession(given)
		spoilReplies(third)
		if !untouched() {
			t.Fatalf("%q: the text is written to", text)
		}
		smear(given)
		if !slices.EqualFunc(second, kept, sameReply) {
			t.Fatalf("%q: the answer changes with the text, or a call remembers another:\n%s\n%s", text, toldReplies(second), toldReplies(kept))
		}
	}
	if lists < 2000 || hits < 1000 {
		t.Errorf("%d lists, %d hits: not much of a test", lists, hits)
	}
}
