package tests

import (
	"slices"
	"testing"

	"loop.example/s08086/impl"
)

// No two lists of an answer share memory, none shares any with the text, and no call remembers another.
func TestSourceMemory(t *testing.T) {
	s := &source{70}
	codes := map[int]int{}
	for range 1500 {
		text := []byte(written(s, anyLines(s)))
		first, code, at := impl.ParseSource(text)
		codes[code]++
		kept, keptText := copyGraph(first), slices.Clone(text)
		ins := first.Ins[:cap(first.Ins)]
		for i := range ins {
			ins[i] = 66
		}
		if !slices.Equal(first.Outs, kept.Outs) {
			t.Fatalf("Ins and Outs of one answer share memory: %s", plain(string(text)))
		}
		overwrite(first)
		if !slices.Equal(text, keptText) {
			t.Fatalf("the answer shares memory with the text: %s", plain(string(text)))
		}
		second, codeAgain, atAgain := impl.ParseSource(text)
		for i := range text {
			text[i] = '('
		}
		if codeAgain != code || atAgain != at || !sameGraph(second, kept) {
			t.Fatalf("another answer the second time, or one that changes with the text: %s", plain(string(keptText)))
		}
	}
	if codes[impl.CodeOK] < 300 || len(codes) < 4 {
		t.Errorf("codes %v: not much of a test", codes)
	}
}
