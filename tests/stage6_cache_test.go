package tests

import (
	"strconv"
	"strings"
	"testing"

	"loop.example/s08086/impl"
)

// checkHits takes runs by their sources' numbers, with a space between two, and which of them hit: an h for a hit, a dot for none.
func checkHits(t *testing.T, runs, want string) {
	t.Helper()
	text, got := "", ""
	for _, number := range strings.Fields(runs) {
		text += "Pout " + number + ";\nX\n"
	}
	replies := replied(t, text)
	for i, number := range strings.Fields(runs) {
		r := replies[i]
		if f := readFloat(t, number); !sameResult(r.Result, impl.Result{Steps: 1, Peak: 1, Outs: [][]float64{{f}}}) {
			t.Errorf("%s: run %d: %s", runs, i, toldReply(r))
		}
		if r.Hit {
			got += "h"
		} else {
			got += "."
		}
	}
	if got != want {
		t.Errorf("%s:\n got %s\nwant %s", runs, got, want)
	}
}

// P18: MaxCache codes are kept, and what came in first goes out.
func TestCacheKeepsTheLastCodes(t *testing.T) {
	checkHits(t, "1", ".")
	checkHits(t, "1 1 1", ".hh")
	checkHits(t, "1 2 1 2", "..hh")
	checkHits(t, "1 2 3 4 1 2 3 4 4 3 2 1", "....hhhhhhhh")
	// one more, then each of them again: in their order each drives out the next
	checkHits(t, "1 2 3 4 5 1 2 3 4 5", "..........")
	checkHits(t, "1 2 3 4 5 5 4 3 2 1", ".....hhhh.")
	checkHits(t, "1 2 3 4 5 2 3 4 5 2 3 4 5", ".....hhhhhhhh")
	checkHits(t, "1 2 3 4 5 1 5 4 3 2", "......hhh.")
	checkHits(t, "1 2 3 4 5 6 7 8 8 7 6 5 4 3 2 1", "........hhhh....")
	checkHits(t, "1 2 3 4 5 6 7 8 9 10 11 12 9 10 11 12 8 9", "............hhhh..")
}

// P18: a hit changes nothing: the code that came in first goes out, however often and however late it was hit.
func TestCacheHitsChangeNothing(t *testing.T) {
	checkHits(t, "1 2 3 4 1 5 1", "....h..")
	checkHits(t, "1 2 3 4 1 1 1 1 5 1 2", "....hhhh...")
	checkHits(t, "1 2 3 4 1 5 2 3 4 5", "....h.hhhh")
	checkHits(t, "1 2 3 4 2 1 5 1 6 2 3 4", "....hh......")
	checkHits(t, "1 2 3 4 3 5 4 3 2 1", "....h.hhh.")
	// what comes in again is the last to have come in
	checkHits(t, "1 2 3 4 5 1 6 7 8 1 9 1", ".........h..")
	checkHits(t, "1 1 1 1 1 2 3 4 1 5 1", ".hhhh...h..")
}

// P18: the source, the passes and the budget all count.
func TestCacheKeys(t *testing.T) {
	one := "ok 1/1 1"
	hit := "hit ok 1/1 1"
	list := func(words ...string) string { return strings.Join(words, "; ") }
	checkSession(t, "Pout 1;|X|P|X|Pout 1;|X", list(one, "ok", hit))
	checkSession(t, "Pout 1;|X|Pout 1; |X|P out 1;|X|Pout 1;#|X|Pout 1;|X", list(one, one, one, one, hit))
	checkSession(t, "Pout 1;|X|O0|X|O|X|O0|X", list(one, one, hit, hit))
	checkSession(t, "Pout 1;|X|O0|X|O00|X|O1|X|O01|X|O10|X", list(one, one, one, one, one, one))
	checkSession(t, "Pout 1;|X|B1|X|B50000|X|B1|X|B2|X", list(one, one, hit, hit, one))
	// a budget is a number, however it is written
	checkSession(t, "Pout 1;|B1|X|B01|X|B000001|X|B10|X|B000010|X|B050000|X|B50000|X", list(one, hit, hit, one, hit, one, hit))
	// all three changed and changed back
	checkSession(t, "Pout 1;|O4|B7|X|P|O|B0|X|B7|O4|Pout 1;|X", list(one, "ok", hit))
	// set again to what they are
	checkSession(t, "Pout 1;|O4|B7|X|Pout 1;|O4|B7|X|O4|X|B7|X|Pout 1;|X", list(one, hit, hit, hit, hit))
}

// P18: keys that are alike when their parts are put one behind the other.
func TestCacheKeysAreNotRunTogether(t *testing.T) {
	same := []string{
		"P#|O0|B0", "P#0|O|B0", "P#|O|B00", "P#00|O|B1",
		"P#1|O|B0", "P#|O1|B0", "P#|O|B10",
		"P#12|O|B3", "P#1|O2|B3", "P#|O12|B3", "P#|O1|B23", "P#|O|B123", "P#1|O|B23",
		"P#|O0|B50000", "P#|O|B050000", "P#05|O|B0",
		"P|O0|B0", "P|O00|B0", "P|O|B0",
		"P# 0|O|B0", "P# 0 0|O|B0", "P#,0|O0|B0", "P#\x00|O0|B0", "P#\x000|O|B0", "P#;0;0|O|B0", "P#/0|O|B0", "P#:0:0|O|B0",
	}
	for _, first := range same {
		for _, second := range same {
			got := replied(t, strings.ReplaceAll(first+"|X|"+second+"|X", "|", "\n"))
			alike := keyOf(t, first) == keyOf(t, second)
			if got[1].Hit != alike || got[0].Hit {
				t.Errorf("%q and %q: %s", first, second, toldReplies(got))
			}
		}
	}
}

// keyOf reads the three of a key from the commands that set them.
func keyOf(t *testing.T, commands string) three {
	t.Helper()
	parts := strings.Split(commands, "|")
	return three{parts[0][1:], parts[1][1:], readInt(t, parts[2][1:])}
}

// P18: inputs are no part of a key, whether they fit or not; a run with inputs that are not as said is no run.
func TestCacheAndInputs(t *testing.T) {
	checkSession(t, "Pin x:1;out x;|X1|X2|X1|X-0", "ok 1/1 1; hit ok 1/1 2; hit ok 1/1 1; hit ok 1/1 -0")
	// inputs that don't fit, on a miss: the code has been made and came in
	checkSession(t, "Pin x:1;out x;|X|X|X3", "shape 0/1; hit shape 0/1; hit ok 1/1 3")
	checkSession(t, "Pin x:1;out x;|X1 2|X3", "shape 0/1; hit ok 1/1 3")
	// on a hit
	checkSession(t, "Pin x:1;out x;|X3|X|X1;2|X4", "ok 1/1 3; hit shape 0/1; hit shape 0/1; hit ok 1/1 4")
	checkSession(t, "Pin x:1;out x;|Xx|X3", "syntax; ok 1/1 3")
	checkSession(t, "Pin x:1;out x;|X3|X-|X4", "ok 1/1 3; syntax; hit ok 1/1 4")
	// a code that came in with inputs that don't fit drives out as any other
	checkSession(t, "Pout 1;|X|Pout 2;|X|Pout 3;|X|Pout 4;|X|Pin x:1;out x;|X|Pout 1;|X", "ok 1/1 1; ok 1/1 2; ok 1/1 3; ok 1/1 4; shape 0/1; ok 1/1 1")
}

// P18: what Compile refuses never comes in, and drives nothing out.
func TestCacheAndRefusedSources(t *testing.T) {
	full := "Pout 1;|X|Pout 2;|X|Pout 3;|X|Pout 4;|X|"
	again := "P%|O|B50000|X|"
	fills := "ok 1/1 1; ok 1/1 2; ok 1/1 3; ok 1/1 4; "
	refused := map[string]string{
		"Pout w;":                   "name @4",
		"Pout":                      "syntax @3",
		"Pin x:0;":                  "shape @5",
		"Pout 1234567890123456;":    "limit @4",
		"Pout 1;|O5":                "pass",
		"Pout 1;|B0":                "budget",
		"Pin x:2;out x;|B1":         "budget",
		"Pin x:2;in y:3;out x + y;": "shape @20",
	}
	for commands, reply := range refused {
		text, want := full, fills
		for range 6 {
			text += commands + "|X|X1|"
			want += reply + "; " + reply + "; "
		}
		for n := 1; n <= 4; n++ {
			text += strings.ReplaceAll(again, "%", "out "+strconv.Itoa(n)+";")
			want += "hit ok 1/1 " + strconv.Itoa(n) + "; "
		}
		checkSession(t, text, strings.TrimSuffix(want, "; "))
	}
	// a source that was refused for its passes or its budget comes in when it is compiled
	checkSession(t, "Pout 1;|B0|X|B1|X|X|O9|X|O|X|B0|X|B1|X", "budget; ok 1/1 1; hit ok 1/1 1; pass; hit ok 1/1 1; budget; hit ok 1/1 1")
}

// P17 and P18: nothing is kept from one session to the next.
func TestCacheOfEachSessionAlone(t *testing.T) {
	for range 3 {
		checkSession(t, "Pout 1;|X|X", "ok 1/1 1; hit ok 1/1 1")
		checkSession(t, "X|X", "ok; hit ok")
		checkSession(t, "Pout 1;|O0|B9|X", "ok 1/1 1")
		checkSession(t, "Pout 1;|X", "ok 1/1 1")
	}
}

// P17 and P18: a whole session of MaxCommands commands, in which the cache turns over many times.
func TestCacheOfALongSession(t *testing.T) {
	numbers := []string{}
	want := ""
	for i := range impl.MaxCommands / 2 {
		// five in turn never hit, four in turn always do
		if i < 50 {
			numbers = append(numbers, strconv.Itoa(i%5))
			want += "."
			continue
		}
		numbers = append(numbers, strconv.Itoa(10+i%4))
		if i < 54 {
			want += "."
		} else {
			want += "h"
		}
	}
	checkHits(t, strings.Join(numbers, " "), want)
}
