package tests

import (
	"math/big"
	"regexp"
	"slices"
	"strings"
	"testing"

	"loop.example/s08086/impl"
)

var numberText = regexp.MustCompile(`\A[0-9]+(\.[0-9]+)?\z`)

// wantNumber is ReadNumber by the text of 3.1, with exact arithmetic.
func wantNumber(text string) (float64, int) {
	if !numberText.MatchString(text) {
		return 0, impl.CodeSyntax
	}
	if len(strings.ReplaceAll(text, ".", "")) > 15 {
		return 0, impl.CodeLimit
	}
	exact, _ := new(big.Rat).SetString(text)
	nearest, _ := exact.Float64()
	return nearest, impl.CodeOK
}

func checkNumber(t *testing.T, text string) int {
	t.Helper()
	given := append([]byte(text), "77777"...)
	kept := slices.Clone(given)
	got, code := impl.ReadNumber(given[:len(text)])
	want, wantCode := wantNumber(text)
	if code != wantCode || !sameOne(got, want) {
		t.Errorf("%.50q: %v, code %d, want %v, code %d", text, got, code, want, wantCode)
	}
	if !slices.Equal(given, kept) {
		t.Errorf("%.50q: the argument is written to", text)
	}
	return code
}

// P6: every short text of digits, points and bytes that do not belong there.
func TestReadNumberOfEveryShortText(t *testing.T) {
	checkNumber(t, "")
	if _, code := impl.ReadNumber(nil); code != impl.CodeSyntax {
		t.Errorf("nil: code %d", code)
	}
	texts := []string{""}
	for range 5 {
		longer := []string{}
		for _, text := range texts {
			for _, b := range []string{"0", "3", "9", ".", "-", "e", " ", "_"} {
				longer = append(longer, text+b)
				checkNumber(t, text+b)
			}
		}
		texts = longer
	}
}

// P6: every byte, alone, between digits, ahead of them and behind them.
func TestReadNumberWithEveryByte(t *testing.T) {
	for b := range 256 {
		c := string([]byte{byte(b)})
		for _, text := range []string{c, c + "1", "1" + c, "1" + c + "1", "1." + c, "1." + c + "5", "1.5" + c, c + ".5", "1" + c + ".5", c + c} {
			checkNumber(t, text)
		}
	}
}

// P6: n / d is rounded once, for digits and a point of every kind.
func TestReadNumberRoundsOnce(t *testing.T) {
	s := &source{50}
	codes := map[int]int{}
	for range 60000 {
		digits := []byte{}
		for range 1 + s.below(17) {
			digits = append(digits, "0123456789"[s.below(10)])
		}
		if point := s.below(len(digits) + 3); point <= len(digits) {
			digits = slices.Insert(digits, point, '.')
		}
		codes[checkNumber(t, string(digits))]++
	}
	for _, c := range []int{impl.CodeOK, impl.CodeSyntax, impl.CodeLimit} {
		if codes[c] < 1000 {
			t.Errorf("code %d was answered %d times: not much of a test", c, codes[c])
		}
	}
}

// P6: the greatest and the smallest numbers, MaxDigits digits and one more, wherever the point stands.
func TestReadNumberAtMaxDigits(t *testing.T) {
	for _, digit := range []string{"0", "1", "5", "9"} {
		for n := 13; n <= 18; n++ {
			digits := strings.Repeat(digit, n)
			for point := range n + 1 {
				checkNumber(t, digits[:point]+"."+digits[point:])
				checkNumber(t, digits[:point]+"."+digits[point:]+".")
			}
			checkNumber(t, digits)
			checkNumber(t, digits+"x")
		}
	}
	for _, c := range []struct {
		text string
		want float64
	}{
		{"999999999999999", 999999999999999}, {"9.99999999999999", 9.99999999999999}, {"0.00000000000001", 1e-14},
		{"000000000000001", 1}, {"0.1", 0.1}, {"2.50", 2.5}, {"0.3", 0.3}, {"00000000000.000", 0}, {"4.35", 4.35},
	} {
		if got, code := impl.ReadNumber([]byte(c.text)); code != impl.CodeOK || !sameOne(got, c.want) {
			t.Errorf("%s: %v, code %d", c.text, got, code)
		}
	}
}

// P6: a text of another form is that first, however many digits it has.
func TestReadNumberOfLongTexts(t *testing.T) {
	long := strings.Repeat("7", 100000)
	for _, text := range []string{long, long + ".", "." + long, long + "." + long, long + "." + long + ".", "-" + long, long + " ", "0." + long} {
		checkNumber(t, text)
	}
}
