package words

import (
	"slices"
	"strings"
	"testing"
)

func TestNames(t *testing.T) {
	for s, want := range map[string]bool{
		"a": true, "z-09": true, strings.Repeat("a", 24): true,
		"": false, "A": false, "0": false, "-": false, "aB": false, "a_": false, "a ": false, strings.Repeat("a", 25): false,
	} {
		if got := IsName(s); got != want {
			t.Errorf("IsName(%q) = %v", s, got)
		}
	}
}

func TestDigits(t *testing.T) {
	for s, want := range map[string]bool{"0": true, "009": true, "": false, "1234": false, "-1": false, "1a": false, " 1": false, "1/": false, "1:": false} {
		if got := IsDigits(s, 3); got != want {
			t.Errorf("IsDigits(%q) = %v", s, got)
		}
	}
}

func TestNumber(t *testing.T) {
	for s, want := range map[string]int{"0": 0, "7": 7, "-7": -7, "10": 10, "999999999": 999999999, "-999999999": -999999999} {
		if n, isNumber := Number(s); n != want || !isNumber {
			t.Errorf("Number(%q) = %d, %v", s, n, isNumber)
		}
	}
	for _, s := range []string{"", "-", "-0", "00", "01", "-01", "--1", "+1", "1000000000", "-1000000000", "1 ", " 1", "1a", "1.", "0x1", "1_0"} {
		if n, isNumber := Number(s); n != 0 || isNumber {
			t.Errorf("Number(%q) = %d, %v", s, n, isNumber)
		}
	}
}

func TestSplit(t *testing.T) {
	if list, isLine := Split("a b\tc 1"); !slices.Equal(list, []string{"a", "b\tc", "1"}) || !isLine {
		t.Errorf("Split = %q, %v", list, isLine)
	}
	for _, s := range []string{"", " ", " a", "a ", "a  b"} {
		if list, isLine := Split(s); list != nil || isLine {
			t.Errorf("Split(%q) = %q, %v", s, list, isLine)
		}
	}
}
