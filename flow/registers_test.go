package flow

import (
	"fmt"
	"testing"

	"solo/code"
)

func TestMatters(t *testing.T) {
	var got [][]code.RegNumber
	for _, regs := range Matters(mustRead(t, "r9?1:1|r1@0:r2,1:r3;r3=r1+r4;r3?1:2|!r1;!r5;.")) {
		got = append(got, regs.Items())
	}
	if want := "[[2 4 5 9] [1 4 5] [1 5]]"; fmt.Sprint(got) != want {
		t.Errorf("Matters = %v, want %s", got, want)
	}
}

func TestNeeds(t *testing.T) {
	for _, c := range []struct{ text, want string }{
		{"r9?1:1|r1@0:r2,1:r3;r3=r1+r4;r3?1:2|!r1;!r5;.", "[[2 4 5 9] [1 4 5] [1 5]]"},
		// what only choices read, even round about
		{">1|r1@0:r2;.", "[[] []]"}, {">1|r1@0:r2;>2|r3@1:r1;!r4;.", "[[4] [4] [4]]"}, {">1|r1@0:r2,1:r3;r3@0:r4,1:r1;>1", "[[] []]"}, {">1|r1@0:r2,1:r3;r3@0:r4,1:r1;!r3;>1", "[[2 4] [1 3]]"},
		// that what a step gives is not wanted, does not count
		{">1|r1@0:r2;r5=r1;.", "[[2] [1]]"},
	} {
		var got [][]code.RegNumber
		for _, regs := range Needs(mustRead(t, c.text)) {
			got = append(got, regs.Items())
		}
		if fmt.Sprint(got) != c.want {
			t.Errorf("Needs(%q) = %v, want %s", c.text, got, c.want)
		}
	}
}

func TestGivenTwiceAndReadAmiss(t *testing.T) {
	for _, c := range []struct{ text, twice, amiss string }{
		{"r1=1;>1|r2@0:r1;r3=r2+r1;!r3;.", "{0 0} false", "{0 0} false"},
		{"r1=1;>1|r2@0:r1;r3=r2+r1;r2=1;.", "{2 25} true", ""},
		{"r1=1;>1|r2@0:r3;r3=r2+r1;.", "{0 0} false", "{3 13} true"},
		{"r1=1;r2=r1+r2;.", "{0 0} false", "{2 11} true"},
	} {
		program := mustRead(t, c.text)
		reg, found := GivenTwice(program)
		if got := fmt.Sprint(reg, found); got != c.twice {
			t.Errorf("GivenTwice(%q) = %s, want %s", c.text, got, c.twice)
		}
		if found {
			continue
		}
		reg, found = ReadAmiss(program)
		if got := fmt.Sprint(reg, found); got != c.amiss {
			t.Errorf("ReadAmiss(%q) = %s, want %s", c.text, got, c.amiss)
		}
	}
}
