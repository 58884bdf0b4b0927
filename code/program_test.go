package code

import (
	"fmt"
	"testing"
)

func TestReadsAndGives(t *testing.T) {
	for _, c := range []struct{ text, reads, gives string }{
		{"r1=7;.", "[]", "{1 0} true"}, {"r1=r2;.", "[{2 3}]", "{1 0} true"}, {"r1=r3-r2;.", "[{3 3} {2 6}]", "{1 0} true"}, {"r1=r1+r1;.", "[{1 3} {1 6}]", "{1 0} true"}, {"r1=?;.", "[]", "{1 0} true"}, {"!r1;.", "[{1 1}]", "{0 0} false"},
	} {
		step := mustRead(t, c.text)[0].Steps[0]
		reg, ok := step.Gives()
		if got := fmt.Sprint(reg, ok); got != c.gives {
			t.Errorf("%s gives %s, want %s", c.text, got, c.gives)
		}
		if got := fmt.Sprint(step.Reads()); got != c.reads {
			t.Errorf("%s reads %s, want %s", c.text, got, c.reads)
		}
	}
}

func mustRead(t *testing.T, text string) Program {
	t.Helper()
	program, at, ok := Read(text)
	if !ok {
		t.Fatalf("%q is no program, at %d", text, at)
	}
	return program
}

func TestEnds(t *testing.T) {
	for _, c := range []struct{ text, reads, behind string }{
		{".", "[]", "[]"}, {">7", "[]", "[7]"}, {"r3?7:2", "[{3 0}]", "[2 7]"}, {"r3?5:5", "[{3 0}]", "[5]"},
	} {
		block := mustRead(t, c.text)[0]
		if got := fmt.Sprint(block.End.Reads()); got != c.reads {
			t.Errorf("%s reads %s, want %s", c.text, got, c.reads)
		}
		if got := fmt.Sprint(block.Behind().Items()); got != c.behind {
			t.Errorf("behind %s: %s, want %s", c.text, got, c.behind)
		}
	}
}

func TestAhead(t *testing.T) {
	program := mustRead(t, "r1?2:1|r1?2:2|>0|>3")
	var got [][]BlockNumber
	for _, blocks := range program.Ahead() {
		got = append(got, blocks.Items())
	}
	if want := "[[2] [0] [0 1] [3]]"; fmt.Sprint(got) != want {
		t.Errorf("Ahead() = %v, want %s", got, want)
	}
}

func TestRegFrom(t *testing.T) {
	choice := mustRead(t, "r1@0:r5,2:r6;.")[0].Choices[0]
	for block, want := range []string{"5 true", "0 false", "6 true", "0 false"} {
		reg, found := choice.RegFrom(BlockNumber(block))
		if got := fmt.Sprint(reg, found); got != want {
			t.Errorf("RegFrom(%d) = %s, want %s", block, got, want)
		}
	}
}

func TestOrigin(t *testing.T) {
	block := mustRead(t, "r1@0:r5,2:r6;r2@0:r1,2:r1;.")[0]
	for _, c := range []struct {
		reg  RegNumber
		from BlockNumber
		want RegNumber
	}{{1, 0, 5}, {1, 2, 6}, {2, 0, 1}, {5, 0, 5}, {1, 1, 1}} {
		if got := block.Origin(c.reg, c.from); got != c.want {
			t.Errorf("Origin(%d, %d) = %d, want %d", c.reg, c.from, got, c.want)
		}
	}
	for reg, want := range []bool{false, true, true, false, false, false, false} {
		if got := block.Chooses(RegNumber(reg)); got != want {
			t.Errorf("Chooses(%d) = %v", reg, got)
		}
	}
}
