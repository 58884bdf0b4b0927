package flow

import (
	"fmt"
	"testing"

	"solo/code"
)

func mustRead(t *testing.T, text string) code.Program {
	t.Helper()
	program, at, ok := code.Read(text)
	if !ok {
		t.Fatalf("%q is no program, at %d", text, at)
	}
	return program
}

func TestPaths(t *testing.T) {
	// a loop of 1 and 2, into which one comes at both; 5 leads there, but one does not come to it
	paths := PathsOf(mustRead(t, "r1?1:2|>2|r1?1:3|>4|.|>1"))
	for i, want := range []string{"[0 1 2 3 4]", "[1]", "[2 3 4]", "[3 4]", "[4]", "[]"} {
		block := code.BlockNumber(i)
		var under []code.BlockNumber
		for j := range 6 {
			if other := code.BlockNumber(j); paths.Over(block, other) {
				under = append(under, other)
			}
		}
		if got := fmt.Sprint(under); got != want {
			t.Errorf("block %d is over %s, want %s", i, got, want)
		}
		if got := paths.Reach(block); got != (i != 5) {
			t.Errorf("Reach(%d) = %v", i, got)
		}
	}
	for i, want := range []string{"0 false", "0 true", "0 true", "2 true", "3 true", "0 false"} {
		keeper, ok := paths.Keeper(code.BlockNumber(i))
		if got := fmt.Sprint(keeper, ok); got != want {
			t.Errorf("Keeper(%d) = %s, want %s", i, got, want)
		}
	}
	for i, want := range []string{"[]", "[2]", "[1]", "[]", "[]", "[]"} {
		if got := fmt.Sprint(paths.Rim(code.BlockNumber(i)).Items()); got != want {
			t.Errorf("Rim(%d) = %s, want %s", i, got, want)
		}
	}
}
