package solo_test

import (
	"fmt"
	"math"
	"math/rand"
	"slices"
	"strings"
	"testing"

	"solo/solo"
)

type runCase struct {
	text  string
	input []int
	fuel  int
	want  string
}

func testRuns(t *testing.T, cases []runCase) {
	t.Helper()
	for _, c := range cases {
		out, how, errno, at := solo.Run(c.text, c.input, c.fuel)
		if got := fmt.Sprint(out, how); got != c.want || errno != solo.OK || at != 0 {
			t.Errorf("Run(%q, %v, %d) = %s, %d, %d, want %s", c.text, c.input, c.fuel, got, errno, at, c.want)
		}
	}
}

func TestRunSteps(t *testing.T) {
	testRuns(t, []runCase{
		{"!r7;r7=-5;!r7;r8=r7;!r8;r9999=9999;!r9999;.", nil, 9, "[0 -5 -5 9999] 0"},
		{"r1=7;r2=3;r3=r1+r2;!r3;r3=r1-r2;!r3;r3=r1×r2;!r3;r3=r1*r2;!r3;r3=r1<r2;!r3;r3=r2<r1;!r3;r3=r1<r1;!r3;.", nil, 1, "[10 4 21 21 0 1 0] 0"},
		{"r1=2;r1=r1-r1;!r1;.", nil, 1, "[0] 0"},
	})
}

func TestRunWrapsRound(t *testing.T) {
	least, most := math.MinInt, math.MaxInt
	testRuns(t, []runCase{
		{"r1=?;r2=1;r3=r1+r2;!r3;r3=r1*r1;!r3;r3=r1×r1;!r3;.", []int{most}, 1, "[-9223372036854775808 1 1] 0"},
		{"r1=?;r2=1;r3=r1-r2;!r3;r4=r0-r1;!r4;r4=r1<r3;!r4;.", []int{least}, 1, "[9223372036854775807 -9223372036854775808 1] 0"},
		// 2 to the power of 64 is 0
		{"r1=2;>1|r1=r1*r1;!r1;>1", nil, 7, "[4 16 256 65536 4294967296 0] 1"},
	})
}

func TestRunInput(t *testing.T) {
	read := "r1=?;r2=?;r3=?;!r1;!r2;!r3;."
	testRuns(t, []runCase{
		{read, []int{4, -1, 6, 7}, 1, "[4 -1 6] 0"}, {read, []int{4, -1}, 1, "[4 -1 0] 0"}, {read, nil, 1, "[0 0 0] 0"},
		// what has run out gives 0, not what was there
		{"r1=5;r1=?;!r1;.", nil, 1, "[0] 0"},
		{"r1=?;!r1;>0", []int{1, 2}, 4, "[1 2 0 0] 1"},
	})
}

func TestRunEnds(t *testing.T) {
	testRuns(t, []runCase{
		{"r1=?;r1?1:2|!r1;.|r2=8;!r2;.", []int{3}, 2, "[3] 0"},
		{"r1=?;r1?1:2|!r1;.|r2=8;!r2;.", []int{-3}, 2, "[-3] 0"},
		{"r1=?;r1?1:2|!r1;.|r2=8;!r2;.", []int{0}, 2, "[8] 0"},
		{">2|r1=1;!r1;.|r1=2;!r1;>1", nil, 3, "[2 1] 0"},
	})
}

func TestRunFuel(t *testing.T) {
	testRuns(t, []runCase{
		{".", nil, 0, "[] 1"}, {".", nil, 1, "[] 0"}, {"!r0;.", nil, 0, "[] 1"}, {"!r0;>0", nil, 3, "[0 0 0] 1"},
		{"!r0;>1|!r0;.", nil, 1, "[0] 1"}, {"!r0;>1|!r0;.", nil, 2, "[0 0] 0"}, {"!r0;>1|!r0;.", nil, 300, "[0 0] 0"},
	})
	out, how, errno, _ := solo.Run("r1=1;r2=r2+r1;!r2;>0", nil, 300)
	if len(out) != 300 || out[299] != 300 || how != 1 || errno != solo.OK {
		t.Errorf("300 blocks: %d numbers, %d, %d", len(out), how, errno)
	}
	for _, c := range []struct {
		last int
		how  int
	}{{299, 0}, {300, 1}} {
		// block 0 and then `last` blocks more
		text := fmt.Sprintf("r9=%d;>1|r1=1;r2=r2+r1;r3=r2<r9;r3?1:2|!r2;.", c.last-1)
		if _, how, errno, _ := solo.Run(text, nil, 300); how != c.how || errno != solo.OK {
			t.Errorf("%d blocks: %d, %d, want %d", c.last+1, how, errno, c.how)
		}
	}
}

func TestRunChoices(t *testing.T) {
	testRuns(t, []runCase{
		// all at once: a swap, also one written the other way round
		{"r1=1;r2=2;>1|r1@0:r1,1:r2;r2@0:r2,1:r1;!r1;!r2;r9=?;r9?1:2|.", []int{1, 1}, 9, "[1 2 2 1 1 2] 0"},
		{"r1=1;r2=2;>1|r2@0:r2,1:r1;r1@0:r1,1:r2;!r1;!r2;r9=?;r9?1:2|.", []int{1}, 9, "[1 2 2 1] 0"},
		{"r1=1;>1|r2@0:r1;r3@0:r2;r4@0:r3;!r2;!r3;!r4;.", nil, 2, "[1 0 0] 0"},
		// nothing is chosen in block 0 at the beginning, but when one comes back
		{"r1@1:r2;!r1;r9=?;r9?1:2|r2=5;>0|.", []int{1}, 9, "[0 5] 0"},
		{"r1@0:r2;!r1;r1=9;r2=3;>0", nil, 3, "[0 3 3] 1"},
		// from the block from which one comes
		{"r1=1;r2=2;r9=?;r9?1:2|>3|>3|r3@1:r1,2:r2;!r3;.", []int{1}, 9, "[1] 0"},
		{"r1=1;r2=2;r9=?;r9?1:2|>3|>3|r3@1:r1,2:r2;!r3;.", []int{0}, 9, "[2] 0"},
		{"r1=5;r1?1:1|r2@0:r1;!r2;.", nil, 2, "[5] 0"},
		// what a choice reads is what the register holds at the end of the other block
		{"r1=1;r1=2;>1|r2@0:r1;r1=3;!r2;.", nil, 2, "[2] 0"},
	})
}

func TestRunErrors(t *testing.T) {
	for _, c := range []struct {
		text          string
		numbers, fuel int
		want          solo.Errno
		at            int
	}{
		{strings.Repeat(".", 200001), 0, 1, solo.ErrLong, 0}, {"!r1;", 0, 1, solo.ErrText, 4}, {strings.Repeat(".|", 12) + ".", 0, 1, solo.ErrMany, 24}, {">3", 0, 1, solo.ErrGoal, 1}, {".|r1@0:r1;.", 0, 1, solo.ErrChoice, 2},
		// the program's errors are named first
		{"..", 21, -1, solo.ErrText, 1}, {">1", 21, 301, solo.ErrGoal, 1}, {".|r1@1:r1;.", 99, 301, solo.ErrChoice, 2},
		{"!r1;.", 21, 1, solo.ErrArg, 0}, {"!r1;.", 100000, 1, solo.ErrArg, 0}, {"!r1;.", 20, 301, solo.ErrArg, 0}, {"!r1;.", 0, -1, solo.ErrArg, 0}, {"!r1;.", 0, math.MinInt, solo.ErrArg, 0}, {"!r1;.", 0, math.MaxInt, solo.ErrArg, 0}, {"!r1;.", 21, 301, solo.ErrArg, 0},
	} {
		out, how, errno, at := solo.Run(c.text, make([]int, c.numbers), c.fuel)
		if len(out) != 0 || how != 0 || errno != c.want || at != c.at {
			t.Errorf("Run(%.40q, %d numbers, %d) = %v, %d, %d, %d, want the error %d, %d", c.text, c.numbers, c.fuel, out, how, errno, at, c.want, c.at)
		}
	}
	for _, fuel := range []int{0, 300} {
		if _, _, errno, at := solo.Run(">0", make([]int, 20), fuel); errno != solo.OK || at != 0 {
			t.Errorf("20 numbers and the fuel %d: %d, %d", fuel, errno, at)
		}
	}
}

func TestRunAgainstSlowRun(t *testing.T) {
	m := maker{rand.New(rand.NewSource(2))}
	for range 3000 {
		text := m.program()
		input := make([]int, m.Intn(21))
		for i := range input {
			input[i] = []int{m.Intn(3), m.Intn(3) - 1, int(m.Uint64())}[m.Intn(3)]
		}
		fuel := m.Intn(31)
		before := slices.Clone(input)
		out, how, errno, at := solo.Run(text, input, fuel)
		if got, want := fmt.Sprint(out, how), slowRun(text, input, fuel); got != want || errno != solo.OK || at != 0 {
			t.Fatalf("Run(%q, %v, %d) = %s, %d, %d, want %s", text, input, fuel, got, errno, at, want)
		}
		if !slices.Equal(input, before) {
			t.Fatalf("Run(%q, %v, %d) changed its input", text, before, fuel)
		}
	}
}
