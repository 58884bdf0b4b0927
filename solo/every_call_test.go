package solo_test

// P1: what holds for every call.

import (
	"fmt"
	"math"
	"math/rand"
	"slices"
	"strings"
	"testing"

	"solo/solo"
)

func TestErrorNumbers(t *testing.T) {
	for want, errno := range []solo.Errno{solo.OK, solo.ErrLong, solo.ErrText, solo.ErrMany, solo.ErrGoal, solo.ErrReg, solo.ErrChoice, solo.ErrArg, solo.ErrTwice, solo.ErrUse} {
		if int(errno) != want {
			t.Errorf("the error %d has the number %d", want, errno)
		}
	}
}

// answer is what a call answers: whether all but the error and place is empty, and these.
type answer struct {
	empty bool
	errno solo.Errno
	at    int
}

func answersOf(text string, input []int, fuel int) map[string]answer {
	answers := map[string]answer{}
	tell := func(call string, size int, errno solo.Errno, at int) {
		answers[call] = answer{size == 0, errno, at}
	}
	errno, at := solo.Check(text)
	tell("Check", 0, errno, at)
	out, how, errno, at := solo.Run(text, input, fuel)
	tell("Run", len(out)+how, errno, at)
	keepers, errno, at := solo.Keepers(text)
	tell("Keepers", len(keepers), errno, at)
	rims, errno, at := solo.Rims(text)
	tell("Rims", len(rims), errno, at)
	matters, errno, at := solo.Matters(text)
	tell("Matters", len(matters), errno, at)
	errno, at = solo.Single(text)
	tell("Single", 0, errno, at)
	made, errno, at := solo.Make(text)
	tell("Make", len(made), errno, at)
	lean, errno, at := solo.Lean(text)
	tell("Lean", len(lean), errno, at)
	plain, errno, at := solo.Plain(text)
	tell("Plain", len(plain), errno, at)
	return answers
}

func testAnswers(t *testing.T, text string, input []int, fuel int) {
	t.Helper()
	for call, a := range answersOf(text, input, fuel) {
		if a.errno != solo.OK && !a.empty {
			t.Errorf("%s of %.80q: results beside the error %d", call, text, a.errno)
		}
		if (a.errno == solo.OK || a.errno == solo.ErrLong || a.errno == solo.ErrArg) && a.at != 0 {
			t.Errorf("%s of %.80q: the place %d beside %d", call, text, a.at, a.errno)
		}
		if a.at < 0 || a.at > len(text) {
			t.Errorf("%s of %.80q: the place %d", call, text, a.at)
		}
	}
}

func TestEveryCallAnswers(t *testing.T) {
	texts := []string{
		"", ".", "x", "\xff\xfe", "\x00", "r", "×", "r1=r2\xc3", ">1", ">0", "r1@0:r1;.", strings.Repeat(".|", 13),
		strings.Repeat("r1=1;", 39999) + ">0", strings.Repeat("!r1;", 49999) + ">0", strings.Repeat(".|", 100000), strings.Repeat("r", 200001), strings.Repeat("×", 1<<20),
		">1|" + fallingChoices(10000) + ".",
	}
	for _, text := range texts {
		for _, fuel := range []int{math.MinInt, -1, 0, 1, 300, 301, math.MaxInt} {
			testAnswers(t, text, []int{1}, fuel)
		}
		testAnswers(t, text, nil, 1)
		testAnswers(t, text, make([]int, 1<<20), 1)
	}
	m := maker{rand.New(rand.NewSource(3))}
	for range 2000 {
		testAnswers(t, m.spoilt(m.program()), []int{1, -2}, 9)
	}
	for range 2000 {
		noise := make([]byte, m.Intn(40))
		m.Read(noise)
		testAnswers(t, string(noise), nil, 3)
	}
}

// fallingChoices lists choices of many registers, the greatest first.
func fallingChoices(count int) string {
	var choices strings.Builder
	for reg := count - 1; reg >= 0; reg-- {
		fmt.Fprintf(&choices, "r%d@0:r1;", reg)
	}
	return choices.String()
}

func TestAnswersHangOnArgumentsAlone(t *testing.T) {
	text := "r1=?;!r1;!r2;r2=r1+r1;>0"
	input := []int{3, 4, 5}
	first, _, _, _ := solo.Run(text, input, 3)
	want := fmt.Sprint(first)
	solo.Run("r2=7;!r2;!r2;!r2;!r2;!r2;!r2;.", []int{9}, 2)
	solo.Check("x")
	second, _, _, _ := solo.Run(text, input, 3)
	if fmt.Sprint(first) != want || fmt.Sprint(second) != want {
		t.Errorf("%v and %v, want %s twice", first, second, want)
	}
}

func TestAnswersAreNewMemory(t *testing.T) {
	text := "r1=?;!r1;r1=?;!r1;."
	input := []int{3, 4}
	first, _, _, _ := solo.Run(text, input, 1)
	second, _, _, _ := solo.Run(text, input, 1)
	for i := range first[:cap(first)] {
		first[:cap(first)][i] = 77
	}
	if !slices.Equal(input, []int{3, 4}) || !slices.Equal(second, []int{3, 4}) {
		t.Errorf("behind a change to an answer: the input %v, the other answer %v", input, second)
	}
}
