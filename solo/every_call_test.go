package solo_test

// P1: what holds for every call.

import (
	"fmt"
	"math"
	"math/rand"
	"slices"
	"strings"
	"testing"

	"solo/solo"
)

func TestErrorNumbers(t *testing.T) {
	for want, errno := range []solo.Errno{solo.OK, solo.ErrLong, solo.ErrText, solo.ErrMany, solo.ErrGoal, solo.ErrReg, solo.ErrChoice, solo.ErrArg, solo.ErrTwice, solo.ErrUse} {
		if int(errno) != want {
			t.Errorf("the error %d has the number %d", want, errno)
		}
	}
}

// answer is what a call answers: whether all but the error and place is empty, and these.
type answer struct {
	empty bool
	errno solo.Errno
	at    int
}

func answersOf(text string, input []int, fuel int) map[string]answer {
	answers := map[string]answer{}
	tell := func(call string, size int, errno solo.Errno, at int) {
		answers[call] = answer{size == 0, errno, at}
	}
	errno, at := solo.Check(text)
	tell("Check", 0, errno, at)
	out, how, errno, at := solo.Run(text, input, fuel)
	tell("Run", len(out)+how, errno, at)
	keepers, errno, at := solo.Keepers(text)
	tell("Keepers", len(keepers), errno, at)
	rims, errno, at := solo.Rims(text)
	tell("Rims", len(rims), errno, at)
	matters, errno, at := solo.Matters(text)
	tell("Matters", len(matters), errno, at)
	errno, at = solo.Single(text)
	tell("Single", 0, errno, at)
	made, errno, at := solo.Make(text)
	tell("Make", len(made), errno, at)
	lean, errno, at := solo.Lean(text)
	tell("Lean", len(lean), errno, at)
	plain, errno, at := solo.Plain(text)
	tell("Plain", len(plain), errno, at)
	return answers
}

func testAnswers(t *testing.T, text string, input []int, fuel int) {
	t.Helper()
	for call, a := range answersOf(text, input, fuel) {
		if a.errno != solo.OK && !a.empty {
			t.Errorf("%s of %.80q: results beside the error %d", call, text, a.errno)
		}
		if turns := strings.Contains("Make Lean Plain", call); turns && a.errno == solo.OK && a.empty {
			t.Errorf("%s of %.80q: neither an error nor a program", call, text)
		}
		if (a.errno == solo.OK || a.errno == solo.ErrLong || a.errno == solo.ErrArg) && a.at != 0 {
			t.Errorf("%s of %.80q: the place %d beside %d", call, text, a.at, a.errno)
		}
		if a.at < 0 || a.at > len(text) {
			t.Errorf("%s of %.80q: the place %d", call, text, a.at)
		}
	}
}

func TestEveryCallAnswers(t *testing.T) {
	texts := []string{
		"", ".", "x", "\xff\xfe", "\x00", "r", "×", "r1=r2\xc3", ">1", ">0", "r1@0:r1;.", strings.Repeat(".|", 13),
		strings.Repeat("r1=1;", 39999) + ">0", strings.Repeat("!r1;", 49999) + ">0", strings.Repeat(".|", 100000), strings.Repeat("r", 200001), strings.Repeat("×", 1<<20),
		">1|" + fallingChoices(10000) + ".", ">1|" + fallingChoices(4000) + ".", manyRegs(12, 450), manyRegs(1, 5500),
	}
	for _, text := range texts {
		testAnswers(t, text, make([]int, 1<<20), 1)
		testAnswers(t, text, nil, 300)
	}
	for _, text := range []string{"", ">0", "!r1;x"} {
		for _, fuel := range []int{math.MinInt, -1, 0, 1, 300, 301, math.MaxInt} {
			testAnswers(t, text, []int{1}, fuel)
		}
	}
	m := maker{rand.New(rand.NewSource(3))}
	for range 2000 {
		testAnswers(t, m.spoilt(m.program()), []int{1, -2}, 9)
	}
	for range 2000 {
		noise := make([]byte, m.Intn(40))
		m.Read(noise)
		testAnswers(t, string(noise), nil, 3)
	}
}

// fallingChoices lists choices of many registers, the greatest first.
func fallingChoices(count int) string {
	var choices strings.Builder
	for reg := count - 1; reg >= 0; reg-- {
		fmt.Fprintf(&choices, "r%d@0:r1;", reg)
	}
	return choices.String()
}

// manyRegs is a program of so many blocks, each of which puts out many registers, and leads back to all.
func manyRegs(blocks, count int) string {
	texts := make([]string, blocks)
	for i := range texts {
		for reg := range count {
			texts[i] += fmt.Sprintf("!r%d;", 9999-reg*blocks-i)
		}
		texts[i] += fmt.Sprintf("r1?%d:%d", (i+1)%blocks, i)
	}
	return strings.Join(texts, "|")
}

func TestAnswersHangOnArgumentsAlone(t *testing.T) {
	text := "r1=?;!r1;!r2;r2=r1+r1;r1?1:2|!r3;!r4;>3|r4=1;>3|r5@1:r3,2:r4;!r5;r5?0:3"
	input := []int{3, 4, 5}
	tell := func() string {
		out, how, _, _ := solo.Run(text, input, 3)
		keepers, _, _ := solo.Keepers(text)
		rims, _, _ := solo.Rims(text)
		matters, _, _ := solo.Matters(text)
		errno, at := solo.Single(text)
		made, _, _ := solo.Make(text)
		lean, _, _ := solo.Lean(made)
		plain, _, _ := solo.Plain(text)
		return fmt.Sprint(out, how, keepers, rims, matters, errno, at, made, lean, plain)
	}
	want := tell()
	m := maker{rand.New(rand.NewSource(7))}
	for range 200 {
		answersOf(m.program(), []int{9}, 2)
		answersOf(m.spoilt(text), []int{9}, 2)
		if got := tell(); got != want {
			t.Fatalf("%s, and first %s", got, want)
		}
	}
}

func TestAnswersAreNewMemory(t *testing.T) {
	text := "r1=?;!r1;r1=?;!r1;."
	input := []int{3, 4}
	first, _, _, _ := solo.Run(text, input, 1)
	second, _, _, _ := solo.Run(text, input, 1)
	overwrite(first)
	if !slices.Equal(input, []int{3, 4}) || !slices.Equal(second, []int{3, 4}) {
		t.Errorf("behind a change to an answer: the input %v, the other answer %v", input, second)
	}
}

// overwrite changes all of a list's memory, also what lies behind its end.
func overwrite(list []int) {
	list = list[:cap(list)]
	for i := range list {
		list[i] = 77
	}
}

func TestListsAreNewMemory(t *testing.T) {
	text := "r1?1:2|!r2;!r3;r3?0:2|!r4;r4?1:0"
	keepers, _, _ := solo.Keepers(text)
	want := fmt.Sprint(keepers)
	overwrite(keepers)
	if again, _, _ := solo.Keepers(text); fmt.Sprint(again) != want {
		t.Errorf("behind a change to an answer: %v, want %s", again, want)
	}
	for name, call := range map[string]func(string) ([][]int, solo.Errno, int){"Rims": solo.Rims, "Matters": solo.Matters} {
		lists, _, _ := call(text)
		want := fmt.Sprint(lists)
		for i := range lists {
			kept := slices.Clone(lists[i])
			overwrite(lists[i])
			copy(lists[i], kept)
			if fmt.Sprint(lists) != want {
				t.Errorf("%s: list %d shares memory with another one: %v, want %s", name, i, lists, want)
			}
		}
		for i := range lists {
			overwrite(lists[i])
		}
		if again, _, _ := call(text); fmt.Sprint(again) != want {
			t.Errorf("%s behind a change to an answer: %v, want %s", name, again, want)
		}
	}
}

func TestErrorsOfCheckComeFirst(t *testing.T) {
	m := maker{rand.New(rand.NewSource(8))}
	for range 2000 {
		text := m.misled(m.program())
		if m.Intn(2) == 0 {
			text = m.spoilt(text)
		}
		want, wantAt := slowCheck(text)
		if want == solo.OK {
			continue
		}
		answers := answersOf(text, make([]int, 21), -1)
		for _, call := range []string{"Check", "Run", "Keepers", "Rims", "Matters", "Single", "Make", "Lean", "Plain"} {
			if got := answers[call]; got != (answer{true, want, wantAt}) {
				t.Fatalf("%s(%q): %v, want the error %d, %d", call, text, got, want, wantAt)
			}
		}
	}
}
