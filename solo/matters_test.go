package solo_test

// P5: what matters.

import (
	"fmt"
	"math/rand"
	"strings"
	"testing"

	"solo/solo"
)

func testMatters(t *testing.T, text, want string) {
	t.Helper()
	got, errno, at := solo.Matters(text)
	if fmt.Sprint(got) != want || errno != solo.OK || at != 0 {
		t.Errorf("Matters(%q) = %v, %d, %d, want %s", text, got, errno, at, want)
	}
}

func TestMatters(t *testing.T) {
	for _, c := range []struct{ text, want string }{
		{".", "[[]]"},
		// each way to read
		{"!r1;.", "[[1]]"}, {"r1=r2;.", "[[2]]"}, {"r1=r3-r2;.", "[[2 3]]"}, {"r4?0:0", "[[4]]"}, {"r1=5;.", "[[]]"}, {"r1=?;.", "[[]]"},
		// what is given first does not matter, what is read first does, also in one step
		{"r1=1;!r1;.", "[[]]"}, {"!r1;r1=1;.", "[[1]]"}, {"r1=r1;.", "[[1]]"}, {"r1=?;r1?0:0", "[[]]"}, {"r1=2;r1=r1+r1;!r1;.", "[[]]"},
		// that it is read counts, even by what nobody wants
		{"r9=r1;.", "[[1]]"},
		// block by block, by both ways, and past blocks that give it
		{">1|>2|!r7;.", "[[7] [7] [7]]"}, {">1|r7=1;>2|!r7;.", "[[] [] [7]]"}, {"r1?1:2|r7=1;>3|>3|!r7;.", "[[1 7] [] [7] [7]]"},
		// round a loop
		{">1|r1?2:3|!r2;>1|!r3;.", "[[1 2 3] [1 2 3] [1 2 3] [3]]"}, {"!r1;r1=1;>0", "[[1]]"}, {"r1=1;!r1;>0", "[[]]"},
		// what a choice reads matters in the block whose number stands ahead, and in none of the others
		{"r9?1:2|>3|>3|r1@1:r5,2:r6;!r1;.", "[[5 6 9] [5] [6] [1]]"},
		// a choice reads at the end of that block, behind its steps
		{"r2=1;>1|r1@0:r2;.", "[[] []]"},
		// a choice reads, whoever wants what it gives
		{">1|r1@0:r2;.", "[[2] []]"},
		// what a choice gives does not matter ahead of the entry to its block, but behind it
		{">1|r1@0:r2;!r1;.", "[[2] [1]]"}, {"r1@0:r2;!r1;>0", "[[1 2]]"}, {"r1@1:r1;>1|>0", "[[1] [1]]"},
		// all at once: r1 is read by the second choice ahead of what the first one gives it
		{">1|r1@0:r2;r2@0:r1;!r1;!r2;.", "[[1 2] [1 2]]"},
		// the end of a block with two ways reads what the choices of both read
		{"r0?1:2|r1@0:r5;.|r1@0:r6;.", "[[0 5 6] [] []]"},
		// to blocks to which one does not come
		{".|!r7;>1", "[[] [7]]"}, {".|>2|r1@1:r3;!r4;.", "[[] [3 4] [4]]"}, {".|!r1;>0", "[[] [1]]"},
		// numbers rise, not texts
		{"!r10;!r9;!r100;!r2;!r9999;!r0;.", "[[0 2 9 10 100 9999]]"},
	} {
		testMatters(t, c.text, c.want)
	}
}

func TestMattersAgainstSlowMatters(t *testing.T) {
	m := maker{rand.New(rand.NewSource(5))}
	for range 2000 {
		text := m.program()
		testMatters(t, text, slowMatters(text))
	}
	for range 500 {
		text := m.single(8, 10)
		testMatters(t, text, slowMatters(text))
	}
}

// longText is a program of so many bytes.
func longText(size int) string {
	text := strings.Repeat("!r1;", (size-1)/4)
	switch size - len(text) {
	case 1:
		return text + "."
	case 2:
		return text + ">0"
	case 3:
		return text + ".|."
	}
	return text + ".|>0"
}

func TestMattersErrors(t *testing.T) {
	for _, c := range append(overSingle(), checkCase{longText(40000), solo.OK, 0}, checkCase{longText(39999), solo.OK, 0}) {
		got, errno, at := solo.Matters(c.text)
		if (len(got) == 0) != (c.want != solo.OK) || errno != c.want || at != c.at {
			t.Errorf("Matters(%.40q), %d bytes: %v, %d, %d, want the error %d, %d", c.text, len(c.text), got, errno, at, c.want, c.at)
		}
	}
}

// overSingle lists texts that are refused where no more than MaxSingle bytes are taken.
func overSingle() []checkCase {
	long := strings.Repeat("!r1;", 10000)
	return []checkCase{
		{"", solo.ErrText, 0}, {"!r1;", solo.ErrText, 4}, {strings.Repeat(".|", 12) + ".", solo.ErrMany, 24}, {">1", solo.ErrGoal, 1}, {".|r1@0:r1;.", solo.ErrChoice, 2},
		{longText(40001), solo.ErrLong, 0}, {longText(200000), solo.ErrLong, 0}, {longText(200001), solo.ErrLong, 0}, {strings.Repeat("x", 200001), solo.ErrLong, 0},
		// the errors of Check are named first
		{long + "x", solo.ErrText, 40000}, {long, solo.ErrText, 40000}, {long + ">1", solo.ErrGoal, 40001}, {long + ".|r1@0:r1;.", solo.ErrChoice, 40002}, {long + strings.Repeat(".|", 12) + ".", solo.ErrMany, 40024},
	}
}
