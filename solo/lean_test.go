package solo_test

// P8: single programs are made lean.

import (
	"fmt"
	"math/rand"
	"strings"
	"testing"

	"solo/solo"
)

func testLean(t *testing.T, m maker, text string) string {
	t.Helper()
	made, errno, at := solo.Lean(text)
	testTurned(t, m, "Lean", text, made, errno, at)
	if errno, at := solo.Single(made); errno != solo.OK {
		t.Fatalf("Lean(%.900q) = %.900q: Single: %d, %d", text, made, errno, at)
	}
	if fat := slowFat(made); fat != "" {
		t.Fatalf("Lean(%.900q) = %.900q: not lean for %s", text, made, fat)
	}
	return made
}

func TestLean(t *testing.T) {
	m := maker{rand.New(rand.NewSource(21))}
	for _, c := range []struct {
		text string
		left int // how many choices and steps are left
	}{
		{".", 0}, {"r1=1;!r1;.", 2}, {"r4999=1;!r4999;.", 2},
		// what is not wanted, also round about
		{"r1=1;.", 0}, {"r1=1;r2=r1+r1;r3=r2*r2;.", 0}, {"r1=1;r2=r1+r1;r3=r2*r2;!r2;.", 3}, {"r1=1;>1|r2@0:r1,1:r3;r3=r2+r2;>1", 0}, {"r1=1;>1|r2@0:r1,1:r3;r3=r2+r2;r3?1:2|.", 3}, {"r1=1;r1?0:0", 1},
		// ? takes from the input, whoever wants it
		{"r1=?;.", 1}, {"r1=?;r2=r1;r3=?;!r3;.", 3}, {"r1=?;>1|r2@0:r1;r3=?;!r3;.", 3},
		// copies, and copies of copies, also in blocks that stand ahead in the text
		{"r1=1;r2=r1;r3=r2;!r3;!r1;.", 3}, {"r1=1;>3|r4=r3;!r4;>2|.|r2=r1;r3=r2;>1", 2}, {"r1=?;r2=r1;r2?0:0", 1}, {"r1=?;r2=r1;r3=r2+r1;!r3;.", 3},
		// choices of one register, of it and their own, and those that only copies tell apart
		{"r1=?;>1|r2@0:r1;!r2;.", 2}, {"r1=?;r1?1:2|>3|>3|r2@1:r1,2:r1;!r2;.", 2}, {"r1=?;>1|r2@0:r1,1:r2;!r2;>1", 2}, {"r1=?;r1?1:2|r3=r1;>3|>3|r2@1:r3,2:r1;!r2;.", 2}, {"r1=5;>1|r2@0:r1,1:r3;r3=r2;!r2;>1", 2},
		// one choice less makes another one less, whichever stands first
		{"r1=?;>1|r2@0:r1,1:r3;r3@0:r1,1:r3;!r2;>1", 2}, {"r1=?;>1|r3@0:r1,1:r3;r2@0:r1,1:r3;!r2;>1", 2}, {"r1=?;r1?1:2|r2@0:r1,2:r4;!r2;>2|r3@0:r1,1:r2;r4=r3;!r3;>1", 5},
		// a true choice stays
		{"r1=?;r2=?;r1?1:2|>3|>3|r3@1:r1,2:r2;!r3;.", 4}, {"r1=?;>1|r2@0:r1,1:r3;r3=?;!r2;>1", 4},
		// in block 0 a choice stays that is wanted, for it is 0 at first
		{"r1@0:r2;!r1;r2=5;>0", 3}, {"r1@0:r2,1:r2;!r1;r2=5;r2?0:1|>0", 3}, {"r1@0:r1;!r1;>0", 2}, {"r1@0:r2;r2=5;>0", 0}, {"r1@0:r2;r2=r1;!r2;>0", 2}, {"r1@1:r9;!r1;.|>0", 2},
		// blocks to which one does not come: what is chosen from there does not count
		{"r1=?;>2|!r9;>2|r2@0:r1,1:r9;!r2;.", 2}, {"r1=?;>2|r9=1;>2|r2@0:r1,1:r9;!r2;.", 2}, {"r9=1;>2|!r9;>2|.", 0}, {"r1=?;r2=3;r1?2:3|>4|>4|>4|r3@1:r9,2:r1,3:r2;!r3;.", 4}, {".|r1=r1;r2?1:1", 0},
	} {
		made := testLean(t, m, c.text)
		if got := strings.Count(made, ";"); got != c.left {
			t.Errorf("Lean(%q) = %q: %d choices and steps, want %d", c.text, made, got, c.left)
		}
	}
}

func TestLeanOfMadeUp(t *testing.T) {
	m := maker{rand.New(rand.NewSource(22))}
	for range 1200 {
		testLean(t, m, m.single(12, 0))
	}
	for range 1000 {
		if text := m.program(); len(text) <= 300 {
			testLean(t, m, testMake(t, m, text))
		}
	}
}

// TestLeanOfMuch turns texts that come near to the bounds.
func TestLeanOfMuch(t *testing.T) {
	m := maker{rand.New(rand.NewSource(23))}
	for _, c := range []struct {
		text string
		left int
	}{
		// no longer name may take the place of a shorter one
		{"r4999=?;r1=r4999;" + strings.Repeat("!r1;", 9995) + ".", 9996},
		{"r4999=?;>1|r4998@0:r4999;r1=r4998;" + strings.Repeat("!r1;", 9991) + ".", 9992},
		// long chains of copies, of what nobody wants, and of choices, in and against the order of the text
		{"r0=?;" + chain(3400, "r%[1]d=r%[2]d;", 1, 0) + "!r3400;.", 2},
		{"r0=?;" + chain(2300, "r%[1]d=r%[2]d*r%[2]d;", 1, 0) + ".", 1},
		{"r4999=?;>1|r0@0:r4999,1:r0;" + chain(1800, "r%[1]d@0:r4999,1:r%[2]d;", 1, 0) + "!r1800;>1", 2},
		{"r4999=?;>1|" + chain(1800, "r%[1]d@0:r4999,1:r%[2]d;", 0, 1) + "r1800@0:r4999,1:r1800;!r0;>1", 2},
		{"r4999=?;>1|" + chain(1800, "r%[1]d@0:r4999,1:r%[2]d;", 0, 1) + "r1800=?;!r1790;>1", 13},
	} {
		made := testLean(t, m, c.text)
		if got := strings.Count(made, ";"); got != c.left {
			t.Errorf("Lean(%.60q..) = %.60q..: %d choices and steps, want %d", c.text, made, got, c.left)
		}
	}
}

// chain writes a part so many times, with the numbers of two registers, which rise.
func chain(count int, part string, to, from int) string {
	var text strings.Builder
	for i := range count {
		fmt.Fprintf(&text, part, to+i, from+i)
	}
	return text.String()
}

// overOld lists texts that are refused for a register that is too great.
func overOld() []checkCase {
	return []checkCase{
		{"r5000=1;.", solo.ErrReg, 0}, {"!r1;r5000=1;.", solo.ErrReg, 4}, {"r1=r5000;.", solo.ErrReg, 3}, {"r1=r9999+r2;.", solo.ErrReg, 3}, {"r1=r2<r5000;.", solo.ErrReg, 6}, {"!r5000;.", solo.ErrReg, 1}, {"r5000=?;.", solo.ErrReg, 0}, {"r5000?0:0", solo.ErrReg, 0},
		{">1|r5000@0:r1;.", solo.ErrReg, 3}, {">1|r1@0:r5000;.", solo.ErrReg, 8}, {"r0=1;r0?1:1|r2@0:r1,1:r5000;>1", solo.ErrReg, 22},
		// the first in the text, also where one does not come, and ahead of what is not single
		{"r1=r5001×r5000;r5000=r5001;.", solo.ErrReg, 3}, {".|!r1;r5000?1:1", solo.ErrReg, 6}, {"!r1;r2=1;r2=1;!r5000;.", solo.ErrReg, 15},
	}
}

func TestLeanErrors(t *testing.T) {
	cases := append(overSingle(), overOld()...)
	cases = append(cases, []checkCase{
		{"r1=1;r1=1;.", solo.ErrTwice, 5}, {"!r1;.", solo.ErrUse, 1}, {"!r9;r1=1;r1=1;.", solo.ErrTwice, 9}, {"r4999=1;.", solo.OK, 0},
		// too many bytes are told ahead of a register that is too great
		{"!r5000;" + longText(39994), solo.ErrLong, 0}, {"!r5000;" + longText(39993), solo.ErrReg, 1}, {"r1=1;" + longText(39995), solo.OK, 0},
	}...)
	for _, c := range cases {
		made, errno, at := solo.Lean(c.text)
		if (made == "") != (c.want != solo.OK) || errno != c.want || at != c.at {
			t.Errorf("Lean(%.40q), %d bytes: %.40q, %d, %d, want the error %d, %d", c.text, len(c.text), made, errno, at, c.want, c.at)
		}
	}
}

// TestSlowFat holds the second reading itself against programs that are not lean.
func TestSlowFat(t *testing.T) {
	for _, c := range []struct{ text, want string }{
		{"r1=1;!r1;.", ""}, {"r1=1;.", "r1=1"}, {"r1=?;r2=r1;!r2;.", "r2=r1"}, {"r1=?;.", ""}, {"r1=1;>1|r2@0:r1;!r2;.", "r2@0:r1"}, {"r1=1;>1|r2@0:r1,1:r2;!r2;>1", "r2@0:r1,1:r2"}, {"r1=1;>1|r2@0:r1,1:r3;r3=r2+r2;>1", "r1=1"}, {"r1@0:r2;!r1;r2=5;>0", ""}, {"r1@0:r2;r2=?;>0", "0r1@0:r2"}, {"r1=?;>2|>2|r2@0:r1,1:r9;!r2;.", "r2@0:r1"},
	} {
		if got := slowFat(c.text); got != c.want {
			t.Errorf("slowFat(%q) = %q, want %q", c.text, got, c.want)
		}
	}
}
