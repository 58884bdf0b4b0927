package solo_test

// P7: programs are made single.

import (
	"fmt"
	"math/rand"
	"strings"
	"testing"

	"solo/solo"
)

func testMake(t *testing.T, m maker, text string) string {
	t.Helper()
	made, errno, at := solo.Make(text)
	testTurned(t, m, "Make", text, made, errno, at)
	if errno, at := solo.Single(made); errno != solo.OK {
		t.Fatalf("Make(%q) = %q: Single: %d, %d", text, made, errno, at)
	}
	if idle := slowIdle(made); idle != "" {
		t.Fatalf("Make(%q) = %q: nobody reads what %s chooses", text, made, idle)
	}
	return made
}

func TestMake(t *testing.T) {
	m := maker{rand.New(rand.NewSource(11))}
	for _, c := range []struct {
		text    string
		choices int
	}{
		{".", 0}, {"r1=1;r1=r1+r1;!r1;r1=?;!r1;.", 0}, {"r9999=1;!r9999;r8=r9999×r9999;!r8;.", 0},
		// what is read ahead of being given is 0: in block 0, in a later one, behind one of two ways
		{"!r1;r2=r3+r4;!r2;.", 0}, {">1|!r1;.", 0}, {"r1?0:0", 0}, {"r1=?;r1?1:2|r2=5;>2|!r2;.", 1}, {"r1=r1;!r1;.", 0},
		// two ways meet
		{"r1=?;r1?1:2|r2=5;>3|r2=7;>3|!r2;.", 1}, {"r1=?;r1?1:2|r2=5;>3|r3=7;>3|!r2;!r3;.", 2}, {"r1=?;r1?1:1|!r1;.", 0},
		// where they meet, nobody reads it any more, or it is given first
		{"r1=?;r1?1:2|r2=5;!r2;>3|r2=7;!r2;>3|!r1;.", 0}, {"r1=?;r1?1:2|r2=5;!r2;>3|r2=7;!r2;>3|r2=1;!r2;.", 0},
		// a loop, one that is entered in the midst, and one back to block 0
		{"r1=5;r3=1;>1|r2=r2+r1;r1=r1-r3;!r2;r1?1:2|!r1;!r2;.", 2}, {"r9=?;r9?1:2|r1=r1+r9;!r1;>2|r2=?;r2?1:3|!r1;.", 2}, {"!r1;r1=?;r1?0:1|!r1;.", 1}, {"!r1;r2=?;r2?1:2|r1=r2;>0|!r1;.", 1}, {"r2=?;!r2;!r1;>0", 0},
		// choices meet further on
		{"r1=?;r1?1:2|r2=5;>3|r2=7;>3|r1=?;r1?4:5|r2=6;>5|!r2;.", 2},
		// of programs that have choices: all at once, of block 0, of what is never read
		{"r1=1;r2=2;>1|r1@0:r1,1:r2;r2@0:r2,1:r1;!r1;r9=?;r9?1:2|!r2;.", 2}, {"r1@1:r2;!r1;r9=?;r9?1:2|r2=r1+r9;>0|!r1;!r2;.", 2}, {"r1=1;r2=2;>1|r3@0:r1;r1@0:r2;!r1;!r3;.", 2}, {"r1=?;>1|r2@0:r1,1:r2;r3@0:r1,1:r4;r4@0:r1,1:r3;!r1;>1", 0}, {"r1=?;>1|r2@0:r1,1:r3;r3@0:r1,1:r2;!r2;>1", 2}, {"r1=?;>1|r2@0:r1;>2|r3@1:r2;!r3;.", 2},
		// what only a choice reads that nobody reads, is not chosen on the way there either
		{"r1=?;r1?1:2|r2=5;>3|r2=7;>3|r1?4:4|r5@3:r2;!r1;.", 0},
		// blocks to which one does not come: they count neither as giving nor as reading
		{"r1=?;>2|r1=2;>2|!r1;.", 0}, {"r1=?;r1?2:3|!r2;>5|r2=1;>4|r2=2;>4|>5|!r1;.", 0}, {"r1=?;r1?2:3|r2=r2;!r2;r7?1:4|r2=1;>4|r2=2;>4|!r2;.", 1}, {"r1@1:r2;!r1;.|r2=1;>0", 1}, {".|!r1;r1=1;r1=2;>1", 0},
	} {
		made := testMake(t, m, c.text)
		if got := strings.Count(made, "@"); got != c.choices {
			t.Errorf("Make(%q) = %q: %d choices, want %d", c.text, made, got, c.choices)
		}
	}
}

func TestMakeOfMadeUp(t *testing.T) {
	m := maker{rand.New(rand.NewSource(12))}
	count := 0
	for i := range 4000 {
		text := m.programOf(1 + m.Intn(6+i%7))
		if i%8 == 0 {
			text = m.single(6, 3)
		}
		if len(text) <= 300 {
			count++
			testMake(t, m, text)
		}
	}
	if count < 2000 {
		t.Errorf("only %d texts that Make takes", count)
	}
}

// TestMakeOfMany turns texts of 300 bytes that give and read many registers in many blocks.
func TestMakeOfMany(t *testing.T) {
	m := maker{rand.New(rand.NewSource(13))}
	for _, blocks := range []int{2, 3, 4, 6, 8, 10, 12} {
		texts := make([]string, blocks)
		for i := range texts {
			texts[i] = fmt.Sprintf("r0?%d:%d", (i+1)%blocks, (i*5+3)%blocks)
		}
		for reg := 0; ; reg++ {
			more := append([]string{}, texts...)
			more[reg%blocks] = fmt.Sprintf("r%d=?;", reg) + more[reg%blocks]
			more[(reg+1)%blocks] = fmt.Sprintf("!r%d;", reg) + more[(reg+1)%blocks]
			if len(strings.Join(more, "|")) > 300 {
				break
			}
			texts = more
		}
		testMake(t, m, strings.Join(texts, "|"))
	}
}

func TestMakeErrors(t *testing.T) {
	long := strings.Repeat("!r1;", 75)
	for _, c := range []checkCase{
		{"", solo.ErrText, 0}, {"!r1", solo.ErrText, 3}, {strings.Repeat(".|", 12) + ".", solo.ErrMany, 24}, {">1", solo.ErrGoal, 1}, {".|r1@0:r1;.", solo.ErrChoice, 2},
		{longText(300), solo.OK, 0}, {longText(299), solo.OK, 0}, {longText(301), solo.ErrLong, 0}, {longText(40001), solo.ErrLong, 0}, {longText(200001), solo.ErrLong, 0},
		// the errors of Check are named first
		{long + "x", solo.ErrText, 300}, {long, solo.ErrText, 300}, {long + ">1", solo.ErrGoal, 301}, {long + ".|r1@0:r1;.", solo.ErrChoice, 302}, {long + strings.Repeat(".|", 12) + ".", solo.ErrMany, 324},
		// no program need be single, and no register is too great
		{"!r1;r2=1;r2=1;.", solo.OK, 0}, {"r9999=r5000;.", solo.OK, 0},
	} {
		made, errno, at := solo.Make(c.text)
		if (made == "") != (c.want != solo.OK) || errno != c.want || at != c.at {
			t.Errorf("Make(%.40q), %d bytes: %q, %d, %d, want the error %d, %d", c.text, len(c.text), made, errno, at, c.want, c.at)
		}
	}
}

// TestSlowIdle holds the second reading itself against programs with choices that nobody reads.
func TestSlowIdle(t *testing.T) {
	for _, c := range []struct{ text, want string }{
		{"r1=1;>1|r2@0:r1;!r2;.", ""}, {"r1=1;>1|r2@0:r1;.", "r2@0:r1"}, {"r1=1;>1|r2@0:r1;r3=r2;.", ""}, {"r1=1;>1|r2@0:r1;>2|r3@1:r2;.", "r2@0:r1"}, {"r1=1;>1|r2@0:r1;>2|r3@1:r2;!r3;.", ""}, {"r1=1;>1|r2@0:r1,1:r2;>1", "r2@0:r1,1:r2"}, {"r1=1;>1|r2@0:r1;.|!r2;.", "r2@0:r1"}, {"r1@0:r2;r2=1;>0", "0r1@0:r2"},
	} {
		if got := slowIdle(c.text); got != c.want {
			t.Errorf("slowIdle(%q) = %q, want %q", c.text, got, c.want)
		}
	}
}
