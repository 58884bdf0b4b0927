package solo_test

import (
	"math/rand"
	"strings"
	"testing"

	"solo/solo"
)

type checkCase struct {
	text string
	want solo.Errno
	at   int
}

func testChecks(t *testing.T, cases []checkCase) {
	t.Helper()
	for _, c := range cases {
		if got, at := solo.Check(c.text); got != c.want || at != c.at {
			t.Errorf("Check(%.80q) = %d, %d, want %d, %d", c.text, got, at, c.want, c.at)
		}
	}
}

func TestCheckTakesPrograms(t *testing.T) {
	testChecks(t, []checkCase{
		{".", solo.OK, 0}, {">0", solo.OK, 0}, {"r0?0:0", solo.OK, 0},
		{"r0=0;r9999=-9999;r1=r2;r3=r4+r5;r3=r4-r5;r3=r4*r5;r3=r4×r5;r3=r4<r5;r1=?;!r1;.", solo.OK, 0},
		{"r1?1:2|>2|r1@0:r2,1:r3;r2@0:r1,1:r1;.", solo.OK, 0},
		{"r1@0:r1;>0", solo.OK, 0},
		// a block to which one does not come is ahead of others too
		{">1|r1@0:r1,2:r1;.|>1", solo.OK, 0},
		// both ways of a fork to one block
		{"r1?1:1|r1@0:r2;.", solo.OK, 0},
		// the same register in choices of several blocks, and in steps beside a choice
		{">1|r1@0:r1;r1=1;r1=2;>2|r1@1:r1;.", solo.OK, 0},
	})
}

func TestCheckLong(t *testing.T) {
	whole := strings.Repeat("r1=1;", 39999) + "!r1;."
	if len(whole) != 200000 {
		t.Fatal(len(whole))
	}
	testChecks(t, []checkCase{
		{whole, solo.OK, 0},
		{whole[:199999], solo.ErrText, 199999},
		{whole + "|.", solo.ErrLong, 0},
		{strings.Repeat("x", 200000), solo.ErrText, 0},
		{strings.Repeat("x", 200001), solo.ErrLong, 0},
		{strings.Repeat(".|", 100000), solo.ErrText, 200000},
		{strings.Repeat("\xc3", 1<<22), solo.ErrLong, 0},
	})
}

func TestCheckText(t *testing.T) {
	testChecks(t, []checkCase{
		{"", solo.ErrText, 0}, {" .", solo.ErrText, 0}, {".\n", solo.ErrText, 1}, {"|.", solo.ErrText, 0}, {".|", solo.ErrText, 2}, {".||.", solo.ErrText, 2},
		{"\x00", solo.ErrText, 0}, {".\x00", solo.ErrText, 1}, {"\ufffd", solo.ErrText, 0}, {"R1?0:0", solo.ErrText, 0}, {"r٣?0:0", solo.ErrText, 1},
		// numbers
		{"r00=1;.", solo.ErrText, 2}, {"r01=1;.", solo.ErrText, 2}, {"r10000=1;.", solo.ErrText, 5}, {">00", solo.ErrText, 2}, {">10000", solo.ErrText, 5}, {"r1=-0;.", solo.ErrText, 4}, {"r1=-;.", solo.ErrText, 4}, {"r1=-", solo.ErrText, 4}, {"r1=-10000;.", solo.ErrText, 8}, {"r1=+1;.", solo.ErrText, 3}, {"r-1=1;.", solo.ErrText, 1}, {">-1", solo.ErrText, 1},
		// no choice behind a step, and none in the midst of an end
		{"!r1;r1@0:r1;>0", solo.ErrText, 6}, {"r1@0:r1;!r1;r2@0:r1;>0", solo.ErrText, 14}, {"r1@0:r1,>0", solo.ErrText, 8}, {"r1@0:r1:>0", solo.ErrText, 7}, {"r1@-1:r1;>0", solo.ErrText, 3},
		// ends end a block
		{".;", solo.ErrText, 1}, {">0;.", solo.ErrText, 2}, {"r1?0:0;.", solo.ErrText, 6}, {";.", solo.ErrText, 0}, {"!r1;;.", solo.ErrText, 4},
		// the text is no program ahead of all that is wrong otherwise
		{strings.Repeat(".|", 20) + "x", solo.ErrText, 40}, {">9999|x", solo.ErrText, 6}, {"r1@9:r1;x", solo.ErrText, 8},
	})
}

func TestCheckCross(t *testing.T) {
	testChecks(t, []checkCase{
		{"r1=r2×r3;.", solo.OK, 0}, {"r1=r2×", solo.ErrText, 7}, {"r1=r2××r3;.", solo.ErrText, 7},
		{"r1=r2\xc3", solo.ErrText, 6}, {"r1=r2\xc3r3;.", solo.ErrText, 6}, {"r1=r2\xc3\x96r3;.", solo.ErrText, 6}, {"r1=r2\xc3\xc3\x97r3;.", solo.ErrText, 6}, {"r1=r2\xc3\xff", solo.ErrText, 6},
		{"r1=r2\x97r3;.", solo.ErrText, 5}, {"r1=r2\xc2\x97r3;.", solo.ErrText, 5}, {"r1=r2\xff", solo.ErrText, 5}, {"r1=r2€r3;.", solo.ErrText, 5}, {"r1=r2\ufffdr3;.", solo.ErrText, 5},
		// where no operator may stand, its first byte is wrong already
		{"×", solo.ErrText, 0}, {"\xc3", solo.ErrText, 0}, {"r×", solo.ErrText, 1}, {"r1×", solo.ErrText, 2}, {"r1=×", solo.ErrText, 3}, {"r1=1\xc3", solo.ErrText, 4}, {"r1=r\xc3", solo.ErrText, 4}, {"r1=r2+r3\xc3\x97r4;.", solo.ErrText, 8}, {".\xc3", solo.ErrText, 1}, {"!r1×r2;.", solo.ErrText, 3},
	})
}

func TestCheckMany(t *testing.T) {
	twelve := strings.Repeat(".|", 11) + "."
	testChecks(t, []checkCase{
		{twelve, solo.OK, 0}, {twelve + "|.", solo.ErrMany, 24}, {twelve + "|r1?0:0|.", solo.ErrMany, 24},
		{strings.Repeat(">1|", 12) + "r1@9999:r1;>9999", solo.ErrMany, 36},
		// ahead of goals and choices that are wrong
		{">99|r1@5:r2;" + twelve, solo.ErrMany, 34},
		{strings.Repeat(">11|", 11) + ".", solo.OK, 0}, {strings.Repeat(">12|", 11) + ".", solo.ErrGoal, 1},
	})
}

func TestCheckGoal(t *testing.T) {
	testChecks(t, []checkCase{
		{">1", solo.ErrGoal, 1}, {"r1?0:1", solo.ErrGoal, 5}, {"r1?1:0", solo.ErrGoal, 3}, {"r1?9999:9998", solo.ErrGoal, 3}, {".|>1|>3", solo.ErrGoal, 6},
		{"r1@9:r1;>9", solo.ErrGoal, 3}, {"r1@0:r1,1:r1;>0", solo.ErrGoal, 8}, {"r1@0:r1;r2@0:r1,12:r2;>0", solo.ErrGoal, 16},
		// ahead of choices that are wrong, though they stand ahead of it
		{"r1@0:r1;.|>2", solo.ErrGoal, 11}, {">1|r1@0:r1;r1@0:r1;>2", solo.ErrGoal, 20},
		// a register is never too great
		{"r9999=r9999+r9999;.", solo.OK, 0},
	})
}

func TestCheckChoice(t *testing.T) {
	testChecks(t, []checkCase{
		// no block ahead
		{"r1@0:r1;.", solo.ErrChoice, 0}, {".|r1@0:r1;.", solo.ErrChoice, 2},
		// one too few, one too many, one twice, others, falling
		{"r1?1:2|>2|r1@0:r1;.", solo.ErrChoice, 10}, {">1|r1@0:r1,1:r1;.", solo.ErrChoice, 3}, {">1|r1@0:r1,0:r1;.", solo.ErrChoice, 3}, {">1|r1@1:r1;.", solo.ErrChoice, 3}, {"r1?1:2|>2|r1@1:r1,0:r2;.", solo.ErrChoice, 10},
		// the first that is wrong
		{">1|r1@0:r1;r2@1:r1;r3@1:r1;.", solo.ErrChoice, 11}, {">1|r1@0:r1;>2|r1@0:r1;.|r1@0:r1;.", solo.ErrChoice, 14},
		// a register given by an earlier choice of the block
		{">1|r2@0:r1;r2@0:r1;.", solo.ErrChoice, 11}, {">1|r2@0:r1;r3@0:r1;r2@0:r2;r3@0:r1;.", solo.ErrChoice, 19}, {">1|r0@0:r1;r0@1:r1;.", solo.ErrChoice, 11},
	})
}

func TestCheckAgainstSlowCheck(t *testing.T) {
	m := maker{rand.New(rand.NewSource(1))}
	seen := map[solo.Errno]int{}
	for range 6000 {
		text := m.program()
		switch m.Intn(3) {
		case 0:
			text = m.spoilt(text)
		case 1:
			text = m.misled(text)
		}
		want, wantAt := slowCheck(text)
		seen[want]++
		if got, at := solo.Check(text); got != want || at != wantAt {
			t.Fatalf("Check(%q) = %d, %d, want %d, %d", text, got, at, want, wantAt)
		}
	}
	for _, errno := range []solo.Errno{solo.OK, solo.ErrText, solo.ErrGoal, solo.ErrChoice} {
		if seen[errno] < 50 {
			t.Errorf("only %d texts with the error %d", seen[errno], errno)
		}
	}
}

func TestCheckAllShortTexts(t *testing.T) {
	signs := []string{"r", "0", "1", "=", ";", ".", "|", "?", ":", "@", ",", "!", ">", "-", "+", "×", "\xc3", "\x97", "x"}
	for _, begin := range []string{"", "r1=r1", "r1@0:r1", "r1?0"} {
		texts := []string{begin}
		for range 3 {
			var longer []string
			for _, text := range texts {
				for _, sign := range signs {
					longer = append(longer, text+sign)
				}
			}
			texts = longer
			for _, text := range texts {
				want, wantAt := slowCheck(text)
				if got, at := solo.Check(text); got != want || at != wantAt {
					t.Fatalf("Check(%q) = %d, %d, want %d, %d", text, got, at, want, wantAt)
				}
			}
		}
	}
}
