package solo_test

// P6: what is single.

import (
	"math/rand"
	"strings"
	"testing"

	"solo/solo"
)

func testSingle(t *testing.T, text string, want solo.Errno, wantAt int) {
	t.Helper()
	if got, at := solo.Single(text); got != want || at != wantAt {
		t.Errorf("Single(%.200q) = %d, %d, want %d, %d", text, got, at, want, wantAt)
	}
}

func TestSingle(t *testing.T) {
	for _, text := range []string{
		".", ">0", "r1=1;!r1;.", "r1=?;r2=r1;r3=r2+r1;!r3;r3?0:0",
		// given in a block over it: its keeper, and the keeper's
		"r1=1;>1|!r1;>2|!r1;r1?0:1", "r1=?;r1?1:2|>3|>3|!r1;.",
		// by a choice of the block, also of block 0
		"r1=1;>1|r2@0:r1,1:r2;!r2;r2?1:1", "r1@0:r2;!r1;r2=1;>0", "r1@1:r2;r1?1:1|r2=1;>0",
		// what a choice reads is read at the end of the other block: given by its steps, its choices, or over it
		"r0=0;r0?1:2|r1=1;>3|r2=2;>3|r3@1:r1,2:r2;!r3;.", "r0=0;>1|r1@0:r0,1:r2;r2=r1+r1;r2?1:2|.", "r0=0;>1|r1@0:r0,1:r1;r2@0:r0,1:r1;>1",
		// in a block to which one does not come anything may be read; and what a choice would read from there
		".|!r1;r2=r3+r4;r5?1:2|r6@1:r7;.", "r1=1;>2|!r9;>2|r2@0:r1,1:r8;!r2;.", ".|r1=r1;>1",
	} {
		testSingle(t, text, solo.OK, 0)
	}
}

func TestSingleTwice(t *testing.T) {
	for _, c := range []checkCase{
		{"r1=1;r1=1;.", solo.ErrTwice, 5}, {"r1=1;.|r1=?;.", solo.ErrTwice, 7}, {"r1=1;>1|r1@0:r1;.", solo.ErrTwice, 8}, {">1|r1@0:r1;r1=1;.", solo.ErrTwice, 11}, {">1|r1@0:r1;>2|r1@1:r1;.", solo.ErrTwice, 14},
		// also in blocks to which one does not come
		{".|r1=1;>2|r1=1;>1", solo.ErrTwice, 10}, {"r1=1;.|r1=1;>1", solo.ErrTwice, 7},
		// the first that gives again, whatever register was given first
		{"r1=1;r2=1;r2=1;r1=1;.", solo.ErrTwice, 10}, {"r1=1;r1=1;r1=1;.", solo.ErrTwice, 5},
		// ahead of what is read amiss, though that stands first
		{"!r9;r1=r8;r1=1;.", solo.ErrTwice, 10},
		// a register that is read is not given
		{"r1=1;!r1;!r1;r2=r1+r1;r1?0:0", solo.OK, 0},
		{"r12=1;r1=2;r121=3;r12=1;.", solo.ErrTwice, 18},
	} {
		testSingle(t, c.text, c.want, c.at)
	}
}

func TestSingleUse(t *testing.T) {
	for _, c := range []checkCase{
		// each way to read
		{"!r1;.", solo.ErrUse, 1}, {"r1=r2;.", solo.ErrUse, 3}, {"r1=1;r2=r3+r1;.", solo.ErrUse, 8}, {"r1=1;r2=r1+r3;.", solo.ErrUse, 11}, {"r1?0:0", solo.ErrUse, 0}, {">1|r1@0:r2;.", solo.ErrUse, 8},
		// by the step that reads it, or later in the block, it is not given ahead
		{"r1=r1;.", solo.ErrUse, 3}, {"r1=1;r2=r1×r2;.", solo.ErrUse, 12}, {"!r1;r1=1;.", solo.ErrUse, 1}, {">1|!r1;r1=1;>1", solo.ErrUse, 4},
		// a block that is not over it: of two ways one, a later one, one to which one does not come
		{"r0=0;r0?1:2|r1=1;>3|>3|!r1;.", solo.ErrUse, 24}, {">1|!r1;>2|r1=1;>1", solo.ErrUse, 4}, {">2|r1=1;>2|!r1;.", solo.ErrUse, 12},
		// what a choice reads: one way right, the other wrong; what a choice of the same block gives is there only at the end of it
		{"r0=0;r0?1:2|r1=1;>3|r2=2;>3|r3@1:r1,2:r1;!r3;.", solo.ErrUse, 38}, {"r0=0;r0?1:2|r1=1;>3|r2=2;>3|r3@1:r2,2:r2;!r3;.", solo.ErrUse, 33}, {"r0=0;>1|r1@0:r0;r2@0:r1;.", solo.ErrUse, 21}, {"r0=0;>1|r1@0:r1,1:r0;>1", solo.ErrUse, 13},
		// the choices of block 0 give, but read at the ends of others
		{"r1@1:r3;!r1;>1|r2=1;>0", solo.ErrUse, 5},
		// the first in the text
		{"r1=1;>2|!r8;>1|!r9;!r7;.", solo.ErrUse, 16}, {"r1=1;!r1;r2=r1+r3;!r4;.", solo.ErrUse, 15}, {"!r2;r2=1;!r2;!r3;.", solo.ErrUse, 1},
	} {
		testSingle(t, c.text, c.want, c.at)
	}
}

func TestSingleErrors(t *testing.T) {
	most := "r1=1;" + longText(39995)
	for _, c := range append(overSingle(), checkCase{most, solo.OK, 0}, checkCase{longText(40000), solo.ErrUse, 1}, checkCase{"r1=1;" + longText(39996), solo.ErrLong, 0}) {
		testSingle(t, c.text, c.want, c.at)
	}
	// too many bytes are told ahead of what is not single
	testSingle(t, "r1=1;r1=1;"+strings.Repeat("!r2;", 10000)+".", solo.ErrLong, 0)
}

func TestSingleAgainstSlowSingle(t *testing.T) {
	m := maker{rand.New(rand.NewSource(6))}
	seen := map[solo.Errno]int{}
	for i := range 4000 {
		text := m.single(8, i%12)
		want, wantAt := slowSingle(text)
		seen[want]++
		if i%12 == 0 && want != solo.OK {
			t.Fatalf("a made-up program without a fault: %q: %d, %d", text, want, wantAt)
		}
		testSingle(t, text, want, wantAt)
		if t.Failed() {
			return
		}
	}
	for range 1000 {
		text := m.program()
		want, wantAt := slowSingle(text)
		testSingle(t, text, want, wantAt)
	}
	for _, errno := range []solo.Errno{solo.OK, solo.ErrTwice, solo.ErrUse} {
		if seen[errno] < 300 {
			t.Errorf("only %d texts with the error %d", seen[errno], errno)
		}
	}
}
