package solo_test

// P8: programs are made plain.

import (
	"fmt"
	"math/rand"
	"slices"
	"strings"
	"testing"

	"solo/solo"
)

func testPlain(t *testing.T, m maker, text string) {
	t.Helper()
	made, errno, at := solo.Plain(text)
	testTurned(t, m, "Plain", text, made, errno, at)
	if strings.Contains(made, "@") {
		t.Fatalf("Plain(%.900q) = %.900q: a choice", text, made)
	}
}

func TestPlain(t *testing.T) {
	m := maker{rand.New(rand.NewSource(31))}
	for _, text := range []string{
		".", "!r1;r1=?;r2=r1×r1;!r2;r2?0:0", "r4999=1;!r4999;.", "r4999=7;>1|r1@0:r2;r2@0:r4999;!r1;!r2;!r4999;.", ".|r1=r1;r2?1:1",
		// two ways meet, and a loop
		"r1=?;r1?1:2|r2=5;>3|r3=7;>3|r4@1:r2,2:r3;!r4;.", "r1=?;>1|r2@0:r1,1:r3;!r2;r3=r2+r1;r3?1:2|!r3;.",
		// all at once: what one choice gives, another one reads, in each order and round about
		"r1=1;r2=2;>1|r1@0:r1,1:r2;r2@0:r2,1:r1;!r1;!r2;>1", "r1=1;r2=2;r3=3;>1|r1@0:r1,1:r2;r2@0:r2,1:r3;r3@0:r3,1:r1;!r1;!r2;!r3;>1", "r1=1;r2=2;>1|r1@0:r2;r3@0:r1;!r1;!r3;.", "r1=1;r2=2;>1|r3@0:r1;r1@0:r2;!r1;!r3;.",
		// what a choice gives is read behind the other way, or by the end itself
		"r1=?;>1|r2@0:r1,1:r3;r3=?;r3?1:2|!r2;!r3;.", "r1=?;!r1;>1|r1@0:r1,1:r2;r2=?;!r1;r1?1:2|!r1;.", "r1=?;r2=?;r1?1:2|r1@0:r2;!r1;.|!r1;.", "r1=?;r2=?;r1?1:2|r1@0:r2;!r1;.|r2@0:r1;!r1;!r2;.", "r1=?;r2=?;r1?1:1|r1@0:r2;!r1;.",
		// block 0 chooses nothing at the beginning
		"r1@0:r2;!r1;r2=5;>0", "r1@0:r2;r2@0:r1;!r1;!r2;r1=3;>0", "r1@1:r2;!r1;r9=?;r9?1:2|r2=r1+r9;>0|!r1;!r2;.",
		// neither single nor given at all
		">1|r1@0:r9;r2@0:r1;!r1;r1=2;!r1;!r2;.", "r1=1;r1?1:2|r1@0:r1,2:r2;!r1;r1=?;>2|r1@0:r2,1:r1;r2@0:r1,1:r3;!r1;!r2;r1=r1+r2;r3=?;>1",
		// one comes to a block also from where one does not come to
		"r1=?;>2|r9=1;>2|r2@0:r1,1:r9;!r2;.",
	} {
		testPlain(t, m, text)
	}
}

func TestPlainOfMadeUp(t *testing.T) {
	m := maker{rand.New(rand.NewSource(32))}
	for i := range 2000 {
		testPlain(t, m, m.programOf(1+m.Intn(3+i%10)))
	}
	for range 600 {
		testPlain(t, m, m.single(12, 0))
	}
	for range 600 {
		if text := m.program(); len(text) <= 300 {
			made := testMake(t, m, text)
			testPlain(t, m, made)
			testPlain(t, m, testLean(t, m, made))
		}
	}
}

// TestPlainOfMuch turns texts with as many choices, and as many sources, as they can have.
func TestPlainOfMuch(t *testing.T) {
	m := maker{rand.New(rand.NewSource(33))}
	for _, ends := range [][]string{
		// each block but the last has one or two behind it, and each one ahead
		{"r0?1:2", "r0?3:4", "r0?5:6", "r0?7:8", "r0?9:10", "r0?11:0", ".", ".", ".", ".", ".", "."},
		{">0"}, {">1", "."},
		{"r0?1:2", "r0?2:0", "r0?0:1"},
		{"r0?0:1", "r1?0:1", "r0?0:1", "r1?0:1", "r0?0:1", "r1?0:1", "r0?0:1", "r1?0:1", "r0?0:1", "r1?0:1", "r0?0:1", "r1?0:1"},
	} {
		text := fullOfChoices(ends)
		if errno, _ := solo.Check(text); errno != solo.OK || len(text) < 39800 {
			t.Fatalf("%.90q: %d, %d bytes", text, errno, len(text))
		}
		testPlain(t, m, text)
	}
}

// fullOfChoices makes a program of nearly 40000 bytes of choices.
func fullOfChoices(ends []string) string {
	texts := append([]string{}, ends...)
	size := len(strings.Join(texts, "|"))
	for reg := 0; reg < 5000; reg++ {
		for i := range texts {
			var sources []string
			for from, end := range ends {
				if slices.Contains(slowBehind(end), i) {
					sources = append(sources, fmt.Sprintf("%d:r%d", from, (reg+1)%10))
				}
			}
			if len(sources) == 0 {
				continue
			}
			choice := fmt.Sprintf("r%d@%s;", reg, strings.Join(sources, ","))
			if size+len(choice) > 40000 {
				return strings.Join(texts, "|")
			}
			size += len(choice)
			texts[i] = choice + texts[i]
		}
	}
	return strings.Join(texts, "|")
}

func TestPlainErrors(t *testing.T) {
	cases := append(overSingle(), overOld()...)
	cases = append(cases, []checkCase{
		// no program need be single
		{"r1=1;r1=1;.", solo.OK, 0}, {"!r1;.", solo.OK, 0}, {"r4999=1;.", solo.OK, 0},
		// too many bytes are told ahead of a register that is too great
		{"!r5000;" + longText(39994), solo.ErrLong, 0}, {"!r5000;" + longText(39993), solo.ErrReg, 1}, {longText(40000), solo.OK, 0},
	}...)
	for _, c := range cases {
		made, errno, at := solo.Plain(c.text)
		if (made == "") != (c.want != solo.OK) || errno != c.want || at != c.at {
			t.Errorf("Plain(%.40q), %d bytes: %.40q, %d, %d, want the error %d, %d", c.text, len(c.text), made, errno, at, c.want, c.at)
		}
	}
}
