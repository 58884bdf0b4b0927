package solo_test

// P4: keepers and rims.

import (
	"fmt"
	"math/rand"
	"strings"
	"testing"

	"solo/solo"
)

func testGraph(t *testing.T, text, keepers, rims string) {
	t.Helper()
	got, errno, at := solo.Keepers(text)
	if fmt.Sprint(got) != keepers || errno != solo.OK || at != 0 {
		t.Errorf("Keepers(%q) = %v, %d, %d, want %s", text, got, errno, at, keepers)
	}
	lists, errno, at := solo.Rims(text)
	if fmt.Sprint(lists) != rims || errno != solo.OK || at != 0 {
		t.Errorf("Rims(%q) = %v, %d, %d, want %s", text, lists, errno, at, rims)
	}
}

func TestGraphs(t *testing.T) {
	for _, c := range []struct{ text, keepers, rims string }{
		{".", "[-1]", "[[]]"},
		// block 0 has no keeper, though one comes back to it; it is of its own rim, if one does
		{">0", "[-1]", "[[0]]"}, {">1|>0", "[-1 0]", "[[0] [0]]"}, {"r1?0:1|.", "[-1 0]", "[[0] []]"},
		// a chain, which goes down and up
		{">1|>2|>3|.", "[-1 0 1 2]", "[[] [] [] []]"}, {">3|.|>1|>2", "[-1 2 3 0]", "[[] [] [] []]"},
		// two ways that come together; the one that only passes by
		{"r1?1:2|>3|>3|.", "[-1 0 0 0]", "[[] [3] [3] []]"}, {"r1?1:2|>2|.", "[-1 0 0]", "[[] [2] []]"}, {"r1?1:1|.", "[-1 0]", "[[] []]"},
		// two that come together below another block
		{">1|r1?2:3|>4|>4|>5|.", "[-1 0 1 1 1 4]", "[[] [] [4] [4] [] []]"},
		// a loop is of the rims of all that are in it, but for those over which nothing else of it is
		{">1|r1?2:3|>1|.", "[-1 0 1 1]", "[[] [1] [1] []]"}, {">1|r1?1:2|.", "[-1 0 1]", "[[] [1] []]"},
		// a loop into which one comes at two blocks
		{"r1?1:2|r1?2:3|>1|.", "[-1 0 0 1]", "[[] [2] [1] []]"},
		// to blocks to which one does not come one may go from one another; they make no rim, and take no keeper away
		{".|>2|>1", "[-1 -2 -2]", "[[] [] []]"}, {">1|>3|>3|.", "[-1 0 -2 1]", "[[] [] [] []]"}, {".|>0", "[-1 -2]", "[[] []]"}, {".|>1", "[-1 -2]", "[[] []]"}, {">2|>2|.", "[-1 -2 0]", "[[] [] []]"},
		// rims rise, with more than nine blocks too
		{"r0?10:11|.|.|.|.|.|.|.|.|.|r0?2:9|r0?9:2", "[-1 -2 0 -2 -2 -2 -2 -2 -2 0 0 0]", "[[] [] [] [] [] [] [] [] [] [] [2 9] [2 9]]"},
		// registers, steps and choices change nothing
		{"r1=0;r1?1:2|r1=r1;>2|r1@0:r1,1:r1;!r1;.", "[-1 0 0]", "[[] [2] []]"},
	} {
		testGraph(t, c.text, c.keepers, c.rims)
	}
}

// allEnds lists all ends of a block in a program of so many blocks.
func allEnds(blocks int) []string {
	ends := []string{"."}
	for i := range blocks {
		ends = append(ends, fmt.Sprint(">", i))
		for j := range blocks {
			ends = append(ends, fmt.Sprintf("r0?%d:%d", i, j))
		}
	}
	return ends
}

func TestAllSmallGraphs(t *testing.T) {
	for blocks := 1; blocks <= 3; blocks++ {
		texts := allEnds(blocks)
		for range blocks - 1 {
			var longer []string
			for _, text := range texts {
				for _, end := range allEnds(blocks) {
					longer = append(longer, text+"|"+end)
				}
			}
			texts = longer
		}
		for _, text := range texts {
			testGraph(t, text, slowKeepers(text), slowRims(text))
		}
	}
}

func TestGraphsAgainstSlowGraphs(t *testing.T) {
	m := maker{rand.New(rand.NewSource(4))}
	for range 1000 {
		ends := make([]string, 4+m.Intn(9))
		for i := range ends {
			ends[i] = m.end(len(ends))
		}
		text := strings.Join(ends, "|")
		testGraph(t, text, slowKeepers(text), slowRims(text))
	}
	for range 500 {
		text := m.program()
		testGraph(t, text, slowKeepers(text), slowRims(text))
	}
}

func TestGraphErrors(t *testing.T) {
	for _, c := range []checkCase{
		{strings.Repeat(".", 200001), solo.ErrLong, 0}, {"", solo.ErrText, 0}, {">0|", solo.ErrText, 3}, {strings.Repeat(">0|", 12) + ".", solo.ErrMany, 36}, {".|r1?0:2", solo.ErrGoal, 7}, {".|r1@0:r1;.", solo.ErrChoice, 2},
		// these take as many bytes as Check does
		{strings.Repeat("r1=1;", 39999) + "!r1;.", solo.OK, 0},
	} {
		keepers, errno, at := solo.Keepers(c.text)
		if (len(keepers) == 0) != (c.want != solo.OK) || errno != c.want || at != c.at {
			t.Errorf("Keepers(%.40q) = %v, %d, %d, want the error %d, %d", c.text, keepers, errno, at, c.want, c.at)
		}
		rims, errno, at := solo.Rims(c.text)
		if (len(rims) == 0) != (c.want != solo.OK) || errno != c.want || at != c.at {
			t.Errorf("Rims(%.40q) = %v, %d, %d, want the error %d, %d", c.text, rims, errno, at, c.want, c.at)
		}
	}
}
