package solo_test

// The second reading of P7 and P8: what a turned program must be is told from its text.

import (
	"fmt"
	"regexp"
	"slices"
	"strings"
	"testing"

	"solo/solo"
)

// slowParts lists the choices, steps and ends of the blocks to which one comes; a choice without what it chooses from other blocks.
func slowParts(text string) []string {
	blocks := strings.Split(text, "|")
	over := slowOver(blocks)
	var parts []string
	for i, block := range blocks {
		if over[i] == nil {
			continue
		}
		for _, part := range strings.Split(block, ";") {
			if to, sources, ok := strings.Cut(part, "@"); ok {
				list := slices.DeleteFunc(strings.Split(sources, ","), func(source string) bool { return over[atoi(source[:strings.Index(source, ":")])] == nil })
				part = to + "@" + strings.Join(list, ",")
				if i == 0 {
					part = "0" + part // marks a choice of block 0
				}
			}
			parts = append(parts, part)
		}
	}
	return parts
}

// slowClosure adds to some registers, round by round, what those parts read that counts, if it gives one of them.
func slowClosure(regs map[string]bool, parts []string, counts func(part string) bool) {
	for grown := true; grown; {
		grown = false
		for _, part := range parts {
			if !counts(part) || !regs[strings.TrimPrefix(slowGives(part), "0")] {
				continue
			}
			for _, reg := range slowRight(part) {
				grown = grown || !regs[reg]
				regs[reg] = true
			}
		}
	}
}

// slowRight lists the registers that a choice, step or end reads.
func slowRight(part string) []string {
	if _, sources, ok := strings.Cut(part, "@"); ok {
		part = sources
	}
	return slowReads(part)
}

func isChoice(part string) bool { return strings.Contains(part, "@") }

// slowIdle finds a choice that no step or end reads, not even through other choices; "", if there is none.
func slowIdle(text string) string {
	parts := slowParts(text)
	read := map[string]bool{}
	for _, part := range parts {
		if !isChoice(part) {
			for _, reg := range slowRight(part) {
				read[reg] = true
			}
		}
	}
	slowClosure(read, parts, isChoice)
	for _, part := range parts {
		if isChoice(part) && !read[strings.TrimPrefix(slowGives(part), "0")] {
			return part
		}
	}
	return ""
}

var copyForm = regexp.MustCompile(`\Ar[0-9]+=r[0-9]+\z`)

// slowFat finds a part for which a single program is not lean; "", if there is none.
func slowFat(text string) string {
	parts := slowParts(text)
	wanted := map[string]bool{}
	for _, part := range parts {
		if slowGives(part) == "" {
			for _, reg := range slowRight(part) {
				wanted[reg] = true
			}
		}
	}
	slowClosure(wanted, parts, func(string) bool { return true })
	for _, part := range parts {
		to := strings.TrimPrefix(slowGives(part), "0")
		unwanted := to != "" && !wanted[to] && !strings.HasSuffix(part, "=?")
		if unwanted || copyForm.MatchString(part) || slowNoChoice(part) {
			return part
		}
	}
	return ""
}

// slowNoChoice tells whether a part is a choice (but in block 0) of no more than one register and its own.
func slowNoChoice(part string) bool {
	if !isChoice(part) || part[0] == '0' {
		return false
	}
	others := slices.DeleteFunc(slowRight(part), func(reg string) bool { return reg == slowGives(part) })
	slices.Sort(others)
	return len(slices.Compact(others)) < 2
}

// slowEnds tells how the blocks end, without registers.
func slowEnds(text string) string {
	var ends []string
	for _, block := range strings.Split(text, "|") {
		end := block[strings.LastIndex(block, ";")+1:]
		ends = append(ends, regPattern.ReplaceAllString(end, "r"))
	}
	return fmt.Sprint(ends)
}

func slowGreatest(text string) int {
	greatest := 0
	for _, reg := range regPattern.FindAllString(text, -1) {
		greatest = max(greatest, atoi(reg[1:]))
	}
	return greatest
}

// testTurned tests what holds for all programs that are turned: no error, the same ends, bounds, and that they do the same.
func testTurned(t *testing.T, m maker, call, old, made string, errno solo.Errno, at int) {
	t.Helper()
	most, greatest := 40000, 4999
	if call == "Plain" {
		most, greatest = 200000, 9999
	}
	if errno != solo.OK || at != 0 {
		t.Fatalf("%s(%.900q): the error %d, %d", call, old, errno, at)
	}
	if errno, at := solo.Check(made); errno != solo.OK {
		t.Fatalf("%s(%.900q) = %.900q: Check: %d, %d", call, old, made, errno, at)
	}
	if slowEnds(old) != slowEnds(made) {
		t.Fatalf("%s(%.900q) = %.900q: it ends otherwise", call, old, made)
	}
	if len(made) > most || slowGreatest(made) > greatest {
		t.Fatalf("%s(%.900q): %d bytes, registers up to %d", call, old, len(made), slowGreatest(made))
	}
	testSame(t, m, call, old, made)
}

// testSame runs two programs at some inputs and fuels.
func testSame(t *testing.T, m maker, call, old, made string) {
	t.Helper()
	for round := range 4 {
		input := make([]int, []int{20, 0, 20, 3}[round])
		for i := range input {
			input[i] = []int{0, 0, 1, -1, 2, m.Intn(99) - 50, int(m.Uint64())}[m.Intn(7)]
		}
		for _, fuel := range []int{m.Intn(4), m.Intn(12), 300} {
			want := ran(old, input, fuel)
			if got := ran(made, input, fuel); got != want {
				t.Fatalf("%s(%.900q) = %.900q: it does %s, not %s, the input %v, the fuel %d", call, old, made, got, want, input, fuel)
			}
		}
	}
}

func ran(text string, input []int, fuel int) string {
	return fmt.Sprint(solo.Run(text, input, fuel))
}
