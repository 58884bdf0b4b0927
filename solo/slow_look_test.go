package solo_test

// The second reading of P4 to P6: over is told from all paths without a loop, what matters by going on from block to block for one register at a time, what is single from the places in the text.

import (
	"cmp"
	"fmt"
	"regexp"
	"slices"
	"strings"

	"solo/solo"
)

// slowOver tells for each block the blocks over it; none, if one does not come to it.
func slowOver(blocks []string) [][]int {
	over := make([][]int, len(blocks))
	var walk func(path []int)
	walk = func(path []int) {
		here := path[len(path)-1]
		if over[here] == nil {
			over[here] = slices.Clone(path)
		}
		over[here] = slices.DeleteFunc(over[here], func(block int) bool { return !slices.Contains(path, block) })
		for _, next := range slowBehind(blocks[here]) {
			if !slices.Contains(path, next) {
				walk(append(slices.Clone(path), next))
			}
		}
	}
	walk([]int{0})
	for i := range over {
		slices.Sort(over[i])
	}
	return over
}

func slowKeepers(text string) string {
	over := slowOver(strings.Split(text, "|"))
	keepers := make([]int, len(over))
	for i := range over {
		keepers[i] = slowKeeper(over, i)
	}
	return fmt.Sprint(keepers)
}

// slowKeeper: of the others over a block, the one over which the most are.
func slowKeeper(over [][]int, block int) int {
	if block == 0 {
		return -1
	}
	keeper := -2
	for _, other := range over[block] {
		if other != block && (keeper == -2 || len(over[other]) > len(over[keeper])) {
			keeper = other
		}
	}
	return keeper
}

func slowRims(text string) string {
	blocks := strings.Split(text, "|")
	over := slowOver(blocks)
	rims := make([][]int, len(blocks))
	for i := range blocks {
		for other := range blocks {
			if slices.Contains(over[other], i) && other != i {
				continue
			}
			for ahead := range blocks {
				if slices.Contains(over[ahead], i) && slices.Contains(slowBehind(blocks[ahead]), other) && !slices.Contains(rims[i], other) {
					rims[i] = append(rims[i], other)
				}
			}
		}
	}
	return fmt.Sprint(rims)
}

var regPattern = regexp.MustCompile(`r[0-9]+`)

// slowReads lists the registers that a step or end reads.
func slowReads(part string) []string {
	if _, right, ok := strings.Cut(part, "="); ok {
		part = right
	}
	return regPattern.FindAllString(part, -1)
}

func slowGives(part string) string {
	return part[:max(0, strings.IndexAny(part, "@="))]
}

func slowMatters(text string) string {
	blocks := strings.Split(text, "|")
	regs := regPattern.FindAllString(text, -1)
	slices.SortFunc(regs, func(a, b string) int { return cmp.Compare(atoi(a[1:]), atoi(b[1:])) })
	regs = slices.Compact(regs)
	lists := make([][]int, len(blocks))
	for i := range blocks {
		for _, reg := range regs {
			if slowMattersAt(blocks, i, reg, map[int]bool{}) {
				lists[i] = append(lists[i], atoi(reg[1:]))
			}
		}
	}
	return fmt.Sprint(lists)
}

func slowMattersAt(blocks []string, here int, reg string, been map[int]bool) bool {
	if been[here] {
		return false
	}
	been[here] = true
	for _, part := range strings.Split(blocks[here], ";") {
		if strings.Contains(part, "@") {
			continue
		}
		if slices.Contains(slowReads(part), reg) {
			return true
		}
		if slowGives(part) == reg {
			return false
		}
	}
	for _, next := range slowBehind(blocks[here]) {
		reads, gives := slowEntry(blocks[next], here, reg)
		if reads || !gives && slowMattersAt(blocks, next, reg, been) {
			return true
		}
	}
	return false
}

// slowEntry tells whether the choices of a block read a register, if one comes from another block, and whether they give it.
func slowEntry(block string, from int, reg string) (reads, gives bool) {
	for _, part := range strings.Split(block, ";") {
		to, sources, ok := strings.Cut(part, "@")
		if !ok {
			continue
		}
		reads = reads || strings.Contains(","+sources+",", fmt.Sprintf(",%d:%s,", from, reg))
		gives = gives || to == reg
	}
	return reads, gives
}

// slowUse is a register at a place of the text; when it is read or given, is told by the block and by the part of it (of parts that are choices: -1, at the end of the block: one behind all).
type slowUse struct {
	reg             string
	at, block, part int
}

// slowUses lists what is given and what is read, in the order of the text.
func slowUses(text string) (gives, reads []slowUse) {
	at := 0
	for i, block := range strings.Split(text, "|") {
		for j, part := range strings.Split(block, ";") {
			for n, found := range regPattern.FindAllStringIndex(part, -1) {
				use := slowUse{part[found[0]:found[1]], at + found[0], i, j}
				choice := strings.Contains(part, "@")
				switch {
				case n == 0 && choice:
					use.part = -1
					gives = append(gives, use)
				case n == 0 && strings.Contains(part, "="):
					gives = append(gives, use)
				case choice:
					number := part[strings.LastIndexAny(part[:found[0]], "@,")+1 : found[0]-1]
					use.block, use.part = atoi(number), len(text)
					reads = append(reads, use)
				default:
					reads = append(reads, use)
				}
			}
			at += len(part) + 1
		}
	}
	return gives, reads
}

func slowSingle(text string) (solo.Errno, int) {
	gives, reads := slowUses(text)
	for i, give := range gives {
		if slices.ContainsFunc(gives[:i], func(earlier slowUse) bool { return earlier.reg == give.reg }) {
			return solo.ErrTwice, give.at
		}
	}
	over := slowOver(strings.Split(text, "|"))
	for _, read := range reads {
		if over[read.block] != nil && !slices.ContainsFunc(gives, func(give slowUse) bool { return slowServes(over, give, read) }) {
			return solo.ErrUse, read.at
		}
	}
	return solo.OK, 0
}

func slowServes(over [][]int, give, read slowUse) bool {
	if give.reg != read.reg {
		return false
	}
	if give.block == read.block {
		return give.part < read.part
	}
	return slices.Contains(over[read.block], give.block)
}
