package solo

import (
	"solo/code"
	"solo/flow"
	"solo/set"
)

// What stands for a block's keeper, where there is none.
const (
	noKeeper   = -1
	notReached = -2
)

func keepersOf(program code.Program) []int {
	paths := flow.PathsOf(program)
	keepers := make([]int, len(program))
	for i := range program {
		keepers[i] = keeperOf(paths, code.BlockNumber(i))
	}
	return keepers
}

func keeperOf(paths flow.Paths, block code.BlockNumber) int {
	if !paths.Reach(block) {
		return notReached
	}
	if keeper, ok := paths.Keeper(block); ok {
		return int(keeper)
	}
	return noKeeper
}

func rimsOf(program code.Program) [][]int {
	paths := flow.PathsOf(program)
	rims := make([]flow.Blocks, len(program))
	for i := range program {
		rims[i] = paths.Rim(code.BlockNumber(i))
	}
	return numbersOfAll(rims)
}

// notSingle tells why a program is not single, and where; OK, if it is.
func notSingle(program code.Program) (Errno, int) {
	if reg, found := flow.GivenTwice(program); found {
		return ErrTwice, reg.At
	}
	if reg, found := flow.ReadAmiss(program); found {
		return ErrUse, reg.At
	}
	return OK, 0
}

// number is what numbers blocks or registers.
type number interface {
	code.BlockNumber | code.RegNumber
}

// numbersOfAll lists for each set its numbers, rising.
func numbersOfAll[N number](sets []set.Set[N]) [][]int {
	lists := make([][]int, len(sets))
	for i, s := range sets {
		for _, n := range s.Items() {
			lists[i] = append(lists[i], int(n))
		}
	}
	return lists
}
