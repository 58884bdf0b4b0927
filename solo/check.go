package solo

import (
	"slices"

	"solo/code"
	"solo/set"
)

const (
	maxText   = 200000
	maxSingle = 40000
	maxSource = 300
	maxBlocks = 12
	maxReg    = 9999
	maxOld    = 4999
	maxInput  = 20
	maxFuel   = 300
)

// read reads a text and looks it over; every call begins with it, so that all refuse alike.
func read(text string) (code.Program, Errno, int) {
	if len(text) > maxText {
		return nil, ErrLong, 0
	}
	program, at, ok := code.Read(text)
	if !ok {
		return nil, ErrText, at
	}
	if len(program) > maxBlocks {
		return nil, ErrMany, program[maxBlocks].At
	}
	if at, found := strayGoal(program); found {
		return nil, ErrGoal, at
	}
	if at, found := wrongChoice(program); found {
		return nil, ErrChoice, at
	}
	return program, OK, 0
}

// readUpTo reads a text of which some calls take no more than most bytes; that it has more is told only if all else is right.
func readUpTo(most int, text string) (code.Program, Errno, int) {
	program, fault, at := read(text)
	if fault == OK && len(text) > most {
		return nil, ErrLong, 0
	}
	return program, fault, at
}

// readOld reads a text of which some calls take no registers above maxOld.
func readOld(text string) (code.Program, Errno, int) {
	program, fault, at := readUpTo(maxSingle, text)
	if fault != OK {
		return nil, fault, at
	}
	if at, found := newReg(program); found {
		return nil, ErrReg, at
	}
	return program, OK, 0
}

// newReg finds the first register above maxOld.
func newReg(program code.Program) (int, bool) {
	for _, block := range program {
		for _, reg := range regsOf(block) {
			if reg.Number > maxOld {
				return reg.At, true
			}
		}
	}
	return 0, false
}

// regsOf lists all registers that a block names, in the order of the text.
func regsOf(block code.Block) []code.Reg {
	var regs []code.Reg
	for _, choice := range block.Choices {
		regs = append(regs, choice.To)
		for _, source := range choice.Sources {
			regs = append(regs, source.Reg)
		}
	}
	for _, step := range block.Steps {
		if to, ok := step.Gives(); ok {
			regs = append(regs, to)
		}
		regs = append(regs, step.Reads()...)
	}
	return append(regs, block.End.Reads()...)
}

// strayGoal finds the first number of a block that there is not.
func strayGoal(program code.Program) (int, bool) {
	for _, block := range program {
		for _, goal := range goalsOf(block) {
			if int(goal.Number) >= len(program) {
				return goal.At, true
			}
		}
	}
	return 0, false
}

// goalsOf lists all blocks that a block names, in the order of the text.
func goalsOf(block code.Block) []code.Goal {
	var goals []code.Goal
	for _, choice := range block.Choices {
		for _, source := range choice.Sources {
			goals = append(goals, source.Block)
		}
	}
	return append(goals, block.End.Goals()...)
}

// wrongChoice finds the first choice that is not as a program of choices has it.
func wrongChoice(program code.Program) (int, bool) {
	ahead := program.Ahead()
	for i, block := range program {
		if at, found := wrongChoiceOf(block, ahead[i].Items()); found {
			return at, true
		}
	}
	return 0, false
}

func wrongChoiceOf(block code.Block, ahead []code.BlockNumber) (int, bool) {
	var given set.Set[code.RegNumber]
	for _, choice := range block.Choices {
		if !slices.Equal(blocksOf(choice), ahead) || !given.Add(choice.To.Number) {
			return choice.To.At, true
		}
	}
	return 0, false
}

func blocksOf(choice code.Choice) []code.BlockNumber {
	blocks := make([]code.BlockNumber, len(choice.Sources))
	for i, source := range choice.Sources {
		blocks[i] = source.Block.Number
	}
	return blocks
}
