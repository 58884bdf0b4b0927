package flow

import (
	"slices"

	"solo/code"
	"solo/rounds"
	"solo/set"
)

// Regs is a set of registers.
type Regs = set.Set[code.RegNumber]

// mattering tells for each block the registers that matter at its beginning, as far as they are found.
type mattering []Regs

func (m mattering) Same(other mattering) bool {
	return slices.EqualFunc(m, other, Regs.Same)
}

// effect is what a block does by its steps and end: which registers it reads ahead of giving them, and which it gives.
type effect struct{ reads, gives Regs }

// Matters tells for each block of a program the registers that matter at its beginning, behind its choices.
func Matters(program code.Program) []Regs {
	return settled(program, func(block code.BlockNumber, found mattering) Regs {
		return atEnd(program, block, found)
	})
}

// Needs tells for each block of a program the registers of those that matter at its beginning that a step or an end reads, if only through choices. (What is read by choices alone matters, but nobody needs it.)
func Needs(program code.Program) []Regs {
	return settled(program, func(block code.BlockNumber, found mattering) Regs {
		return neededAtEnd(program, block, found)
	})
}

// settled finds the registers that matter at each block's beginning, from what later tells of those that matter at a block's end.
func settled(program code.Program, later func(block code.BlockNumber, found mattering) Regs) []Regs {
	effects := make([]effect, len(program))
	for i, block := range program {
		effects[i] = effectOf(block)
	}
	return rounds.Settle(make(mattering, len(program)), func(found mattering) mattering {
		next := make(mattering, len(program))
		for i, does := range effects {
			next[i] = does.reads.Union(later(code.BlockNumber(i), found).Minus(does.gives))
		}
		return next
	})
}

func effectOf(block code.Block) effect {
	var does effect
	for _, step := range block.Steps {
		does.read(step.Reads())
		if reg, ok := step.Gives(); ok {
			does.gives.Add(reg.Number)
		}
	}
	does.read(block.End.Reads())
	return does
}

func (e *effect) read(regs []code.Reg) {
	for _, reg := range regs {
		if !e.gives.Has(reg.Number) {
			e.reads.Add(reg.Number)
		}
	}
}

// atEnd tells the registers that matter at the end of a block, behind what the end itself reads.
func atEnd(program code.Program, block code.BlockNumber, found mattering) Regs {
	var regs Regs
	for _, next := range program[block].Behind().Items() {
		chosen, given := entry(program[next].Choices, block)
		regs = regs.Union(chosen).Union(found[next].Minus(given))
	}
	return regs
}

// entry tells which registers the choices of a block read, and which they give, if one comes from another block.
func entry(choices []code.Choice, from code.BlockNumber) (chosen, given Regs) {
	for _, choice := range choices {
		if reg, ok := choice.RegFrom(from); ok {
			chosen.Add(reg)
		}
		given.Add(choice.To.Number)
	}
	return chosen, given
}

// neededAtEnd tells the registers that are needed at the end of a block: those from which the needed ones of the blocks behind it come.
func neededAtEnd(program code.Program, block code.BlockNumber, found mattering) Regs {
	var regs Regs
	for _, next := range program[block].Behind().Items() {
		for _, reg := range found[next].Items() {
			regs.Add(program[next].Origin(reg, block))
		}
	}
	return regs
}
