package flow

import "solo/code"

// atEntry stands for a step ahead of the first one: there choices give their registers.
const atEntry = -1

// spot is a place on a path: a block, and which of its steps; behind the last step stands the end.
type spot struct {
	block code.BlockNumber
	step  int
}

// use is a register where it is read or given.
type use struct {
	reg  code.Reg
	spot spot
}

// GivenTwice finds the first register that was given ahead of it in the text.
func GivenTwice(program code.Program) (code.Reg, bool) {
	var given Regs
	for _, giving := range givings(program) {
		if !given.Add(giving.reg.Number) {
			return giving.reg, true
		}
	}
	return code.Reg{}, false
}

// ReadAmiss finds the first register in the text that is read where it must not be, in a program that gives none twice.
func ReadAmiss(program code.Program) (code.Reg, bool) {
	givers := map[code.RegNumber]spot{}
	for _, giving := range givings(program) {
		givers[giving.reg.Number] = giving.spot
	}
	paths := PathsOf(program)
	for _, reading := range readings(program) {
		if !paths.Reach(reading.spot.block) {
			continue
		}
		giver, given := givers[reading.reg.Number]
		if !given || !paths.precede(giver, reading.spot) {
			return reading.reg, true
		}
	}
	return code.Reg{}, false
}

// precede tells whether one comes to a spot only through an earlier one.
func (p Paths) precede(earlier, later spot) bool {
	if earlier.block == later.block {
		return earlier.step < later.step
	}
	return p.Over(earlier.block, later.block)
}

// givings lists where registers are given, in the order of the text.
func givings(program code.Program) []use {
	var uses []use
	for i, block := range program {
		here := code.BlockNumber(i)
		for _, choice := range block.Choices {
			uses = append(uses, use{choice.To, spot{here, atEntry}})
		}
		for j, step := range block.Steps {
			if reg, ok := step.Gives(); ok {
				uses = append(uses, use{reg, spot{here, j}})
			}
		}
	}
	return uses
}

// readings lists where registers are read, in the order of the text; what a choice reads is read at the end of another block.
func readings(program code.Program) []use {
	var uses []use
	add := func(regs []code.Reg, at spot) {
		for _, reg := range regs {
			uses = append(uses, use{reg, at})
		}
	}
	for i, block := range program {
		here := code.BlockNumber(i)
		for _, choice := range block.Choices {
			for _, source := range choice.Sources {
				add([]code.Reg{source.Reg}, endOf(program, source.Block.Number))
			}
		}
		for j, step := range block.Steps {
			add(step.Reads(), spot{here, j})
		}
		add(block.End.Reads(), endOf(program, here))
	}
	return uses
}

func endOf(program code.Program, block code.BlockNumber) spot {
	return spot{block, len(program[block].Steps)}
}
