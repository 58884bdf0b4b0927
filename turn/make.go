package turn

import (
	"maps"
	"slices"

	"solo/code"
	"solo/flow"
	"solo/rounds"
)

// zero is the new register for all that is read ahead of being given: it holds 0, as registers do at first.
const zero code.RegNumber = 0

// maker makes a program single: every giving gets a new register of its own.
type maker struct {
	ground
	ahead  []flow.Blocks
	needs  []flow.Regs                         // for each block the registers that are needed at its beginning
	chosen []map[code.RegNumber]code.RegNumber // for each block the registers that it must choose, and the new ones for them
	given  [][]code.RegNumber                  // for each block and step the new register that the step gives
}

// Make makes a single program that does the same as any other one.
func Make(program code.Program) code.Program {
	m := maker{ground: groundOf(program), ahead: program.Ahead(), needs: flow.Needs(program)}
	m.number()
	return m.turned(m.block)
}

// number gives out the new registers, in the order of the text.
func (m *maker) number() {
	last := zero
	places := m.places()
	for i, block := range m.program {
		chosen := map[code.RegNumber]code.RegNumber{}
		for _, reg := range places[i].Items() {
			last++
			chosen[reg] = last
		}
		given := make([]code.RegNumber, len(block.Steps))
		for j, step := range block.Steps {
			if _, ok := step.Gives(); ok {
				last++
				given[j] = last
			}
		}
		m.chosen = append(m.chosen, chosen)
		m.given = append(m.given, given)
	}
}

// places tells for each block the registers that it must choose: of those that are needed at its beginning, those that it chose already, and those of which several givings may meet there.
func (m *maker) places() []flow.Regs {
	meeting := map[code.RegNumber]flow.Blocks{}
	places := make([]flow.Regs, len(m.program))
	for i, needs := range m.needs {
		for _, reg := range needs.Items() {
			if _, ok := meeting[reg]; !ok {
				meeting[reg] = m.meet(reg)
			}
			if meeting[reg].Has(code.BlockNumber(i)) || m.program[i].Chooses(reg) {
				places[i].Add(reg)
			}
		}
	}
	return places
}

// meet finds the blocks where several givings of a register may meet: the rims of the blocks that give it, and of those where they meet, for a choice is a giving too.
func (m *maker) meet(reg code.RegNumber) flow.Blocks {
	givers := m.givers(reg)
	return rounds.Settle(flow.Blocks{}, func(met flow.Blocks) flow.Blocks {
		var rims flow.Blocks
		for _, block := range givers.Union(met).Items() {
			rims = rims.Union(m.Rim(block))
		}
		return rims
	})
}

// givers finds the blocks that give a register.
func (m *maker) givers(reg code.RegNumber) flow.Blocks {
	var givers flow.Blocks
blocks:
	for i, block := range m.program {
		here := code.BlockNumber(i)
		if block.Chooses(reg) {
			givers.Add(here)
			continue
		}
		for _, step := range block.Steps {
			if to, ok := step.Gives(); ok && to.Number == reg {
				givers.Add(here)
				continue blocks
			}
		}
	}
	return givers
}

// block makes the new block for one to which one comes.
func (m *maker) block(here code.BlockNumber) code.Block {
	old := m.program[here]
	made := code.Block{Choices: m.choices(here), End: old.End.Renamed(m.naming(here, len(old.Steps)))}
	if here == 0 && m.needsZero() {
		made.Steps = append(made.Steps, code.Load{To: code.Reg{Number: zero}, Value: 0})
	}
	for j, step := range old.Steps {
		given := func(code.RegNumber) code.RegNumber { return m.given[here][j] }
		made.Steps = append(made.Steps, step.Renamed(m.naming(here, j), given))
	}
	return made
}

// choices makes the choices of a block, in the order of the old registers.
func (m *maker) choices(here code.BlockNumber) []code.Choice {
	var choices []code.Choice
	for _, reg := range slices.Sorted(maps.Keys(m.chosen[here])) {
		choice := code.Choice{To: code.Reg{Number: m.chosen[here][reg]}}
		for _, from := range m.ahead[here].Items() {
			old := m.program[here].Origin(reg, from)
			choice.Sources = append(choice.Sources, m.source(from, m.atEnd(from, old)))
		}
		choices = append(choices, choice)
	}
	return choices
}

// needsZero tells whether something is read ahead of being given, and not chosen in block 0, where a choice holds 0 at first by itself.
func (m *maker) needsZero() bool {
	for _, reg := range m.needs[0].Items() {
		if _, ok := m.chosen[0][reg]; !ok {
			return true
		}
	}
	return false
}

// naming tells for registers the new ones that hold, ahead of a step of a block, what they held.
func (m *maker) naming(block code.BlockNumber, step int) code.Naming {
	return func(reg code.RegNumber) code.RegNumber { return m.name(block, step, reg) }
}

func (m *maker) atEnd(block code.BlockNumber, reg code.RegNumber) code.RegNumber {
	return m.name(block, len(m.program[block].Steps), reg)
}

// name finds the last giving of a register ahead of a step: in the block itself, or at the end of its keeper; for if another one came in between, the block would choose.
func (m *maker) name(block code.BlockNumber, step int, reg code.RegNumber) code.RegNumber {
	for j := step - 1; j >= 0; j-- {
		if to, ok := m.program[block].Steps[j].Gives(); ok && to.Number == reg {
			return m.given[block][j]
		}
	}
	if chosen, ok := m.chosen[block][reg]; ok {
		return chosen
	}
	if keeper, ok := m.Keeper(block); ok {
		return m.atEnd(keeper, reg)
	}
	return zero
}
