package turn

import (
	"solo/code"
	"solo/flow"
)

// wants collects the registers that are wanted.
type wants struct {
	flow.Regs
	reads map[code.RegNumber][]code.Reg // for a register what is read to give it
}

// want puts registers in, and all that is read to give them.
func (w *wants) want(regs []code.Reg) {
	for _, reg := range regs {
		if w.Add(reg.Number) {
			w.want(w.reads[reg.Number])
		}
	}
}

// wanted finds the registers that are wanted in a single program.
func (g ground) wanted() flow.Regs {
	w := wants{reads: map[code.RegNumber][]code.Reg{}}
	var first []code.Reg // what is wanted by itself
	for i, block := range g.program {
		if !g.Reach(code.BlockNumber(i)) {
			continue
		}
		for _, choice := range block.Choices {
			w.reads[choice.To.Number] = g.chosen(choice)
		}
		for _, step := range block.Steps {
			if to, ok := step.Gives(); ok {
				w.reads[to.Number] = step.Reads()
			} else {
				first = append(first, step.Reads()...)
			}
		}
		first = append(first, block.End.Reads()...)
	}
	w.want(first)
	return w.Regs
}

// chosen lists what a choice reads, if one comes from the blocks to which one comes.
func (g ground) chosen(choice code.Choice) []code.Reg {
	var regs []code.Reg
	for _, source := range choice.Sources {
		if g.Reach(source.Block.Number) {
			regs = append(regs, source.Reg)
		}
	}
	return regs
}
