package turn

import (
	"slices"

	"solo/code"
	"solo/flow"
	"solo/rounds"
)

// Lean makes a single program lean, which must name no register above the greatest.
func Lean(program code.Program, greatest code.RegNumber) code.Program {
	merged := merge(groundOf(program), greatest)
	return drop(groundOf(merged))
}

// standing tells for each register the one that holds the same wherever it is read.
type standing []code.RegNumber

func (s standing) Same(other standing) bool { return slices.Equal(s, other) }

// of goes on to the register that stands for itself.
func (s standing) of(reg code.RegNumber) code.RegNumber {
	for s[reg] != reg {
		reg = s[reg]
	}
	return reg
}

// merge takes out the copies, and the choices between one register and nothing else, by letting one register stand for all that hold the same.
func merge(g ground, greatest code.RegNumber) code.Program {
	themselves := make(standing, greatest+1)
	for i := range themselves {
		themselves[i] = code.RegNumber(i)
	}
	stands := rounds.Settle(themselves, g.merged)
	name := stands.shortest()
	return g.turned(func(here code.BlockNumber) code.Block {
		return g.renamed(here, stands, name)
	})
}

// merged finds more registers for which others stand.
func (g ground) merged(stands standing) standing {
	next := slices.Clone(stands)
	for i, block := range g.program {
		here := code.BlockNumber(i)
		if !g.Reach(here) {
			continue
		}
		for _, choice := range block.Choices {
			// in block 0 a choice holds 0 at first, whatever it chooses later
			if one, ok := g.onlyOne(choice, next); ok && here != 0 {
				next[choice.To.Number] = one
			}
		}
		for _, step := range block.Steps {
			if same, ok := step.(code.Copy); ok {
				next[same.To.Number] = next.of(same.From.Number)
			}
		}
	}
	return next
}

// onlyOne finds the register that a choice chooses from all blocks to which one comes, but for where it chooses its own.
func (g ground) onlyOne(choice code.Choice, stands standing) (code.RegNumber, bool) {
	own := choice.To.Number
	one := own
	for _, source := range choice.Sources {
		from := stands.of(source.Reg.Number)
		if from == own || from == one || !g.Reach(source.Block.Number) {
			continue
		}
		if one != own {
			return 0, false
		}
		one = from
	}
	return one, one != own
}

// shortest names each register by the least number of all for which the same one stands, so that no name grows longer, and the text neither.
func (s standing) shortest() code.Naming {
	names := make([]code.RegNumber, len(s))
	for i := len(s) - 1; i >= 0; i-- {
		names[s.of(code.RegNumber(i))] = code.RegNumber(i)
	}
	return func(reg code.RegNumber) code.RegNumber { return names[s.of(reg)] }
}

// renamed makes a block anew, without what gives a register for which another one stands.
func (g ground) renamed(here code.BlockNumber, stands standing, name code.Naming) code.Block {
	old := g.program[here]
	made := code.Block{End: old.End.Renamed(name)}
	for _, choice := range old.Choices {
		if stands.of(choice.To.Number) == choice.To.Number {
			made.Choices = append(made.Choices, g.renamedChoice(choice, name))
		}
	}
	for _, step := range old.Steps {
		if _, ok := step.(code.Copy); !ok {
			made.Steps = append(made.Steps, step.Renamed(name, name))
		}
	}
	return made
}

func (g ground) renamedChoice(choice code.Choice, name code.Naming) code.Choice {
	made := code.Choice{To: code.Reg{Number: name(choice.To.Number)}}
	for _, source := range choice.Sources {
		made.Sources = append(made.Sources, g.source(source.Block.Number, name(source.Reg.Number)))
	}
	return made
}

// drop takes out the choices, and the steps other than ?, that give what is not wanted.
func drop(g ground) code.Program {
	wanted := g.wanted()
	return g.turned(func(here code.BlockNumber) code.Block {
		block := g.program[here]
		made := code.Block{End: block.End}
		for _, choice := range block.Choices {
			if wanted.Has(choice.To.Number) {
				made.Choices = append(made.Choices, choice)
			}
		}
		for _, step := range block.Steps {
			if staying(step, wanted) {
				made.Steps = append(made.Steps, step)
			}
		}
		return made
	})
}

func staying(step code.Step, wanted flow.Regs) bool {
	if _, takes := step.(code.Take); takes {
		return true
	}
	to, gives := step.Gives()
	return !gives || wanted.Has(to.Number)
}
