package turn

import (
	"slices"

	"solo/code"
)

// Plain makes a program without choices that does the same as one that names no register above the greatest.
//
// Each choice gets a register of its own above that. At the ends of the blocks ahead it is given what is to be chosen, and at the beginning of the block it is handed on: so what one choice gives spoils neither what another one reads nor what an end reads, and it does no harm where the end goes elsewhere. At the beginning of a run the new registers hold 0, as those do to which they are handed on.
func Plain(program code.Program, greatest code.RegNumber) code.Program {
	first := make([][]code.Step, len(program))
	last := make([][]code.Step, len(program))
	spare := code.Reg{Number: greatest}
	for i, block := range program {
		for _, choice := range block.Choices {
			spare.Number++
			first[i] = append(first[i], code.Copy{To: choice.To, From: spare})
			for _, source := range choice.Sources {
				from := source.Block.Number
				last[from] = append(last[from], code.Copy{To: spare, From: source.Reg})
			}
		}
	}
	made := make(code.Program, len(program))
	for i, block := range program {
		made[i] = code.Block{Steps: slices.Concat(first[i], block.Steps, last[i]), End: block.End}
	}
	return made
}
