// Package turn: programs turned into others that do the same.
package turn

import (
	"solo/code"
	"solo/flow"
)

// anyReg stands where a register must be named, but nobody ever reads it: where one does not come.
const anyReg code.RegNumber = 0

// ground is a program to be turned, and how one comes through it.
type ground struct {
	flow.Paths
	program code.Program
}

func groundOf(program code.Program) ground {
	return ground{flow.PathsOf(program), program}
}

// turned makes a program of the same blocks, of which those to which one comes are turned, and the others keep nothing but their ends.
func (g ground) turned(turn func(block code.BlockNumber) code.Block) code.Program {
	made := make(code.Program, len(g.program))
	for i, block := range g.program {
		if here := code.BlockNumber(i); g.Reach(here) {
			made[i] = turn(here)
		} else {
			made[i].End = block.End.Renamed(unread)
		}
	}
	return made
}

func unread(code.RegNumber) code.RegNumber { return anyReg }

// source makes a source of a choice; from a block to which one does not come, nobody reads it.
func (g ground) source(from code.BlockNumber, reg code.RegNumber) code.Source {
	if !g.Reach(from) {
		reg = anyReg
	}
	return code.Source{Block: code.Goal{Number: from}, Reg: code.Reg{Number: reg}}
}
