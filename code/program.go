// Package code: what a program is made of, and how it is read from its text.
package code

import (
	"slices"

	"solo/set"
)

// RegNumber is a register's number, BlockNumber a block's: two types, so that neither is taken for the other.
type RegNumber int

type BlockNumber int

// Reg is a register where a text names it.
type Reg struct {
	Number RegNumber
	At     int // the place of its r
}

// Goal is a block where a text names it.
type Goal struct {
	Number BlockNumber
	At     int // the place of its first digit
}

type Program []Block

type Block struct {
	At      int // the place of its first byte
	Choices []Choice
	Steps   []Step
	End     End
}

// Choice gives a register, when a block is entered, what another one held.
type Choice struct {
	To      Reg
	Sources []Source
}

// Source says which register is chosen, if one comes from a block.
type Source struct {
	Block Goal
	Reg   Reg
}

// Step is one of Load, Copy, Compute, Take and Put.
type Step interface {
	// Reads lists the registers that the step reads, in the order of the text.
	Reads() []Reg
	// Gives tells the register that the step gives; false, if it gives none.
	Gives() (Reg, bool)
	// Renamed makes the same step with other registers: some for those that it reads, some for those that it gives.
	Renamed(read, given Naming) Step
	text() string
}

// Load is the step reg = value.
type Load struct {
	To    Reg
	Value Word
}

// Copy is the step reg = reg.
type Copy struct{ To, From Reg }

// Compute is the step reg = reg op reg.
type Compute struct {
	To, Left Reg
	Op       Op
	Right    Reg
}

// Take is the step reg = ?.
type Take struct{ To Reg }

// Put is the step !reg.
type Put struct{ From Reg }

func (Load) Reads() []Reg      { return nil }
func (c Copy) Reads() []Reg    { return []Reg{c.From} }
func (c Compute) Reads() []Reg { return []Reg{c.Left, c.Right} }
func (Take) Reads() []Reg      { return nil }
func (p Put) Reads() []Reg     { return []Reg{p.From} }

func (l Load) Gives() (Reg, bool)    { return l.To, true }
func (c Copy) Gives() (Reg, bool)    { return c.To, true }
func (c Compute) Gives() (Reg, bool) { return c.To, true }
func (t Take) Gives() (Reg, bool)    { return t.To, true }
func (Put) Gives() (Reg, bool)       { return Reg{}, false }

// End is one of Stop, Jump and Fork.
type End interface {
	// Goals lists where the end may go, as the text names it.
	Goals() []Goal
	// Reads lists the registers that the end reads.
	Reads() []Reg
	// Renamed makes the same end with other registers.
	Renamed(read Naming) End
	text() string
}

// Stop is the end of a run.
type Stop struct{}

// Jump goes to one block.
type Jump struct{ To Goal }

// Fork goes to one of two blocks.
type Fork struct {
	If         Reg
	Then, Else Goal
}

func (Stop) Goals() []Goal   { return nil }
func (j Jump) Goals() []Goal { return []Goal{j.To} }
func (f Fork) Goals() []Goal { return []Goal{f.Then, f.Else} }

func (Stop) Reads() []Reg   { return nil }
func (Jump) Reads() []Reg   { return nil }
func (f Fork) Reads() []Reg { return []Reg{f.If} }

// Behind tells the blocks behind the block.
func (b Block) Behind() set.Set[BlockNumber] {
	var behind set.Set[BlockNumber]
	for _, goal := range b.End.Goals() {
		behind.Add(goal.Number)
	}
	return behind
}

// Ahead tells for each block the blocks that are ahead of it. Every goal of an end must be a block of the program.
func (p Program) Ahead() []set.Set[BlockNumber] {
	ahead := make([]set.Set[BlockNumber], len(p))
	for i, block := range p {
		for _, goal := range block.End.Goals() {
			ahead[goal.Number].Add(BlockNumber(i))
		}
	}
	return ahead
}

// Chooses tells whether a choice of the block gives the register.
func (b Block) Chooses(reg RegNumber) bool {
	return slices.ContainsFunc(b.Choices, func(choice Choice) bool { return choice.To.Number == reg })
}

// Origin tells which register's number a register holds behind the choices, if one comes from another block: the one that is chosen for it, or itself.
func (b Block) Origin(reg RegNumber, from BlockNumber) RegNumber {
	for _, choice := range b.Choices {
		if choice.To.Number != reg {
			continue
		}
		if chosen, ok := choice.RegFrom(from); ok {
			return chosen
		}
	}
	return reg
}

// RegFrom tells which register is chosen, if one comes from the block; false, if the choice does not name that block.
func (c Choice) RegFrom(block BlockNumber) (RegNumber, bool) {
	for _, source := range c.Sources {
		if source.Block.Number == block {
			return source.Reg.Number, true
		}
	}
	return 0, false
}
