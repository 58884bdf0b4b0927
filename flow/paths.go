// Package flow: how one comes through the blocks of a program, and what becomes of its registers on the way.
package flow

import (
	"solo/code"
	"solo/rounds"
	"solo/set"
)

// Blocks is a set of blocks.
type Blocks = set.Set[code.BlockNumber]

// Paths tells to which blocks of a program one comes, and through which.
type Paths struct {
	program code.Program
	reached Blocks
	under   []Blocks // for each block those that it is over
}

// PathsOf finds the paths of a program, whose ends must all go to blocks of it.
func PathsOf(program code.Program) Paths {
	all := reached(program, Blocks{})
	under := make([]Blocks, len(program))
	for i := range program {
		under[i] = all.Minus(reached(program, set.Of(code.BlockNumber(i))))
	}
	return Paths{program, all, under}
}

// reached finds the blocks to which one comes without coming through the barred ones.
func reached(program code.Program, barred Blocks) Blocks {
	first := set.Of[code.BlockNumber](0)
	return rounds.Settle(first.Minus(barred), func(here Blocks) Blocks {
		return here.Union(behind(program, here)).Minus(barred)
	})
}

// behind tells all blocks behind some.
func behind(program code.Program, blocks Blocks) Blocks {
	var all Blocks
	for _, block := range blocks.Items() {
		all = all.Union(program[block].Behind())
	}
	return all
}

// Reach tells whether one comes to a block.
func (p Paths) Reach(block code.BlockNumber) bool {
	return p.reached.Has(block)
}

// Over tells whether the upper block is over the lower one, which may be the same.
func (p Paths) Over(upper, lower code.BlockNumber) bool {
	return p.under[upper].Has(lower)
}

// Keeper tells a block's keeper; false, if no other block is over it.
func (p Paths) Keeper(block code.BlockNumber) (code.BlockNumber, bool) {
	others := p.othersOver(block)
candidates:
	for _, keeper := range others {
		for _, other := range others {
			if !p.Over(other, keeper) {
				continue candidates
			}
		}
		return keeper, true
	}
	return 0, false
}

func (p Paths) othersOver(block code.BlockNumber) []code.BlockNumber {
	var others []code.BlockNumber
	for i := range p.program {
		if other := code.BlockNumber(i); other != block && p.Over(other, block) {
			others = append(others, other)
		}
	}
	return others
}

// Rim tells a block's rim.
func (p Paths) Rim(block code.BlockNumber) Blocks {
	under := p.under[block]
	others := under.Minus(set.Of(block)) // the block itself may be of its rim, though it is over itself
	return behind(p.program, under).Minus(others)
}
