// Package solo: programs of blocks, each register given once, and back: see DOC.md.
package solo

import (
	"solo/flow"
	"solo/turn"
)

// Errno is what a call answers: OK or the reason for a refusal.
type Errno int

const (
	OK        Errno = 0
	ErrLong   Errno = 1 // above a bound
	ErrText   Errno = 2 // no program
	ErrMany   Errno = 3 // too many blocks
	ErrGoal   Errno = 4 // a block that there is not
	ErrReg    Errno = 5 // a register that is too great
	ErrChoice Errno = 6 // a choice that is not as it must be
	ErrArg    Errno = 7 // what may not be handed in
	ErrTwice  Errno = 8 // a register that is given twice
	ErrUse    Errno = 9 // a register that is read where it must not be
)

// Check tells whether a text is a program (P2).
func Check(program string) (Errno, int) {
	_, fault, at := read(program)
	return fault, at
}

// Run runs one (P3).
func Run(program string, input []int, fuel int) ([]int, int, Errno, int) {
	blocks, fault, at := read(program)
	if fault != OK {
		return nil, 0, fault, at
	}
	if len(input) > maxInput || fuel < 0 || fuel > maxFuel {
		return nil, 0, ErrArg, 0
	}
	m := machine{input: input}
	how := m.run(blocks, fuel)
	return m.output, how, OK, 0
}

// Keepers tells each block's keeper (P4).
func Keepers(program string) ([]int, Errno, int) {
	blocks, fault, at := read(program)
	if fault != OK {
		return nil, fault, at
	}
	return keepersOf(blocks), OK, 0
}

// Rims tells each block's rim (P4).
func Rims(program string) ([][]int, Errno, int) {
	blocks, fault, at := read(program)
	if fault != OK {
		return nil, fault, at
	}
	return rimsOf(blocks), OK, 0
}

// Matters tells which registers matter where (P5).
func Matters(program string) ([][]int, Errno, int) {
	blocks, fault, at := readUpTo(maxSingle, program)
	if fault != OK {
		return nil, fault, at
	}
	return numbersOfAll(flow.Matters(blocks)), OK, 0
}

// Single tells whether a program is single (P6).
func Single(program string) (Errno, int) {
	blocks, fault, at := readUpTo(maxSingle, program)
	if fault != OK {
		return fault, at
	}
	return notSingle(blocks)
}

// Make makes a single program that does the same (P7).
func Make(program string) (string, Errno, int) {
	blocks, fault, at := readUpTo(maxSource, program)
	if fault != OK {
		return "", fault, at
	}
	return turn.Make(blocks).Text(), OK, 0
}

// Lean makes a single program lean (P8).
func Lean(program string) (string, Errno, int) {
	blocks, fault, at := readOld(program)
	if fault == OK {
		fault, at = notSingle(blocks)
	}
	if fault != OK {
		return "", fault, at
	}
	return turn.Lean(blocks, maxOld).Text(), OK, 0
}

// Plain makes a program without choices that does the same (P8).
func Plain(program string) (string, Errno, int) {
	blocks, fault, at := readOld(program)
	if fault != OK {
		return "", fault, at
	}
	return turn.Plain(blocks, maxOld).Text(), OK, 0
}
