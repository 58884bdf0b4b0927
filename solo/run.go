package solo

import "solo/code"

// How a run ended.
const (
	stopped   = 0
	outOfFuel = 1
)

// nowhere is whence one comes to block 0 at the beginning.
const nowhere code.BlockNumber = -1

type machine struct {
	registers [maxReg + 1]code.Word
	input     []int // what is left of it; it is the caller's, and only read
	output    []int
}

// run runs a program, and answers how that ended.
func (m *machine) run(program code.Program, fuel int) int {
	from, here := nowhere, code.BlockNumber(0)
	for range fuel {
		block := program[here]
		m.choose(block.Choices, from)
		for _, step := range block.Steps {
			m.do(step)
		}
		next, more := m.leave(block.End)
		if !more {
			return stopped
		}
		from, here = here, next
	}
	return outOfFuel
}

// choose reads for all choices ahead of giving any, since they are made at once.
func (m *machine) choose(choices []code.Choice, from code.BlockNumber) {
	if from == nowhere {
		return
	}
	chosen := make([]code.Word, len(choices))
	for i, choice := range choices {
		if reg, ok := choice.RegFrom(from); ok {
			chosen[i] = m.registers[reg]
		}
	}
	for i, choice := range choices {
		m.registers[choice.To.Number] = chosen[i]
	}
}

func (m *machine) do(step code.Step) {
	switch s := step.(type) {
	case code.Load:
		m.registers[s.To.Number] = s.Value
	case code.Copy:
		m.registers[s.To.Number] = m.registers[s.From.Number]
	case code.Compute:
		m.registers[s.To.Number] = s.Op.Do(m.registers[s.Left.Number], m.registers[s.Right.Number])
	case code.Take:
		m.registers[s.To.Number] = m.take()
	case code.Put:
		m.output = append(m.output, int(m.registers[s.From.Number]))
	}
}

// take takes the next number of the input, or 0, if there is none left.
func (m *machine) take() code.Word {
	if len(m.input) == 0 {
		return 0
	}
	number := m.input[0]
	m.input = m.input[1:]
	return code.Word(number)
}

// leave tells the block to which an end goes; false, if the run ends there.
func (m *machine) leave(end code.End) (code.BlockNumber, bool) {
	switch e := end.(type) {
	case code.Jump:
		return e.To.Number, true
	case code.Fork:
		if m.registers[e.If.Number] != 0 {
			return e.Then.Number, true
		}
		return e.Else.Number, true
	}
	return 0, false
}
