package code

const (
	maxDigits = 4
	// textEnd is no code point, so that no text holds it.
	textEnd rune = -1
	// crossLead is the first of the two bytes of ×.
	crossLead = 0xC3
)

// mark is a code point of a text, and its place.
type mark struct {
	at   int
	sign rune
}

type reader struct {
	text  string
	marks []mark
	next  int
}

// brokenOff is what a reader panics with, where the text is no program any more.
type brokenOff struct{ at int }

// Read reads a program. If the text is none, it answers false and the place of the first byte that no program has there, or the text's length, if bytes are missing.
func Read(text string) (program Program, at int, ok bool) {
	defer func() {
		switch reason := recover().(type) {
		case nil:
		case brokenOff:
			program, at, ok = nil, reason.at, false
		default:
			panic(reason) // a fault of the reader must not pass for one of the text
		}
	}()
	r := reader{text: text, marks: marksOf(text)}
	return r.program(), 0, true
}

func marksOf(text string) []mark {
	marks := make([]mark, 0, len(text)+1)
	for at, sign := range text {
		marks = append(marks, mark{at, sign})
	}
	return append(marks, mark{len(text), textEnd})
}

func (r *reader) sign() rune { return r.marks[r.next].sign }

func (r *reader) at() int { return r.marks[r.next].at }

func (r *reader) breakOff() { panic(brokenOff{r.at()}) }

// skip goes past a sign, if it is the next one.
func (r *reader) skip(sign rune) bool {
	if r.sign() != sign {
		return false
	}
	r.next++
	return true
}

func (r *reader) want(sign rune) {
	if !r.skip(sign) {
		r.breakOff()
	}
}

func (r *reader) program() Program {
	var program Program
	for {
		program = append(program, r.block())
		if r.sign() == textEnd {
			return program
		}
		r.want('|')
	}
}

func (r *reader) block() Block {
	block := Block{At: r.at()}
	for block.End == nil {
		switch {
		case r.skip('.'):
			block.End = Stop{}
		case r.skip('>'):
			block.End = Jump{r.goal()}
		case r.skip('!'):
			block.Steps = append(block.Steps, Put{r.reg()})
			r.want(';')
		default:
			r.fromReg(&block)
		}
	}
	return block
}

// fromReg reads the choice, step or end that begins with a register into the block.
func (r *reader) fromReg(block *Block) {
	reg := r.reg()
	switch {
	case r.skip('?'):
		block.End = r.fork(reg)
		return
	case r.skip('='):
		block.Steps = append(block.Steps, r.giving(reg))
	case len(block.Steps) == 0 && r.skip('@'): // behind a step there is no choice any more
		block.Choices = append(block.Choices, r.choice(reg))
	default:
		r.breakOff()
	}
	r.want(';')
}

func (r *reader) fork(reg Reg) End {
	first := r.goal()
	r.want(':')
	return Fork{reg, first, r.goal()}
}

func (r *reader) choice(to Reg) Choice {
	choice := Choice{To: to}
	for {
		block := r.goal()
		r.want(':')
		choice.Sources = append(choice.Sources, Source{block, r.reg()})
		if !r.skip(',') {
			return choice
		}
	}
}

// giving reads the right side of a step.
func (r *reader) giving(to Reg) Step {
	switch {
	case r.skip('?'):
		return Take{to}
	case r.sign() == 'r':
		return r.fromRight(to, r.reg())
	case r.skip('-'):
		if r.sign() == '0' {
			r.breakOff()
		}
		return Load{to, -Word(r.number())}
	}
	return Load{to, Word(r.number())}
}

// fromRight reads what stands behind the first register of a right side.
func (r *reader) fromRight(to, left Reg) Step {
	if r.sign() == ';' {
		return Copy{to, left}
	}
	op := r.op()
	return Compute{to, left, op, r.reg()}
}

func (r *reader) op() Op {
	op, ok := opOf(r.sign())
	if !ok {
		r.breakOffOp()
	}
	r.next++
	return op
}

// breakOffOp gives up where an operator is missing: there the first byte of × is still right, whatever follows it.
func (r *reader) breakOffOp() {
	at := r.at()
	if at < len(r.text) && r.text[at] == crossLead {
		panic(brokenOff{at + 1})
	}
	r.breakOff()
}

func (r *reader) reg() Reg {
	at := r.at()
	r.want('r')
	return Reg{RegNumber(r.number()), at}
}

func (r *reader) goal() Goal {
	at := r.at()
	return Goal{BlockNumber(r.number()), at}
}

// number goes no further than a number can: whatever follows is for the caller to refuse.
func (r *reader) number() int {
	if !isDigit(r.sign()) {
		r.breakOff()
	}
	if r.skip('0') {
		return 0
	}
	number := 0
	for count := 0; count < maxDigits && isDigit(r.sign()); count++ {
		number = 10*number + int(r.sign()-'0')
		r.next++
	}
	return number
}

func isDigit(sign rune) bool { return '0' <= sign && sign <= '9' }
