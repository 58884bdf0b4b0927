package code

// Word is what a register holds: int64, since it wraps round as registers must.
type Word int64

// Op is an operator. The signs * and × are one operator, for they do the same.
type Op int

const (
	Plus Op = iota
	Minus
	Times
	Less
	opCount
)

// signs holds how each operator is written, in their order.
const signs = "+-*<"

// deeds holds what each operator does.
var deeds [opCount]func(left, right Word) Word

func init() {
	deeds[Plus] = Word.plus
	deeds[Minus] = Word.minus
	deeds[Times] = Word.times
	deeds[Less] = Word.less
}

// Do answers what the operator makes of two words.
func (op Op) Do(left, right Word) Word {
	return deeds[op](left, right)
}

func (left Word) plus(right Word) Word  { return left + right }
func (left Word) minus(right Word) Word { return left - right }
func (left Word) times(right Word) Word { return left * right }

func (left Word) less(right Word) Word {
	if left < right {
		return 1
	}
	return 0
}

func (op Op) text() string { return signs[op : op+1] }

func opOf(sign rune) (Op, bool) {
	switch sign {
	case '+':
		return Plus, true
	case '-':
		return Minus, true
	case '*', '×':
		return Times, true
	case '<':
		return Less, true
	}
	return 0, false
}
