package solo_test

// A second reading of the document, by other means than the program's (patterns, split texts, great numbers), to hold the program against.

import (
	"fmt"
	"math/big"
	"math/rand"
	"regexp"
	"slices"
	"strconv"
	"strings"

	"solo/solo"
)

const (
	numberForm = `(?:0|[1-9][0-9]{0,3})`
	regForm    = `r` + numberForm
	choiceForm = regForm + `@` + numberForm + `:` + regForm + `(?:,` + numberForm + `:` + regForm + `)*`
	valueForm  = `(?:` + numberForm + `|-[1-9][0-9]{0,3})`
	stepForm   = `(?:` + regForm + `=(?:` + valueForm + `|` + regForm + `(?:[-+*<]|×)` + regForm + `|` + regForm + `|\?)|!` + regForm + `)`
	endForm    = `(?:\.|>` + numberForm + `|` + regForm + `\?` + numberForm + `:` + numberForm + `)`
	blockForm  = `(?:` + choiceForm + `;)*(?:` + stepForm + `;)*` + endForm
)

var programForm = regexp.MustCompile(`\A` + blockForm + `(?:\|` + blockForm + `)*\z`)

// completions: whatever begins a program, one of these makes it one.
var completions = []string{
	"", ".", "1", ":1", "1:1", "1?1:1", "?1:1", ";.", "1;.", "r1;.",
	":r1;.", "1:r1;.", "\x97r1;.",
}

func beginsProgram(text string) bool {
	return slices.ContainsFunc(completions, func(rest string) bool { return programForm.MatchString(text + rest) })
}

// slowPlace is the place beside ErrText.
func slowPlace(text string) int {
	for at := range len(text) {
		if !beginsProgram(text[:at+1]) {
			return at
		}
	}
	return len(text)
}

func slowCheck(text string) (solo.Errno, int) {
	if len(text) > 200000 {
		return solo.ErrLong, 0
	}
	if !programForm.MatchString(text) {
		return solo.ErrText, slowPlace(text)
	}
	blocks := strings.Split(text, "|")
	if len(blocks) > 12 {
		return solo.ErrMany, len(strings.Join(blocks[:12], "|")) + 1
	}
	if at := slowGoal(blocks); at >= 0 {
		return solo.ErrGoal, at
	}
	if at := slowChoice(blocks); at >= 0 {
		return solo.ErrChoice, at
	}
	return solo.OK, 0
}

var goalForm = regexp.MustCompile(`[@,>][0-9]+|\?[0-9]+:[0-9]+`)

func slowGoal(blocks []string) int {
	text := strings.Join(blocks, "|")
	for _, found := range goalForm.FindAllStringIndex(text, -1) {
		at := found[0] + 1
		for _, number := range strings.Split(text[at:found[1]], ":") {
			if atoi(number) >= len(blocks) {
				return at
			}
			at += len(number) + 1
		}
	}
	return -1
}

func slowChoice(blocks []string) int {
	at := 0
	for i, block := range blocks {
		var ahead []string
		for j, other := range blocks {
			if slices.Contains(slowBehind(other), i) {
				ahead = append(ahead, strconv.Itoa(j))
			}
		}
		given := map[string]bool{}
		for _, part := range strings.Split(block, ";") {
			if reg, sources, ok := strings.Cut(part, "@"); ok {
				var from []string
				for _, source := range strings.Split(sources, ",") {
					from = append(from, source[:strings.Index(source, ":")])
				}
				if given[reg] || !slices.Equal(from, ahead) {
					return at
				}
				given[reg] = true
			}
			at += len(part) + 1
		}
	}
	return -1
}

func slowBehind(block string) []int {
	end := block[strings.LastIndex(block, ";")+1:]
	if end == "." {
		return nil
	}
	var behind []int
	for _, number := range strings.Split(end[strings.IndexAny(end, "?>")+1:], ":") {
		behind = append(behind, atoi(number))
	}
	return behind
}

func atoi(text string) int {
	number, err := strconv.Atoi(text)
	if err != nil {
		panic(err)
	}
	return number
}

type slowMachine struct {
	held  map[string]*big.Int
	input []int
	out   []string
}

func (m *slowMachine) get(reg string) *big.Int {
	if held, ok := m.held[reg]; ok {
		return held
	}
	return new(big.Int)
}

// slowRun tells what a program puts out, and how it ends.
func slowRun(text string, input []int, fuel int) string {
	m := slowMachine{held: map[string]*big.Int{}, input: input}
	blocks := strings.Split(text, "|")
	from, here := "", 0
	for ; fuel > 0; fuel-- {
		parts := strings.Split(blocks[here], ";")
		m.choose(parts, from)
		for _, step := range parts[:len(parts)-1] {
			m.step(step)
		}
		behind := slowBehind(blocks[here])
		if len(behind) == 0 {
			return fmt.Sprint(m.out, 0)
		}
		from = strconv.Itoa(here)
		here = behind[0]
		if reg, _, ok := strings.Cut(parts[len(parts)-1], "?"); ok && m.get(reg).Sign() == 0 {
			here = behind[1]
		}
	}
	return fmt.Sprint(m.out, 1)
}

func (m *slowMachine) choose(parts []string, from string) {
	entered := map[string]*big.Int{}
	for reg, held := range m.held {
		entered[reg] = held
	}
	for _, part := range parts {
		reg, sources, _ := strings.Cut(part, "@")
		for _, source := range strings.Split(sources, ",") {
			if block, chosen, ok := strings.Cut(source, ":"); ok && block == from {
				entered[reg] = m.get(chosen)
			}
		}
	}
	m.held = entered
}

func (m *slowMachine) step(step string) {
	if strings.Contains(step, "@") {
		return
	}
	if reg, ok := strings.CutPrefix(step, "!"); ok {
		m.out = append(m.out, m.get(reg).String())
		return
	}
	to, right, _ := strings.Cut(step, "=")
	m.held[to] = wrapped(m.right(right))
}

func (m *slowMachine) right(right string) *big.Int {
	if right == "?" {
		number := 0
		if len(m.input) > 0 {
			number, m.input = m.input[0], m.input[1:]
		}
		return big.NewInt(int64(number))
	}
	if right[0] != 'r' {
		return big.NewInt(int64(atoi(right)))
	}
	at := strings.IndexAny(right, "+-*×<")
	if at < 0 {
		return m.get(right)
	}
	left, op := m.get(right[:at]), right[at:strings.LastIndex(right, "r")]
	other := m.get(right[at+len(op):])
	switch op {
	case "+":
		return new(big.Int).Add(left, other)
	case "-":
		return new(big.Int).Sub(left, other)
	case "<":
		if left.Cmp(other) < 0 {
			return big.NewInt(1)
		}
		return new(big.Int)
	}
	return new(big.Int).Mul(left, other)
}

// wrapped brings a number into 64 bits with a sign.
func wrapped(number *big.Int) *big.Int {
	half := new(big.Int).Lsh(big.NewInt(1), 63)
	whole := new(big.Int).Lsh(big.NewInt(1), 64)
	moved := new(big.Int).Add(number, half)
	return moved.Mod(moved, whole).Sub(moved, half)
}

// maker makes programs from a seed.
type maker struct{ *rand.Rand }

func (m maker) reg() string { return "r" + strconv.Itoa(m.Intn(5)) }

func (m maker) step() string {
	switch m.Intn(8) {
	case 0:
		return m.reg() + "=" + strconv.Itoa(m.Intn(19999)-9999)
	case 1:
		return m.reg() + "=" + m.reg()
	case 2:
		return m.reg() + "=?"
	case 3, 4:
		return "!" + m.reg()
	}
	ops := []string{"+", "-", "*", "×", "<"}
	return m.reg() + "=" + m.reg() + ops[m.Intn(len(ops))] + m.reg()
}

func (m maker) end(blocks int) string {
	switch m.Intn(5) {
	case 0:
		return "."
	case 1:
		return ">" + strconv.Itoa(m.Intn(blocks))
	}
	return fmt.Sprintf("%s?%d:%d", m.reg(), m.Intn(blocks), m.Intn(blocks))
}

func (m maker) choices(ahead []string) []string {
	var choices []string
	for _, reg := range m.Perm(5)[:m.Intn(4)] {
		var sources []string
		for _, block := range ahead {
			sources = append(sources, block+":"+m.reg())
		}
		choices = append(choices, fmt.Sprintf("r%d@%s", reg, strings.Join(sources, ",")))
	}
	return choices
}

func (m maker) program() string { return m.programOf(1 + m.Intn(6)) }

// programOf makes a program of so many blocks.
func (m maker) programOf(count int) string {
	blocks := make([]string, count)
	for i := range blocks {
		blocks[i] = m.end(len(blocks))
	}
	ends := slices.Clone(blocks)
	for i, end := range ends {
		var ahead []string
		for j, other := range ends {
			if slices.Contains(slowBehind(other), i) {
				ahead = append(ahead, strconv.Itoa(j))
			}
		}
		var parts []string
		if len(ahead) > 0 {
			parts = m.choices(ahead)
		}
		for range m.Intn(6) {
			parts = append(parts, m.step())
		}
		blocks[i] = strings.Join(append(parts, end), ";")
	}
	return strings.Join(blocks, "|")
}

// spoilt changes a few bytes or signs of a text.
func (m maker) spoilt(text string) string {
	pieces := []string{"r", "0", "1", "9", "12345", "=", ";", ".", "|", "?", ":", "@", ",", "!", ">", "-", "+", "<", "×", "\xc3", "\x97", "é", "\xff", " ", ".|", "r1@0:r1;", "r1=1;", ">1|"}
	for range 1 + m.Intn(3) {
		at := m.Intn(len(text) + 1)
		gone := min(len(text)-at, m.Intn(3))
		piece := ""
		if m.Intn(3) > 0 {
			piece = pieces[m.Intn(len(pieces))]
		}
		text = text[:at] + piece + text[at+gone:]
	}
	return text
}

// misled changes digits, or writes a part twice, so that the text mostly stays a program, but goes wrong otherwise.
func (m maker) misled(text string) string {
	if m.Intn(2) == 0 {
		parts := strings.SplitAfter(text, ";")
		twice := m.Intn(len(parts))
		return strings.Join(slices.Insert(parts, m.Intn(twice+1), parts[twice]), "")
	}
	changed := []byte(text)
	for range 1 + m.Intn(3) {
		at := m.Intn(len(changed))
		if strings.ContainsRune("0123456789", rune(changed[at])) {
			changed[at] = byte('0' + m.Intn(8))
		}
	}
	return string(changed)
}
