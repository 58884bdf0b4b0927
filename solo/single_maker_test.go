package solo_test

// Made-up programs that are single, but for some faults.

import (
	"fmt"
	"slices"
	"strconv"
	"strings"
)

// singleMaker makes a program in which each giving has a register of its own.
type singleMaker struct {
	maker
	faults int // of a hundred registers, how many are drawn without care
	ends   []string
	over   [][]int
	gives  [][]string // for each block the registers given so far
	drawn  []int      // numbers of registers
	count  int
}

// single makes a program of up to so many blocks that is single, if there are no faults.
func (m maker) single(most, faults int) string {
	blocks := 1 + m.Intn(most)
	s := singleMaker{maker: m, faults: faults, drawn: m.Perm(5000), gives: make([][]string, blocks)}
	for range blocks {
		s.ends = append(s.ends, s.end(blocks))
	}
	s.over = slowOver(s.ends)
	choices, steps := s.plan()
	for i := range blocks {
		s.gives[i] = append(s.gives[i], choices[i]...)
	}
	bodies := make([][]string, blocks)
	first := s.fresh()
	bodies[0], s.gives[0] = []string{first + "=?"}, append(s.gives[0], first) // so that there is something to read everywhere
	for _, i := range s.keepersFirst() {
		for range steps[i] {
			bodies[i] = append(bodies[i], s.drawStep(i))
		}
		if _, goals, ok := strings.Cut(s.ends[i], "?"); ok {
			s.ends[i] = s.draw(i) + "?" + goals
		}
	}
	texts := make([]string, blocks)
	for i := range blocks {
		// what is chosen is read at the ends of blocks, so it is drawn when all steps are there
		parts := s.choose(i, choices[i])
		texts[i] = strings.Join(append(append(parts, bodies[i]...), s.ends[i]), ";")
	}
	return strings.Join(texts, "|")
}

// plan draws which registers the choices of each block give, and how many steps it has.
func (s *singleMaker) plan() (choices [][]string, steps []int) {
	for i := range s.ends {
		var regs []string
		if len(s.ahead(i)) > 0 {
			for range s.Intn(4) {
				// a fault must not be one of Check's
				if reg := s.fresh(); !slices.Contains(regs, reg) {
					regs = append(regs, reg)
				}
			}
		}
		choices = append(choices, regs)
		steps = append(steps, s.Intn(6))
	}
	return choices, steps
}

// keepersFirst lists the blocks so that those over a block stand ahead of it.
func (s *singleMaker) keepersFirst() []int {
	var order []int
	for i := range s.ends {
		order = append(order, i)
	}
	slices.SortStableFunc(order, func(a, b int) int { return len(s.over[a]) - len(s.over[b]) })
	return order
}

func (s *singleMaker) ahead(block int) []int {
	var ahead []int
	for i, end := range s.ends {
		if slices.Contains(slowBehind(end), block) {
			ahead = append(ahead, i)
		}
	}
	return ahead
}

// fresh is a register that was not given yet.
func (s *singleMaker) fresh() string {
	s.count++
	if s.Intn(300) < s.faults {
		s.count = 1 + s.Intn(s.count)
	}
	return "r" + strconv.Itoa(s.drawn[s.count])
}

// draw is a register that may be read in a block; if there is none, which is only where one does not come to, any.
func (s *singleMaker) draw(block int) string {
	if s.Intn(100) < s.faults {
		return "r" + strconv.Itoa(s.drawn[1+s.Intn(s.count+1)])
	}
	may := slices.Clone(s.gives[block])
	for _, over := range s.over[block] {
		if over != block {
			may = append(may, s.gives[over]...)
		}
	}
	if len(may) == 0 {
		return s.fresh()
	}
	return may[s.Intn(len(may))]
}

func (s *singleMaker) drawStep(block int) string {
	if s.Intn(4) == 0 {
		return "!" + s.draw(block)
	}
	right := []func() string{
		func() string { return "?" },
		func() string { return strconv.Itoa(s.Intn(7) - 3) },
		func() string { return s.draw(block) },
		func() string { return s.draw(block) + []string{"+", "-", "*", "×", "<"}[s.Intn(5)] + s.draw(block) },
	}
	text := right[s.Intn(len(right))]()
	to := s.fresh()
	s.gives[block] = append(s.gives[block], to)
	return to + "=" + text
}

func (s *singleMaker) choose(block int, regs []string) []string {
	var parts []string
	for _, to := range regs {
		var sources []string
		for _, from := range s.ahead(block) {
			sources = append(sources, fmt.Sprintf("%d:%s", from, s.draw(from)))
		}
		parts = append(parts, to+"@"+strings.Join(sources, ","))
	}
	return parts
}
