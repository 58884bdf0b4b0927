package code

import (
	"strconv"
	"strings"
)

// Text writes the program; read again, it is the same but for its places.
func (p Program) Text() string {
	blocks := make([]string, len(p))
	for i, block := range p {
		blocks[i] = block.text()
	}
	return strings.Join(blocks, "|")
}

func (b Block) text() string {
	var parts []string
	for _, choice := range b.Choices {
		parts = append(parts, choice.text())
	}
	for _, step := range b.Steps {
		parts = append(parts, step.text())
	}
	return strings.Join(append(parts, b.End.text()), ";")
}

func (c Choice) text() string {
	sources := make([]string, len(c.Sources))
	for i, source := range c.Sources {
		sources[i] = source.Block.text() + ":" + source.Reg.text()
	}
	return c.To.text() + "@" + strings.Join(sources, ",")
}

func (r Reg) text() string { return "r" + strconv.Itoa(int(r.Number)) }

func (g Goal) text() string { return strconv.Itoa(int(g.Number)) }

func (l Load) text() string { return l.To.text() + "=" + strconv.FormatInt(int64(l.Value), 10) }

func (c Copy) text() string { return c.To.text() + "=" + c.From.text() }

func (c Compute) text() string {
	return c.To.text() + "=" + c.Left.text() + c.Op.text() + c.Right.text()
}

func (t Take) text() string { return t.To.text() + "=?" }

func (p Put) text() string { return "!" + p.From.text() }

func (Stop) text() string { return "." }

func (j Jump) text() string { return ">" + j.To.text() }

func (f Fork) text() string { return f.If.text() + "?" + f.Then.text() + ":" + f.Else.text() }
