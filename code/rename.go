package code

// Naming tells which register stands in another one's place.
type Naming func(RegNumber) RegNumber

// of makes a register that stands in no text yet.
func (n Naming) of(reg Reg) Reg { return Reg{Number: n(reg.Number)} }

func (l Load) Renamed(_, given Naming) Step { return Load{given.of(l.To), l.Value} }

func (c Copy) Renamed(read, given Naming) Step { return Copy{given.of(c.To), read.of(c.From)} }

func (c Compute) Renamed(read, given Naming) Step {
	return Compute{given.of(c.To), read.of(c.Left), c.Op, read.of(c.Right)}
}

func (t Take) Renamed(_, given Naming) Step { return Take{given.of(t.To)} }

func (p Put) Renamed(read, _ Naming) Step { return Put{read.of(p.From)} }

func (s Stop) Renamed(Naming) End { return s }

func (j Jump) Renamed(Naming) End { return j }

func (f Fork) Renamed(read Naming) End { return Fork{read.of(f.If), f.Then, f.Else} }
