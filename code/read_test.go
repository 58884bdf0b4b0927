package code

import (
	"reflect"
	"testing"
)

func TestRead(t *testing.T) {
	reg := func(number RegNumber, at int) Reg { return Reg{number, at} }
	for _, c := range []struct {
		text string
		want Program
	}{
		{".", Program{{End: Stop{}}}},
		{">0", Program{{End: Jump{Goal{0, 1}}}}},
		{"r0?10:2", Program{{End: Fork{reg(0, 0), Goal{10, 3}, Goal{2, 6}}}}},
		{"r1=-20;.", Program{{Steps: []Step{Load{reg(1, 0), -20}}, End: Stop{}}}},
		{"r1=r2;.", Program{{Steps: []Step{Copy{reg(1, 0), reg(2, 3)}}, End: Stop{}}}},
		{"r1=?;.", Program{{Steps: []Step{Take{reg(1, 0)}}, End: Stop{}}}},
		{"!r9999;.", Program{{Steps: []Step{Put{reg(9999, 1)}}, End: Stop{}}}},
		{"r1=r2×r3;r4=r5*r6;.", Program{{Steps: []Step{Compute{reg(1, 0), reg(2, 3), Times, reg(3, 7)}, Compute{reg(4, 10), reg(5, 13), Times, reg(6, 16)}}, End: Stop{}}}},
		{".|r1@0:r2,13:r3;.", Program{{End: Stop{}}, {At: 2, Choices: []Choice{{reg(1, 2), []Source{{Goal{0, 5}, reg(2, 7)}, {Goal{13, 10}, reg(3, 13)}}}}, End: Stop{}}}},
	} {
		got, at, ok := Read(c.text)
		if !ok || at != 0 || !reflect.DeepEqual(got, c.want) {
			t.Errorf("Read(%q) = %+v, %d, %v, want %+v", c.text, got, at, ok, c.want)
		}
	}
}

func TestReadGivesUp(t *testing.T) {
	for _, c := range []struct {
		text string
		at   int
	}{{"", 0}, {"r1=r2\xc3", 6}, {"r1=r2\xc3\xc3\x97r1;.", 6}, {"r1=1\xc3\x97", 4}, {".\xc3\x97", 1}, {".|.|x", 4}} {
		got, at, ok := Read(c.text)
		if ok || at != c.at || got != nil {
			t.Errorf("Read(%q) = %v, %d, %v, want the place %d", c.text, got, at, ok, c.at)
		}
	}
}
