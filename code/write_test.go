package code

import "testing"

func TestText(t *testing.T) {
	for _, text := range []string{
		".", ">0", "r0?10:2", "r1=-20;.", "r1=0;r2=9999;r3=-9999;.", "r1=r2;r3=?;!r9999;.", "r1=r2+r3;r1=r2-r3;r1=r2*r3;r1=r2<r3;.", ".|r1@0:r2,13:r3;r2@0:r0;r2=?;.|>1",
	} {
		if got := mustRead(t, text).Text(); got != text {
			t.Errorf("the text of %q is %q", text, got)
		}
	}
	if got := mustRead(t, "r1=r2×r3;.").Text(); got != "r1=r2*r3;." {
		t.Errorf("× is written %q", got)
	}
}

func TestRenamed(t *testing.T) {
	read := func(reg RegNumber) RegNumber { return reg + 10 }
	given := func(reg RegNumber) RegNumber { return reg + 20 }
	for _, c := range []struct{ text, want string }{
		{"r1=5;.", "r21=5"}, {"r1=r2;.", "r21=r12"}, {"r1=r2-r1;.", "r21=r12-r11"}, {"r1=?;.", "r21=?"}, {"!r1;.", "!r11"},
	} {
		if got := mustRead(t, c.text)[0].Steps[0].Renamed(read, given).text(); got != c.want {
			t.Errorf("%s renamed: %s, want %s", c.text, got, c.want)
		}
	}
	for _, c := range []struct{ text, want string }{{".", "."}, {">3", ">3"}, {"r1?2:3", "r11?2:3"}} {
		if got := mustRead(t, c.text)[0].End.Renamed(read).text(); got != c.want {
			t.Errorf("%s renamed: %s, want %s", c.text, got, c.want)
		}
	}
}
