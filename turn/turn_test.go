package turn

import (
	"testing"

	"solo/code"
)

func mustRead(t *testing.T, text string) code.Program {
	t.Helper()
	program, at, ok := code.Read(text)
	if !ok {
		t.Fatalf("%q is no program, at %d", text, at)
	}
	return program
}

func TestMake(t *testing.T) {
	for _, c := range []struct{ text, want string }{
		{"r1=?;r1=r1+r1;!r1;.", "r1=?;r2=r1+r1;!r2;."},
		// what is read ahead of being given
		{"!r5;.", "r0=0;!r0;."},
		// givings that meet, and that meet again
		{"r7=?;r7?1:2|r8=1;>3|>3|!r8;r7=?;r7?2:3", "r0=0;r1=?;r1?1:2|r2=1;>3|r3@0:r0,3:r4;>3|r4@1:r2,2:r3,3:r4;!r4;r5=?;r5?2:3"},
		// of block 0 what is chosen holds 0 at first
		{"!r5;r5=?;>0", "r1@0:r2;!r1;r2=?;>0"},
		// choices of the text itself
		{"r5=?;>1|r5@0:r5,1:r6;r6@0:r5,1:r5;!r5;!r6;>1", "r1=?;>1|r2@0:r1,1:r3;r3@0:r1,1:r2;!r2;!r3;>1"},
		// one does not come to block 1
		{"r5=?;>2|r5=1;r5=2;r5?1:2|r5@0:r5,1:r5;!r5;.", "r1=?;>2|r0?1:2|r4@0:r1,1:r0;!r4;."},
	} {
		if got := Make(mustRead(t, c.text)).Text(); got != c.want {
			t.Errorf("Make(%q) = %q, want %q", c.text, got, c.want)
		}
	}
}

func TestLean(t *testing.T) {
	for _, c := range []struct{ text, want string }{
		{"r5=?;r3=r5;r9=r3;r8=r9+r9;!r9;.", "r3=?;!r3;."},
		{"r5=?;>1|r3@0:r5,1:r4;r4=r3;!r4;>1", "r3=?;>1|!r3;>1"},
		{"r5=?;>1|r3@0:r5,1:r4;r4=?;!r3;>1", "r5=?;>1|r3@0:r5,1:r4;r4=?;!r3;>1"},
		{"r3@0:r5;r5=4;!r3;>0", "r3@0:r5;r5=4;!r3;>0"},
		{"r5=?;r6=?;r5?2:3|r7=1;r7?3:3|>3|r8@0:r5,1:r7,2:r6;!r8;.", "r5=?;r6=?;r5?2:3|r0?3:3|>3|r8@0:r5,1:r0,2:r6;!r8;."},
	} {
		if got := Lean(mustRead(t, c.text), 9).Text(); got != c.want {
			t.Errorf("Lean(%q) = %q, want %q", c.text, got, c.want)
		}
	}
}

func TestPlain(t *testing.T) {
	for _, c := range []struct{ text, want string }{
		{"r1=?;.", "r1=?;."},
		{"r1=1;>1|r1@0:r1,1:r2;r2@0:r2,1:r1;!r1;r1?1:2|!r2;.", "r1=1;r10=r1;r11=r2;>1|r1=r10;r2=r11;!r1;r10=r2;r11=r1;r1?1:2|!r2;."},
	} {
		if got := Plain(mustRead(t, c.text), 9).Text(); got != c.want {
			t.Errorf("Plain(%q) = %q, want %q", c.text, got, c.want)
		}
	}
}
