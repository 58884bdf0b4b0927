package rounds

import "testing"

type count int

func (c count) Same(other count) bool { return c == other }

func TestSettle(t *testing.T) {
	for _, c := range []struct{ from, want count }{{0, 5}, {4, 5}, {5, 5}, {9, 9}} {
		steps := 0
		got := Settle(c.from, func(now count) count {
			steps++
			if now < 5 {
				return now + 1
			}
			return now
		})
		// one step more than there are changes: the one that changes nothing
		if got != c.want || steps != int(c.want-c.from)+1 {
			t.Errorf("from %d one settles at %d in %d steps, want %d", c.from, got, steps, c.want)
		}
	}
}
