package code

import (
	"math"
	"testing"
)

func TestOperators(t *testing.T) {
	const most, least = math.MaxInt64, math.MinInt64
	for _, c := range []struct {
		sign              rune
		left, right, want Word
	}{
		{'+', 7, 3, 10}, {'-', 7, 3, 4}, {'*', 7, 3, 21}, {'×', 7, 3, 21}, {'<', 7, 3, 0}, {'<', 3, 7, 1}, {'<', 3, 3, 0}, {'<', -1, 0, 1},
		{'+', most, 1, least}, {'+', least, -1, most}, {'-', least, 1, most}, {'-', 0, least, least}, {'*', most, 2, -2}, {'×', least, -1, least}, {'<', least, most, 1}, {'<', most, least, 0},
	} {
		op, ok := opOf(c.sign)
		if !ok {
			t.Fatalf("%c is no operator", c.sign)
		}
		if got := op.Do(c.left, c.right); got != c.want {
			t.Errorf("%d %c %d = %d, want %d", c.left, c.sign, c.right, got, c.want)
		}
	}
}

func TestNoOperators(t *testing.T) {
	for _, sign := range "/>=?;xr0é\uFFFD" {
		if _, ok := opOf(sign); ok {
			t.Errorf("%q is an operator", sign)
		}
	}
	if _, ok := opOf(textEnd); ok {
		t.Error("the end of the text is an operator")
	}
}
