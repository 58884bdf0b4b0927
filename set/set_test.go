package set

import (
	"slices"
	"testing"
)

func TestItemsRise(t *testing.T) {
	var s Set[int]
	for _, item := range []int{5, -1, 9, 0, 7} {
		if !s.Add(item) {
			t.Errorf("Add(%d) does not tell that it is new", item)
		}
	}
	if got := s.Items(); !slices.Equal(got, []int{-1, 0, 5, 7, 9}) {
		t.Errorf("Items() = %v", got)
	}
}

func TestNoItemTwice(t *testing.T) {
	var s Set[string]
	if !s.Add("b") || !s.Add("a") || s.Add("b") || s.Add("a") {
		t.Error("Add must tell what is new, and only that")
	}
	if got := s.Items(); !slices.Equal(got, []string{"a", "b"}) {
		t.Errorf("Items() = %v", got)
	}
}

func TestEmpty(t *testing.T) {
	var s Set[int]
	if got := s.Items(); len(got) != 0 {
		t.Errorf("Items() = %v", got)
	}
}

func TestItemsAreNewMemory(t *testing.T) {
	var s Set[int]
	s.Add(1)
	s.Items()[0] = 2
	if got := s.Items(); !slices.Equal(got, []int{1}) {
		t.Errorf("Items() = %v behind a change to what it answered", got)
	}
}
