package set

import (
	"slices"
	"testing"
)

func TestItemsRise(t *testing.T) {
	var s Set[int]
	for _, item := range []int{5, -1, 9, 0, 7} {
		if !s.Add(item) {
			t.Errorf("Add(%d) does not tell that it is new", item)
		}
	}
	testItems(t, "what was added", s, -1, 0, 5, 7, 9)
	testItems(t, "Of", Of(5, -1, 9, 0, 7), -1, 0, 5, 7, 9)
}

func testItems(t *testing.T, what string, s Set[int], want ...int) {
	t.Helper()
	if got := s.Items(); !slices.Equal(got, want) {
		t.Errorf("%s: %v, want %v", what, got, want)
	}
}

func TestNoItemTwice(t *testing.T) {
	var s Set[string]
	if !s.Add("b") || !s.Add("a") || s.Add("b") || s.Add("a") {
		t.Error("Add must tell what is new, and only that")
	}
	if got := s.Items(); !slices.Equal(got, []string{"a", "b"}) {
		t.Errorf("Items() = %v", got)
	}
	testItems(t, "Of", Of(2, 1, 2, 2, 1), 1, 2)
}

func TestHas(t *testing.T) {
	s := Of(4, 2, 8)
	for item, want := range []bool{false, false, true, false, true, false, false, false, true, false} {
		if s.Has(item) != want {
			t.Errorf("Has(%d) = %v", item, !want)
		}
	}
}

func TestEmpty(t *testing.T) {
	var s Set[int]
	testItems(t, "the zero value", s)
	testItems(t, "Of nothing", Of[int]())
	if s.Has(0) || !s.Same(Of[int]()) || s.Same(Of(0)) || Of(0).Same(s) {
		t.Error("an empty set has no item")
	}
	testItems(t, "a union with it", s.Union(Of(2, 1)), 1, 2)
	testItems(t, "it with a union", Of(2, 1).Union(s), 1, 2)
	testItems(t, "less it", Of(2, 1).Minus(s), 1, 2)
	testItems(t, "it less others", s.Minus(Of(2, 1)))
}

func TestSame(t *testing.T) {
	s := Of(1, 2, 3)
	if !s.Same(Of(3, 2, 1)) || s.Same(Of(1, 2)) || s.Same(Of(1, 2, 4)) || s.Same(Of(1, 2, 3, 4)) {
		t.Error("the same are sets of the same items alone")
	}
}

func TestUnionAndMinus(t *testing.T) {
	s, other := Of(1, 3, 5, 7), Of(0, 3, 4, 7, 8)
	testItems(t, "union", s.Union(other), 0, 1, 3, 4, 5, 7, 8)
	testItems(t, "minus", s.Minus(other), 1, 5)
	testItems(t, "the first behind these", s, 1, 3, 5, 7)
	testItems(t, "the second behind these", other, 0, 3, 4, 7, 8)
}

func TestNewMemory(t *testing.T) {
	items := []int{2, 1}
	s := Of(items...)
	items[0] = 9
	s.Items()[0] = 7
	for _, made := range []Set[int]{s.Union(Set[int]{}), Set[int]{}.Union(s), s.Minus(Set[int]{})} {
		made.Add(0)
	}
	testItems(t, "behind changes to others", s, 1, 2)
	if !slices.Equal(items, []int{9, 1}) {
		t.Errorf("Of changed what it was handed: %v", items)
	}
}
