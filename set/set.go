// Package set: sets of what can be ordered, which tell their items in rising order.
package set

import (
	"cmp"
	"slices"
)

// Set is a set; its zero value is empty.
type Set[T cmp.Ordered] struct {
	items []T // rising, so that what is told of a set hangs on nothing but its items
}

// Add puts an item in, and tells whether it was not there yet.
func (s *Set[T]) Add(item T) bool {
	at, found := slices.BinarySearch(s.items, item)
	if !found {
		s.items = slices.Insert(s.items, at, item)
	}
	return !found
}

// Items lists the items, rising, in new memory.
func (s *Set[T]) Items() []T {
	return slices.Clone(s.items)
}
