// Package set: sets of what can be ordered, which tell their items in rising order.
package set

import (
	"cmp"
	"slices"
)

// Set is a set; its zero value is empty. Two sets share their items only if one was assigned to the other: then neither is to be added to any more.
type Set[T cmp.Ordered] struct {
	items []T // rising, so that what is told of a set hangs on nothing but its items
}

// Of makes a set of some items.
func Of[T cmp.Ordered](items ...T) Set[T] {
	all := slices.Clone(items)
	slices.Sort(all)
	return Set[T]{slices.Compact(all)}
}

// Add puts an item in, and tells whether it was not there yet.
func (s *Set[T]) Add(item T) bool {
	at, found := slices.BinarySearch(s.items, item)
	if !found {
		s.items = slices.Insert(s.items, at, item)
	}
	return !found
}

// Has tells whether an item is in the set.
func (s Set[T]) Has(item T) bool {
	_, found := slices.BinarySearch(s.items, item)
	return found
}

// Items lists the items, rising, in new memory.
func (s Set[T]) Items() []T {
	return slices.Clone(s.items)
}

// Same tells whether two sets have the same items.
func (s Set[T]) Same(other Set[T]) bool {
	return slices.Equal(s.items, other.items)
}

// Union makes a set of what is in the one or the other.
func (s Set[T]) Union(other Set[T]) Set[T] {
	return Of(slices.Concat(s.items, other.items)...)
}

// Minus makes a set of what is in this one, but not in the other.
func (s Set[T]) Minus(other Set[T]) Set[T] {
	return Set[T]{slices.DeleteFunc(s.Items(), other.Has)}
}
