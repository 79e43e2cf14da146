// Package rising keeps lists whose values rise: no value stands there twice.
package rising

import (
	"cmp"
	"slices"
)

// leap tells the first index, from the given one on, whose value is not below
// the one sought, or the list's length. Its steps double, so that what stands
// near is found at once and what stands far away in few steps.
func leap[T cmp.Ordered](list []T, from int, sought T) int {
	low, step := from, 1
	for low+step <= len(list) && list[low+step-1] < sought {
		low += step
		step *= 2
	}
	high := min(low+step-1, len(list))
	for low < high {
		middle := low + (high-low)/2
		if list[middle] < sought {
			low = middle + 1
		} else {
			high = middle
		}
	}
	return low
}

// Has tells whether a value stands in a rising list.
func Has[T cmp.Ordered](list []T, value T) bool {
	at := leap(list, 0, value)
	return at < len(list) && list[at] == value
}

// Add answers a rising list with a value in it. As with append, the answer may
// share memory with the list.
func Add[T cmp.Ordered](list []T, value T) []T {
	at := leap(list, 0, value)
	if at < len(list) && list[at] == value {
		return list
	}
	return slices.Insert(list, at, value)
}

// Without answers, as a new list, the values that stand in the first rising
// list and not in the second.
func Without[T cmp.Ordered](list []T, others []T) []T {
	var rest []T
	for _, value := range list {
		if !Has(others, value) {
			rest = append(rest, value)
		}
	}
	return rest
}

// Common answers, as a new list, the values that stand in each of the rising
// lists. The lists take turns: each leaps to the value that the others have
// come to, or past it, until all have come to the same one.
func Common[T cmp.Ordered](lists ...[]T) []T {
	if len(lists) == 0 || len(lists[0]) == 0 {
		return nil
	}
	var common []T
	places := make([]int, len(lists))
	sought, agreed := lists[0][0], 0
	for turn := 0; ; turn = (turn + 1) % len(lists) {
		list := lists[turn]
		at := leap(list, places[turn], sought)
		if at == len(list) {
			return common
		}
		if list[at] == sought {
			agreed++
		} else {
			sought, agreed = list[at], 1
		}
		if agreed == len(lists) {
			common = append(common, sought)
			at++
			if at == len(list) {
				return common
			}
			sought, agreed = list[at], 0
		}
		places[turn] = at
	}
}
