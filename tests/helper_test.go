package tests

import (
	"math/rand/v2"
	"slices"
	"testing"

	"loop.example/cellcollector/impl"
)

// spare stands in the memory beyond the length of the slices of roomyHeap.
const spare = 77

func mustParse(t *testing.T, text string) impl.Heap {
	t.Helper()
	h, ok := impl.ParseHeap(text)
	if !ok {
		t.Fatalf("ParseHeap(%q) returns false", text)
	}
	return h
}

func cloneHeap(h impl.Heap) impl.Heap {
	return impl.Heap{Left: slices.Clone(h.Left), Right: slices.Clone(h.Right), Roots: slices.Clone(h.Roots)}
}

func isZeroHeap(h impl.Heap) bool {
	return len(h.Left) == 0 && len(h.Right) == 0 && len(h.Roots) == 0
}

func equalHeaps(a, b impl.Heap) bool {
	return slices.Equal(a.Left, b.Left) && slices.Equal(a.Right, b.Right) && slices.Equal(a.Roots, b.Roots)
}

// roomy returns the list with unused capacity, which is filled with spare.
func roomy(list []int) []int {
	out := make([]int, len(list), len(list)+4)
	copy(out, list)
	rest := out[len(list):cap(out)]
	for i := range rest {
		rest[i] = spare
	}
	return out
}

func roomyHeap(h impl.Heap) impl.Heap {
	return impl.Heap{Left: roomy(h.Left), Right: roomy(h.Right), Roots: roomy(h.Roots)}
}

// isRoomyOf reports whether a roomy list is still as roomy made it of want.
func isRoomyOf(list, want []int) bool {
	return slices.Equal(list[:cap(list)], roomy(want)[:len(want)+4])
}

func isRoomyHeapOf(h, want impl.Heap) bool {
	return isRoomyOf(h.Left, want.Left) && isRoomyOf(h.Right, want.Right) && isRoomyOf(h.Roots, want.Roots)
}

// overwrite writes over all memory of a list, its unused capacity included.
func overwrite[T any](list []T, value T) {
	list = list[:cap(list)]
	for i := range list {
		list[i] = value
	}
}

func all[T comparable](list []T, value T) bool {
	for _, x := range list {
		if x != value {
			return false
		}
	}
	return true
}

// checkOwnMemory writes over each slice of some results and sees whether another one changes with it.
func checkOwnMemory(t *testing.T, what string, lists ...[]int) {
	t.Helper()
	checkOwn(t, what, func(i int) int { return 100 + i }, lists)
}

// checkOwn writes different values over the lists.
func checkOwn[T comparable](t *testing.T, what string, value func(i int) T, lists [][]T) {
	t.Helper()
	for i, list := range lists {
		overwrite(list, value(i))
	}
	for i, list := range lists {
		if !all(list[:cap(list)], value(i)) {
			t.Errorf("%s: slices of results share memory", what)
		}
	}
}

func heapLists(h impl.Heap) [][]int {
	return [][]int{h.Left, h.Right, h.Roots}
}

// someHeaps returns valid heaps: of one cell, with cells that point to themselves, with roots
// that point to nothing, and of the greatest size.
func someHeaps(t *testing.T) []impl.Heap {
	t.Helper()
	var heaps []impl.Heap
	for _, text := range []string{
		"-- / -", "00 / 0", "0- / -", "-0 / 0 - 0",
		"-- -- / -", "1- -0 / 1", "01 11 / - 1",
		"1- -- 0- / 0", "-- 2- -0 / 1", "12 2- -- / - 2 -",
		"1- 2- 3- 4- 5- 6- 7- -0 / 7", "77 66 55 44 33 22 11 00 / 7 0 3", "-- -- -- -- -- -- -- -- / - - -",
	} {
		heaps = append(heaps, mustParse(t, text))
	}
	return heaps
}

// badHeaps returns heaps that are not valid, each for one reason.
func badHeaps() map[string]impl.Heap {
	return map[string]impl.Heap{
		"zero value":                {},
		"no cells":                  {Left: []int{}, Right: []int{}, Roots: []int{-1}},
		"no roots":                  {Left: []int{-1}, Right: []int{-1}},
		"no left pointers":          {Right: []int{-1}, Roots: []int{-1}},
		"no right pointers":         {Left: []int{-1}, Roots: []int{-1}},
		"a right pointer too few":   {Left: []int{-1, -1}, Right: []int{-1}, Roots: []int{-1}},
		"a right pointer too many":  {Left: []int{-1, -1}, Right: []int{-1, -1, -1}, Roots: []int{-1}},
		"nine cells":                {Left: nones(9), Right: nones(9), Roots: nones(1)},
		"nine left pointers":        {Left: nones(9), Right: nones(8), Roots: nones(1)},
		"four roots":                {Left: nones(2), Right: nones(2), Roots: nones(4)},
		"left past the end":         {Left: []int{-1, 2}, Right: []int{-1, -1}, Roots: []int{-1}},
		"right past the end":        {Left: []int{-1, -1}, Right: []int{2, -1}, Roots: []int{-1}},
		"root past the end":         {Left: []int{-1, -1}, Right: []int{-1, -1}, Roots: []int{0, 2}},
		"left less than None":       {Left: []int{-2}, Right: []int{-1}, Roots: []int{-1}},
		"right less than None":      {Left: []int{-1}, Right: []int{-2}, Roots: []int{-1}},
		"root less than None":       {Left: []int{-1}, Right: []int{-1}, Roots: []int{-2}},
		"left past all cells":       {Left: append(nones(7), 8), Right: nones(8), Roots: nones(3)},
		"right past all cells":      {Left: nones(8), Right: append(nones(7), 8), Roots: nones(3)},
		"root past all cells":       {Left: nones(8), Right: nones(8), Roots: append(nones(2), 8)},
		"the greatest left pointer": {Left: []int{int(^uint(0) >> 1)}, Right: nones(1), Roots: nones(1)},
		"the least root":            {Left: nones(1), Right: nones(1), Roots: []int{-int(^uint(0)>>1) - 1}},
	}
}

// goodAndBadHeaps returns the heaps of someHeaps and of badHeaps, with a name for each.
func goodAndBadHeaps(t *testing.T) map[string]impl.Heap {
	t.Helper()
	heaps := badHeaps()
	for _, h := range someHeaps(t) {
		heaps[impl.FormatHeap(h)] = h
	}
	return heaps
}

// checkSame checks a function that reports whether two values are equal: on two values that one
// returns, on one of them that is changed, and on two with the same change.
func checkSame[T any](t *testing.T, name string, same func(a, b T) bool, one func() T, changes map[string]func(*T)) {
	t.Helper()
	if !same(one(), one()) {
		t.Errorf("%s of equal values = false", name)
	}
	for what, change := range changes {
		a, b := one(), one()
		change(&a)
		if same(a, b) || same(b, a) {
			t.Errorf("%s = true, though the values differ by %s", name, what)
		}
		change(&b)
		if !same(a, b) {
			t.Errorf("%s = false after the same change, %s", name, what)
		}
	}
}

func nones(count int) []int {
	list := make([]int, count)
	for i := range list {
		list[i] = -1
	}
	return list
}

// everyHeap calls see with each heap of so many cells and roots.
func everyHeap(cells, roots int, see func(impl.Heap)) {
	pointers := nones(2*cells + roots)
	for more := true; more; more = nextPointers(pointers, cells) {
		see(heapOf(pointers, cells))
	}
}

func heapOf(pointers []int, cells int) impl.Heap {
	return impl.Heap{
		Left:  slices.Clone(pointers[:cells]),
		Right: slices.Clone(pointers[cells : 2*cells]),
		Roots: slices.Clone(pointers[2*cells:]),
	}
}

// nextPointers counts on, with the pointers as digits; false after the last.
func nextPointers(pointers []int, cells int) bool {
	for i := range pointers {
		if pointers[i]++; pointers[i] < cells {
			return true
		}
		pointers[i] = -1
	}
	return false
}

// mixedHeaps returns so many heaps of all sizes, with few and with many pointers, the same in each run.
func mixedHeaps(count int) []impl.Heap {
	random := rand.New(rand.NewPCG(1, 2))
	heaps := make([]impl.Heap, count)
	for i := range heaps {
		cells := 1 + random.IntN(8)
		pointers := nones(2*cells + 1 + random.IntN(3))
		few := random.IntN(4)
		for at := range pointers {
			if random.IntN(4) >= few {
				pointers[at] = random.IntN(cells)
			}
		}
		heaps[i] = heapOf(pointers, cells)
	}
	return heaps
}
