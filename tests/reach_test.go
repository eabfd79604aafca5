package tests

import (
	"math"
	"slices"
	"testing"

	"loop.example/cellcollector/impl"
)

// far is more cells than a shortest way has.
const far = 100

// A wayTable has the least number of cells of a way from one cell to another.
type wayTable struct {
	heap   impl.Heap
	cells  int
	length [8][8]int
}

// newWayTable takes each cell in turn as one that ways may go through.
func newWayTable(h impl.Heap) *wayTable {
	w := &wayTable{heap: h, cells: len(h.Left)}
	for a := range w.cells {
		for b := range w.cells {
			w.length[a][b] = far
			if w.points(a, b) {
				w.length[a][b] = 2
			}
			if a == b {
				w.length[a][b] = 1
			}
		}
	}
	for through := range w.cells {
		for a := range w.cells {
			for b := range w.cells {
				w.length[a][b] = min(w.length[a][b], w.length[a][through]+w.length[through][b]-1)
			}
		}
	}
	return w
}

func (w *wayTable) points(a, b int) bool {
	return w.heap.Left[a] == b || w.heap.Right[a] == b
}

// distance returns far, or more, for garbage.
func (w *wayTable) distance(cell int) int {
	least := far
	for _, root := range w.heap.Roots {
		if root != -1 {
			least = min(least, w.length[root][cell])
		}
	}
	return least
}

func (w *wayTable) cycle(cell int) bool {
	for next := range w.cells {
		if w.points(cell, next) && w.length[next][cell] < far {
			return true
		}
	}
	return false
}

func (w *wayTable) sources(cell int) []int {
	var sources []int
	for a := range w.cells {
		if w.points(a, cell) {
			sources = append(sources, a)
		}
	}
	return sources
}

// isPath reports whether the document's words for PathTo hold for the path.
func (w *wayTable) isPath(path []int, cell int) bool {
	if len(path) != w.distance(cell) || path[len(path)-1] != cell {
		return false
	}
	for place, after := range path[1:] {
		for a := range w.cells {
			fits := w.points(a, after) && w.distance(a) == w.distance(after)-1
			if a == path[place] && !fits || a < path[place] && fits {
				return false
			}
		}
	}
	return true
}

// checkReach compares all functions of the chapter with the table.
func checkReach(t *testing.T, h impl.Heap) {
	t.Helper()
	w := newWayTable(h)
	live := make([]bool, w.cells)
	var garbage []int
	for cell := range live {
		live[cell] = w.distance(cell) < far
		if !live[cell] {
			garbage = append(garbage, cell)
		}
		checkReachOf(t, w, cell)
	}
	if got := impl.Reachable(h); !slices.Equal(got, live) {
		t.Fatalf("%q: Reachable = %v", impl.FormatHeap(h), got)
	}
	if got := impl.GarbageOf(h); !slices.Equal(got, garbage) {
		t.Fatalf("%q: GarbageOf = %v", impl.FormatHeap(h), got)
	}
	if got := impl.CountLive(h); got != w.cells-len(garbage) {
		t.Fatalf("%q: CountLive = %d", impl.FormatHeap(h), got)
	}
}

func checkReachOf(t *testing.T, w *wayTable, cell int) {
	t.Helper()
	h := w.heap
	want, live := w.distance(cell), true
	if want >= far {
		want, live = 0, false
	}
	if got, ok := impl.DistanceOf(h, cell); ok != live || got != want {
		t.Fatalf("%q: DistanceOf(%d) = %d, %v", impl.FormatHeap(h), cell, got, ok)
	}
	path, ok := impl.PathTo(h, cell)
	if ok != live || ok && !w.isPath(path, cell) || !ok && len(path) != 0 {
		t.Fatalf("%q: PathTo(%d) = %v, %v", impl.FormatHeap(h), cell, path, ok)
	}
	if got := impl.HasCycle(h, cell); got != w.cycle(cell) {
		t.Fatalf("%q: HasCycle(%d) = %v", impl.FormatHeap(h), cell, got)
	}
	if got := impl.SourcesOf(h, cell); !slices.Equal(got, w.sources(cell)) {
		t.Fatalf("%q: SourcesOf(%d) = %v", impl.FormatHeap(h), cell, got)
	}
}

func TestReachOfSmallHeaps(t *testing.T) {
	for cells := 1; cells <= 3; cells++ {
		for roots := 1; roots <= 3; roots++ {
			if cells*roots < 9 {
				everyHeap(cells, roots, func(h impl.Heap) { checkReach(t, h) })
			}
		}
	}
}

func TestReachOfAllSizes(t *testing.T) {
	for _, h := range someHeaps(t) {
		checkReach(t, h)
	}
	for _, h := range mixedHeaps(20000) {
		checkReach(t, h)
	}
}

func TestGarbage(t *testing.T) {
	for _, c := range []struct {
		what    string
		text    string
		garbage []int
	}{
		{"the document's example", "1- -- 0- / 0", []int{2}},
		{"garbage that points to what is live", "-- 0- 02 / 0", []int{1, 2}},
		{"a circle of garbage", "-- 2- 3- 1- / 0", []int{1, 2, 3}},
		{"a circle of garbage that points to what is live", "-- 20 1- / 0", []int{1, 2}},
		{"garbage that points to itself", "11 -- -2 / 0", []int{2}},
		{"a live circle", "1- 2- 0- / 1", nil},
		{"a root that points to nothing beside one that does not", "-- -- / - 1", []int{0}},
		{"no root that points to anything", "1- 0- / - - -", []int{0, 1}},
		{"a cell that only a right pointer reaches", "-1 -- / 0", nil},
		{"one cell that is live", "-- / 0", nil},
		{"one cell that is garbage", "00 / -", []int{0}},
		{"eight cells in a row", "1- 2- 3- 4- 5- 6- 7- -- / 0", nil},
		{"eight cells in a row, from the middle one", "1- 2- 3- 4- 5- 6- 7- -- / 4", []int{0, 1, 2, 3}},
		{"eight cells that are garbage", "1- 2- 3- 4- 5- 6- 7- 0- / -", []int{0, 1, 2, 3, 4, 5, 6, 7}},
	} {
		h := mustParse(t, c.text)
		if got := impl.GarbageOf(h); !slices.Equal(got, c.garbage) {
			t.Errorf("%s: GarbageOf(%q) = %v", c.what, c.text, got)
		}
		if got := impl.CountLive(h); got != len(h.Left)-len(c.garbage) {
			t.Errorf("%s: CountLive(%q) = %d", c.what, c.text, got)
		}
		for cell, live := range impl.Reachable(h) {
			if live == slices.Contains(c.garbage, cell) {
				t.Errorf("%s: Reachable(%q) says %v for the cell %d", c.what, c.text, live, cell)
			}
		}
	}
}

func TestShortestWays(t *testing.T) {
	for _, c := range []struct {
		what string
		text string
		cell int
		path []int
	}{
		{"a root points to it", "1- -- 0- / 0", 0, []int{0}},
		{"one pointer", "1- -- 0- / 0", 1, []int{0, 1}},
		{"garbage", "1- -- 0- / 0", 2, nil},
		{"two shortest ways", "12 3- 3- -- / 0", 3, []int{0, 1, 3}},
		{"two shortest ways, of which the right one is the least", "21 3- 3- -- / 0", 3, []int{0, 1, 3}},
		{"two shortest ways from two roots", "3- 3- -- -- / 1 0", 3, []int{0, 3}},
		{"two shortest ways that differ early", "-- -- 3- 4- 0- 46 -- / 2 5", 0, []int{5, 4, 0}},
		{"the least cell is not nearest the root first", "12 5- 4- -- 3- -3 / 0", 3, []int{0, 2, 4, 3}},
		{"a shorter way from the second root", "1- 2- -- / 0 1", 2, []int{1, 2}},
		{"a root that points to a cell on the way", "1- 2- -- / 0 2", 2, []int{2}},
		{"a source of the same distance that is less", "1- -- / 0 1", 1, []int{1}},
		{"garbage that points to it and is less", "2- 2- -- / 1", 2, []int{1, 2}},
		{"a circle", "1- 2- 0- / 1", 0, []int{1, 2, 0}},
		{"eight cells in a row", "1- 2- 3- 4- 5- 6- 7- -- / 0", 7, []int{0, 1, 2, 3, 4, 5, 6, 7}},
		{"eight cells backward", "-- -0 -1 -2 -3 -4 -5 -6 / - - 7", 0, []int{7, 6, 5, 4, 3, 2, 1, 0}},
	} {
		h := mustParse(t, c.text)
		live := len(c.path) > 0
		if got, ok := impl.PathTo(h, c.cell); ok != live || !slices.Equal(got, c.path) {
			t.Errorf("%s: PathTo(%q, %d) = %v, %v", c.what, c.text, c.cell, got, ok)
		}
		if got, ok := impl.DistanceOf(h, c.cell); ok != live || got != len(c.path) {
			t.Errorf("%s: DistanceOf(%q, %d) = %d, %v", c.what, c.text, c.cell, got, ok)
		}
	}
}

func TestHasCycle(t *testing.T) {
	for _, c := range []struct {
		text  string
		cells []int
	}{
		{"-- / 0", nil}, {"0- / 0", []int{0}}, {"-0 / -", []int{0}}, {"00 / -", []int{0}},
		{"1- 0- / -", []int{0, 1}}, {"1- 1- / 0", []int{1}}, {"1- -- / 0", nil},
		{"12 3- 3- 0- / 0 2", []int{0, 1, 2, 3}}, {"12 3- 3- -- / 0", nil},
		{"1- 2- 1- / 0", []int{1, 2}}, {"-- 2- -1 / 0", []int{1, 2}},
		{"1- 2- 3- 4- 5- 6- 7- -0 / -", []int{0, 1, 2, 3, 4, 5, 6, 7}},
		{"1- 2- 3- 4- 5- 6- 7- -- / 0", nil},
	} {
		h := mustParse(t, c.text)
		for cell := range h.Left {
			if got := impl.HasCycle(h, cell); got != slices.Contains(c.cells, cell) {
				t.Errorf("HasCycle(%q, %d) = %v", c.text, cell, got)
			}
		}
	}
}

func TestSourcesOf(t *testing.T) {
	for _, c := range []struct {
		text    string
		cell    int
		sources []int
	}{
		{"00 / 0", 0, []int{0}}, {"-- / 0", 0, nil}, {"0- / -", 0, []int{0}}, {"-0 / -", 0, []int{0}},
		{"12 3- -3 0- / 0 2", 3, []int{1, 2}}, {"1- -- 0- / 0", 0, []int{2}}, {"1- -- 0- / 0", 2, nil},
		{"77 7- -7 77 7- -7 77 77 / -", 7, []int{0, 1, 2, 3, 4, 5, 6, 7}},
	} {
		if got := impl.SourcesOf(mustParse(t, c.text), c.cell); !slices.Equal(got, c.sources) {
			t.Errorf("SourcesOf(%q, %d) = %v", c.text, c.cell, got)
		}
	}
}

// checkNoReach holds for an invalid heap, and, for a valid one, where cell is no cell of it.
func checkNoReach(t *testing.T, what string, h impl.Heap, cell int) {
	t.Helper()
	if n, ok := impl.DistanceOf(h, cell); ok || n != 0 {
		t.Errorf("%s: DistanceOf(%d) = %d, %v", what, cell, n, ok)
	}
	if path, ok := impl.PathTo(h, cell); ok || len(path) != 0 {
		t.Errorf("%s: PathTo(%d) = %v, %v", what, cell, path, ok)
	}
	if impl.HasCycle(h, cell) {
		t.Errorf("%s: HasCycle(%d) = true", what, cell)
	}
	if sources := impl.SourcesOf(h, cell); len(sources) != 0 {
		t.Errorf("%s: SourcesOf(%d) = %v", what, cell, sources)
	}
}

func TestReachOfBadHeaps(t *testing.T) {
	for reason, h := range badHeaps() {
		if live := impl.Reachable(h); len(live) != 0 {
			t.Errorf("%s: Reachable = %v", reason, live)
		}
		if count := impl.CountLive(h); count != 0 {
			t.Errorf("%s: CountLive = %d", reason, count)
		}
		if garbage := impl.GarbageOf(h); len(garbage) != 0 {
			t.Errorf("%s: GarbageOf = %v", reason, garbage)
		}
		for cell := -2; cell < 10; cell++ {
			checkNoReach(t, reason, h, cell)
		}
	}
}

// TestReachOfBadPointers has heaps whose cells would be live, or in a circle, but for one pointer.
func TestReachOfBadPointers(t *testing.T) {
	for reason, h := range map[string]impl.Heap{
		"a left pointer past the end": {Left: []int{0, 2}, Right: []int{0, 0}, Roots: []int{0, 1}},
		"a root past the end":         {Left: []int{0, 1}, Right: []int{1, 0}, Roots: []int{0, 2}},
		"four roots":                  {Left: []int{0, 1}, Right: []int{1, 0}, Roots: []int{0, 1, 0, 1}},
		"no right pointers":           {Left: []int{0, 1}, Roots: []int{0, 1}},
		"nine cells":                  {Left: make([]int, 9), Right: make([]int, 9), Roots: []int{0}},
	} {
		if len(impl.Reachable(h)) != 0 || impl.CountLive(h) != 0 || len(impl.GarbageOf(h)) != 0 {
			t.Errorf("a heap with %s is accepted", reason)
		}
		for cell := range h.Left {
			checkNoReach(t, reason, h, cell)
		}
	}
}

func TestReachOfNoCell(t *testing.T) {
	for _, h := range someHeaps(t) {
		cells := len(h.Left)
		for _, cell := range []int{math.MinInt, -2, -1, cells, cells + 1, 100, math.MaxInt} {
			checkNoReach(t, impl.FormatHeap(h), h, cell)
		}
	}
}

func TestReachChangesNothing(t *testing.T) {
	for what, h := range goodAndBadHeaps(t) {
		argument := roomyHeap(h)
		impl.CountLive(argument)
		lists := [][]int{impl.GarbageOf(argument)}
		for cell := -1; cell <= len(h.Left); cell++ {
			path, _ := impl.PathTo(argument, cell)
			lists = append(lists, path, impl.SourcesOf(argument, cell))
			impl.DistanceOf(argument, cell)
			impl.HasCycle(argument, cell)
		}
		live := impl.Reachable(argument)
		for i := range live {
			live[i] = !live[i]
		}
		checkOwnMemory(t, what, lists...)
		if !isRoomyHeapOf(argument, h) {
			t.Errorf("%s: a function changes its argument, or shares memory with it", what)
		}
	}
}
