package tests

import (
	"math"
	"math/rand/v2"
	"slices"
	"strconv"
	"testing"

	"loop.example/cellcollector/impl"
)

// allCells returns so many cells, in ascending order.
func allCells(cells int) []int {
	list := make([]int, cells)
	for cell := range list {
		list[cell] = cell
	}
	return list
}

// orderIn is the document's OrderOf, for a valid heap: row by row, first that of the roots.
func orderIn(h impl.Heap) []int {
	var order []int
	for row := h.Roots; len(row) > 0; {
		var below []int
		for _, cell := range row {
			if cell != -1 && !slices.Contains(order, cell) {
				order = append(order, cell)
				below = append(below, h.Left[cell], h.Right[cell])
			}
		}
		row = below
	}
	return order
}

// copiedIn is the document's CopyHeap, for a valid heap. None is not in the order, and so slices.Index
// returns -1 for it, which is None again.
func copiedIn(h impl.Heap) (impl.Heap, []int) {
	order := orderIn(h)
	copied := impl.Heap{Left: nones(len(h.Left)), Right: nones(len(h.Left)), Roots: nones(len(h.Roots))}
	where := nones(len(h.Left))
	for cell := range where {
		where[cell] = slices.Index(order, cell)
	}
	for place, cell := range order {
		copied.Left[place] = slices.Index(order, h.Left[cell])
		copied.Right[place] = slices.Index(order, h.Right[cell])
	}
	for root, cell := range h.Roots {
		copied.Roots[root] = slices.Index(order, cell)
	}
	return copied, where
}

// steppedIn is the document's CopyStep, for a valid heap.
func steppedIn(h impl.Heap, seen []int, at int) ([]int, bool) {
	if !areDifferentCells(seen, len(h.Left)) || at < 0 || at >= len(seen) {
		return nil, false
	}
	after := slices.Clone(seen)
	left, right := h.Left[seen[at]], h.Right[seen[at]]
	if left != -1 && !slices.Contains(seen, left) {
		after = append(after, left)
	}
	if right != -1 && right != left && !slices.Contains(seen, right) {
		after = append(after, right)
	}
	return after, true
}

func areDifferentCells(list []int, cells int) bool {
	for i, cell := range list {
		if cell < 0 || cell >= cells || slices.Index(list, cell) != i {
			return false
		}
	}
	return true
}

// movedIn is the document's MoveCells, for a valid heap: for each new number, it looks for the cell that gets it.
func movedIn(h impl.Heap, to []int) (impl.Heap, bool) {
	cells := len(h.Left)
	if len(to) != cells || !areDifferentCells(to, cells) {
		return impl.Heap{}, false
	}
	number := func(pointer int) int {
		if pointer == -1 {
			return -1
		}
		return to[pointer]
	}
	var moved impl.Heap
	for place := range cells {
		cell := slices.Index(to, place)
		moved.Left = append(moved.Left, number(h.Left[cell]))
		moved.Right = append(moved.Right, number(h.Right[cell]))
	}
	for _, root := range h.Roots {
		moved.Roots = append(moved.Roots, number(root))
	}
	return moved, true
}

// A match has for the cells of one heap those of another one that take their places, and the other way round.
type match struct {
	a, b     impl.Heap
	of, back map[int]int
}

// fits reports whether all that a pointer of a and one of b lead to can take each other's places.
func (m *match) fits(x, y int) bool {
	of, known := m.of[x]
	back, taken := m.back[y]
	if known || taken {
		return known && taken && of == y && back == x
	}
	m.of[x], m.back[y] = y, x
	return m.fits(m.a.Left[x], m.b.Left[y]) && m.fits(m.a.Right[x], m.b.Right[y])
}

// alikeIn is the document's HeapsAlike, for valid heaps: without copies, by a match of the cells.
func alikeIn(a, b impl.Heap) bool {
	if len(a.Roots) != len(b.Roots) {
		return false
	}
	m := &match{a: a, b: b, of: map[int]int{-1: -1}, back: map[int]int{-1: -1}}
	for root := range a.Roots {
		if !m.fits(a.Roots[root], b.Roots[root]) {
			return false
		}
	}
	return true
}

func checkAlike(t *testing.T, a, b impl.Heap, want bool) {
	t.Helper()
	if impl.HeapsAlike(a, b) != want || impl.HeapsAlike(b, a) != want {
		t.Fatalf("HeapsAlike of %q and %q = %v, and of the second and the first = %v",
			impl.FormatHeap(a), impl.FormatHeap(b), impl.HeapsAlike(a, b), impl.HeapsAlike(b, a))
	}
}

func checkStep(t *testing.T, h impl.Heap, seen []int, at int) {
	t.Helper()
	want, wantOk := steppedIn(h, seen, at)
	if got, ok := impl.CopyStep(h, seen, at); ok != wantOk || !slices.Equal(got, want) {
		t.Fatalf("%q: CopyStep(%v, %d) = %v, %v, not %v, %v", impl.FormatHeap(h), seen, at, got, ok, want, wantOk)
	}
}

func checkMove(t *testing.T, h impl.Heap, to []int) {
	t.Helper()
	want, wantOk := movedIn(h, to)
	got, ok := impl.MoveCells(h, to)
	if ok != wantOk || !equalHeaps(got, want) {
		t.Fatalf("%q: MoveCells(%v) = %v, %v, not %v, %v", impl.FormatHeap(h), to, got, ok, want, wantOk)
	}
	if ok {
		checkAlike(t, h, got, true)
	}
}

// checkCopy compares the functions that take a heap alone with the document's words.
func checkCopy(t *testing.T, h impl.Heap) {
	t.Helper()
	order := orderIn(h)
	if got := impl.OrderOf(h); !slices.Equal(got, order) {
		t.Fatalf("%q: OrderOf = %v, not %v", impl.FormatHeap(h), got, order)
	}
	want, numbers := copiedIn(h)
	got, where, ok := impl.CopyHeap(h)
	if !ok || !equalHeaps(got, want) || !slices.Equal(where, numbers) {
		t.Fatalf("%q: CopyHeap = %v, %v, %v, not %v, %v", impl.FormatHeap(h), got, where, ok, want, numbers)
	}
	checkAlike(t, h, h, true)
	checkAlike(t, h, got, true)
	checkOrderByWays(t, h, order)
	checkScan(t, h, order)
}

// checkOrderByWays holds for every order in which a copy meets cells: all live ones, and the nearer ones first.
func checkOrderByWays(t *testing.T, h impl.Heap, order []int) {
	t.Helper()
	w := newWayTable(h)
	for cell := range h.Left {
		if live := w.distance(cell) < far; live != slices.Contains(order, cell) {
			t.Fatalf("%q: the order %v has the cell %d: %v", impl.FormatHeap(h), order, cell, !live)
		}
	}
	if !slices.IsSortedFunc(order, func(a, b int) int { return w.distance(a) - w.distance(b) }) {
		t.Fatalf("%q: the order %v is not that of the distances", impl.FormatHeap(h), order)
	}
}

// checkScan copies step by step, from the cells of the roots on, which must meet the cells in the order.
func checkScan(t *testing.T, h impl.Heap, order []int) {
	t.Helper()
	w := newWayTable(h)
	rooted := 0
	for rooted < len(order) && w.distance(order[rooted]) == 1 {
		rooted++
	}
	seen := order[:rooted]
	for at := 0; at < len(seen); at++ {
		checkStep(t, h, seen, at)
		seen, _ = impl.CopyStep(h, seen, at)
	}
	if !slices.Equal(seen, order) {
		t.Fatalf("%q: steps meet %v", impl.FormatHeap(h), seen)
	}
}

func TestCopiesOfSmallHeaps(t *testing.T) {
	for cells := 1; cells <= 3; cells++ {
		for roots := 1; roots <= 3; roots++ {
			if cells*roots < 9 {
				everyHeap(cells, roots, func(h impl.Heap) { checkCopy(t, h) })
			}
		}
	}
}

func TestCopiesOfAllSizes(t *testing.T) {
	random := rand.New(rand.NewPCG(22, 23))
	for _, h := range append(someHeaps(t), mixedHeaps(20000)...) {
		checkCopy(t, h)
		cells := len(h.Left)
		checkMove(t, h, random.Perm(cells))
		seen := random.Perm(cells)[:random.IntN(cells+1)]
		for at := -1; at <= len(seen); at++ {
			checkStep(t, h, seen, at)
		}
	}
}

// TestCopyLooksTheSame is promise 10: a copy looks the same from its roots, and has no garbage between.
func TestCopyLooksTheSame(t *testing.T) {
	garbage := 0
	for _, h := range mixedHeaps(20000) {
		copied, where, ok := impl.CopyHeap(h)
		live := impl.CountLive(h)
		if !ok || !impl.HeapValid(copied) || !alikeIn(h, copied) || impl.CountLive(copied) != live {
			t.Fatalf("%q: CopyHeap = %v, %v, %v", impl.FormatHeap(h), copied, where, ok)
		}
		for i, cell := range impl.GarbageOf(copied) {
			if cell != live+i || copied.Left[cell] != -1 || copied.Right[cell] != -1 {
				t.Fatalf("%q: CopyHeap = %q, with garbage in the cell %d", impl.FormatHeap(h), impl.FormatHeap(copied), cell)
			}
			garbage++
		}
		again, same, ok := impl.CopyHeap(copied)
		if !ok || !equalHeaps(again, copied) || !slices.IsSorted(same[:live]) || !all(same[live:], -1) {
			t.Fatalf("%q: CopyHeap of the copy = %v, %v, %v", impl.FormatHeap(h), again, same, ok)
		}
	}
	if garbage == 0 {
		t.Error("no heap had garbage")
	}
}

func TestOrderOf(t *testing.T) {
	for _, c := range []struct {
		what string
		text string
		want []int
	}{
		{"the document's example", "-- 2- -0 / 1", []int{1, 2, 0}},
		{"a root that points to nothing", "-- / -", nil},
		{"no live cells", "1- 0- -- / - - -", nil},
		{"one cell", "-- / 0", []int{0}},
		{"two roots to one cell", "-- -- / 1 1", []int{1}},
		{"three roots to one cell that points to itself", "00 / 0 0 0", []int{0}},
		{"two roots to one cell, and one between", "-- -- -- / 2 0 2", []int{2, 0}},
		{"the order of the roots", "-- -- -- / 2 0 1", []int{2, 0, 1}},
		{"a root that points to nothing, and one behind", "-- -- / - 1", []int{1}},
		{"left before right", "-- 20 -- / 1", []int{1, 2, 0}},
		{"a right pointer alone", "-- -0 / 1", []int{1, 0}},
		{"both pointers to one cell", "11 -- / 0", []int{0, 1}},
		{"all roots before what the first one leads to", "1- -- -- / 0 2", []int{0, 2, 1}},
		{"a root's cell to which another one points", "12 -- -- / 0 2", []int{0, 2, 1}},
		{"a circle", "1- 2- 0- / 1", []int{1, 2, 0}},
		{"a circle with two roots in it", "1- 2- 0- / 2 1", []int{2, 1, 0}},
		{"a circle of garbage", "-- 2- 1- / 0", []int{0}},
		{"garbage that points to a live cell", "2- -- -- / 2", []int{2}},
		{"the cells beside come before those below", "12 34 56 -- -- -- -- / 0", []int{0, 1, 2, 3, 4, 5, 6}},
		{"the same with the cells in another order", "-- -- 60 -1 -- 43 -- 52 / 7", []int{7, 5, 2, 4, 3, 6, 0, 1}},
		{"a shorter and a longer way to a cell", "12 -- 1- / 0", []int{0, 1, 2}},
		{"eight cells in a row, backward", "-- 0- -1 2- -3 4- -5 6- / 7 - -", []int{7, 6, 5, 4, 3, 2, 1, 0}},
	} {
		if got := impl.OrderOf(mustParse(t, c.text)); !slices.Equal(got, c.want) {
			t.Errorf("%s: OrderOf = %v", c.what, got)
		}
	}
}

func TestCopyHeap(t *testing.T) {
	for _, c := range []struct {
		what  string
		text  string
		want  string
		where []int
	}{
		{"the document's example", "-- 2- -0 / 1", "1- -2 -- / 0", []int{2, 0, 1}},
		{"one cell", "-- / 0", "-- / 0", []int{0}},
		{"one cell that is garbage and points to itself", "00 / -", "-- / -", []int{-1}},
		{"one cell with three roots", "0- / 0 - 0", "0- / 0 - 0", []int{0}},
		{"no live cells", "1- 0- / - -", "-- -- / - -", []int{-1, -1}},
		{"two roots to one cell", "-- -0 / 1 1", "-1 -- / 0 0", []int{1, 0}},
		{"a circle", "1- 2- 0- / 1", "1- 2- 0- / 0", []int{2, 0, 1}},
		{"a circle with two roots in it", "1- 2- 0- / 2 1", "2- 0- 1- / 0 1", []int{2, 1, 0}},
		{"a circle of garbage", "1- 0- -2 / 2", "-0 -- -- / 0", []int{-1, -1, 0}},
		{"garbage between live cells", "-- -- 4- -- -2 / 2", "1- -0 -- -- -- / 0", []int{-1, -1, 0, -1, 1}},
		{"garbage that points to a live cell", "11 -- / 1", "-- -- / 0", []int{-1, 0}},
		{"garbage at the end", "1- -- 01 / 0", "1- -- -- / 0", []int{0, 1, -1}},
		{"roots that point to nothing", "-- -- / - 1 -", "-- -- / - 0 -", []int{-1, 0}},
		{"eight cells, all live", "-- 0- -1 2- -3 4- -5 6- / 7 - -", "1- -2 3- -4 5- -6 7- -- / 0 - -", []int{7, 6, 5, 4, 3, 2, 1, 0}},
		{"eight cells that are garbage", "1- 2- 3- 4- 5- 6- 7- 0- / -", "-- -- -- -- -- -- -- -- / -", nones(8)},
		{"the last of eight cells", "-- -- -- -- -- -- -- 77 / - - 7", "00 -- -- -- -- -- -- -- / - - 0", append(nones(7), 0)},
	} {
		got, where, ok := impl.CopyHeap(mustParse(t, c.text))
		if !ok || impl.FormatHeap(got) != c.want || !slices.Equal(where, c.where) {
			t.Errorf("%s: CopyHeap = %q, %v, %v", c.what, impl.FormatHeap(got), where, ok)
		}
	}
}

func TestCopyStep(t *testing.T) {
	for _, c := range []struct {
		what string
		text string
		seen []int
		at   int
		want []int
	}{
		{"nothing is met", "-- -- / -", []int{1}, 0, []int{1}},
		{"left before right", "21 -- -- / 0", []int{0}, 0, []int{0, 2, 1}},
		{"a left pointer alone", "1- -- / 0", []int{0}, 0, []int{0, 1}},
		{"a right pointer alone", "-1 -- / 0", []int{0}, 0, []int{0, 1}},
		{"both pointers to one cell", "11 -- / 0", []int{0}, 0, []int{0, 1}},
		{"a cell that points to itself", "00 / 0", []int{0}, 0, []int{0}},
		{"the left one was seen", "12 -- -- / 0 1", []int{0, 1}, 0, []int{0, 1, 2}},
		{"the right one was seen", "12 -- -- / 0 2", []int{2, 0}, 1, []int{2, 0, 1}},
		{"both were seen", "12 -- -- / 0", []int{0, 1, 2}, 0, []int{0, 1, 2}},
		{"at the end, not behind the place", "1- -- -- / 0 2", []int{0, 2}, 0, []int{0, 2, 1}},
		{"the last place", "1- 2- -- / 0", []int{0, 1}, 1, []int{0, 1, 2}},
		{"a circle", "1- 2- 0- / 0", []int{0, 1, 2}, 2, []int{0, 1, 2}},
		{"garbage was seen", "-- 0- / -", []int{1}, 0, []int{1, 0}},
		{"what the place alone points to", "2- 1- -- / 0", []int{0, 1}, 1, []int{0, 1}},
		{"the last of eight places", "77 77 77 77 77 77 77 77 / 7", []int{0, 1, 2, 3, 4, 5, 6, 7}, 7, []int{0, 1, 2, 3, 4, 5, 6, 7}},
		{"the last cell that is met", "7- -- -- -- -- -- -- -- / 7 0 3", []int{6, 5, 4, 3, 2, 1, 0}, 6, []int{6, 5, 4, 3, 2, 1, 0, 7}},
	} {
		if got, ok := impl.CopyStep(mustParse(t, c.text), c.seen, c.at); !ok || !slices.Equal(got, c.want) {
			t.Errorf("%s: CopyStep = %v, %v", c.what, got, ok)
		}
	}
}

// TestCopyStepOfSmallHeaps has all rows of numbers near the cells of small heaps, most of which are not different cells.
func TestCopyStepOfSmallHeaps(t *testing.T) {
	for _, size := range [][2]int{{1, 1}, {1, 3}, {2, 1}} {
		everyHeap(size[0], size[1], func(h impl.Heap) {
			everyRow(size[0]+1, size[0], nil, func(seen []int) {
				for at := -1; at <= len(seen); at++ {
					checkStep(t, h, seen, at)
				}
			})
		})
	}
	for _, h := range mixedHeaps(300) {
		everyFree(allCells(min(4, len(h.Left))), nil, func(seen []int) {
			for at := range seen {
				checkStep(t, h, seen, at)
			}
		})
	}
}

func TestMoveCells(t *testing.T) {
	for _, c := range []struct {
		what string
		text string
		to   []int
		want string
	}{
		{"one cell", "0- / 0", []int{0}, "0- / 0"},
		{"one cell with three roots", "-- / 0 - 0", []int{0}, "-- / 0 - 0"},
		{"all stay", "-- 2- -0 / 1", []int{0, 1, 2}, "-- 2- -0 / 1"},
		{"all move on by one", "-- 2- -0 / 1", []int{1, 2, 0}, "-1 -- 0- / 2"},
		{"all move back by one", "-- 2- -0 / 1", []int{2, 0, 1}, "1- -2 -- / 0"},
		{"two change places", "1- -2 -- / 0 - 2", []int{0, 2, 1}, "2- -- -1 / 0 - 1"},
		{"two roots to one cell", "-- -- / 1 1", []int{1, 0}, "-- -- / 0 0"},
		{"a circle", "1- 2- 0- / 0", []int{2, 0, 1}, "1- 2- 0- / 2"},
		{"garbage moves with its pointers", "-- 01 / -", []int{1, 0}, "10 -- / -"},
		{"no live cells", "1- -- -- / - - -", []int{2, 0, 1}, "-- -- 0- / - - -"},
		{"eight cells", "1- 2- 3- 4- 5- 6- 7- -0 / 7 - 0", []int{7, 6, 5, 4, 3, 2, 1, 0}, "-7 0- 1- 2- 3- 4- 5- 6- / 0 - 7"},
	} {
		got, ok := impl.MoveCells(mustParse(t, c.text), c.to)
		if !ok || impl.FormatHeap(got) != c.want {
			t.Errorf("%s: MoveCells = %q, %v", c.what, impl.FormatHeap(got), ok)
		}
	}
}

// TestMoveCellsOfSmallHeaps has all rows of numbers near the cells of small heaps, most of which are not all cells.
func TestMoveCellsOfSmallHeaps(t *testing.T) {
	for _, size := range [][2]int{{1, 1}, {1, 3}, {2, 1}, {2, 2}} {
		everyHeap(size[0], size[1], func(h impl.Heap) {
			everyRow(size[0]+1, size[0], nil, func(to []int) { checkMove(t, h, to) })
		})
	}
	for _, h := range someHeaps(t) {
		if len(h.Left) == 3 {
			everyRow(4, 3, nil, func(to []int) { checkMove(t, h, to) })
		}
	}
}

// TestMoveAndBack moves the cells and back again, and needs the same copy of a heap wherever its cells are.
func TestMoveAndBack(t *testing.T) {
	random := rand.New(rand.NewPCG(24, 25))
	for _, h := range mixedHeaps(5000) {
		to := random.Perm(len(h.Left))
		back := make([]int, len(to))
		for cell, number := range to {
			back[number] = cell
		}
		moved, _ := impl.MoveCells(h, to)
		if got, ok := impl.MoveCells(moved, back); !ok || !equalHeaps(got, h) {
			t.Fatalf("%q: MoveCells(%v) and back = %v, %v", impl.FormatHeap(h), to, got, ok)
		}
		copied, _, _ := impl.CopyHeap(h)
		if got, _, ok := impl.CopyHeap(moved); !ok || !equalHeaps(got, copied) {
			t.Fatalf("%q: CopyHeap after MoveCells(%v) = %v, %v", impl.FormatHeap(h), to, got, ok)
		}
	}
}

func TestHeapsAlike(t *testing.T) {
	for _, c := range []struct {
		what string
		a, b string
		want bool
	}{
		{"one cell", "-- / 0", "-- / 0", true},
		{"the document's example", "-- 2- -0 / 1", "1- -2 -- / 0", true},
		{"left in place of right", "-- 2- -0 / 1", "-- -2 -0 / 1", false},
		{"left and right change places", "12 0- -- / 0", "21 0- -- / 0", false},
		{"another root", "1- -- / 0", "1- -- / 1", false},
		{"a root more that points to nothing", "-- / 0", "-- / 0 -", false},
		{"no live cells, and a root more", "-- / -", "-- / - -", false},
		{"roots in another order", "-- / 0 -", "-- / - 0", false},
		{"roots to equal cells in another order", "-- -- / 0 1", "-- -- / 1 0", true},
		{"two roots to one cell, or to two", "-- -- / 0 0", "-- -- / 0 1", false},
		{"two pointers to one cell, or to two", "11 -- -- / 0", "12 -- -- / 0", false},
		{"a circle of one and one of two", "0- -- / 0", "1- 0- / 0", false},
		{"a circle of two and one of three", "1- 0- -- / 0", "1- 2- 0- / 0", false},
		{"a circle from another cell", "1- 2- 0- / 0", "1- 2- 0- / 2", true},
		{"a circle the other way round", "1- 2- 0- / 0", "2- 0- 1- / 0", true},
		{"a circle of left and right pointers", "1- -0 / 0", "1- -0 / 1", false},
		{"a circle, and a row of as many cells", "1- 2- 0- / 0", "1- 2- -- / 0", false},
		{"garbage that is not alike", "-- 12 -- / 0", "-- -- 0- / 0", true},
		{"garbage before, and behind", "-- -- 1- / 1", "-- 0- -- / 0", true},
		{"cells at the end that are not live", "1- -- / 0", "1- -- -- -- 0- / 0", true},
		{"a cell at the end that is live", "-- -- / 0", "1- -- / 0", false},
		{"no live cells, and not as many cells", "1- 0- / -", "-- / -", true},
		{"no live cells, and one", "-- / -", "-- / 0", false},
		{"one live cell of one, and one of eight", "-- / - - 0", "-- -- -- -- -- -- -- 6- / - - 6", true},
		{"one live cell of one, and two of eight", "-- / - - 0", "-- -- -- -- -- -- -- 6- / - - 7", false},
		{"eight live cells", "1- 2- 3- 4- 5- 6- 7- -- / 0", "-- 0- 1- 2- 3- 4- 5- 6- / 7", true},
		{"eight live cells, but for the last one", "1- 2- 3- 4- 5- 6- 7- -- / 0", "-7 0- 1- 2- 3- 4- 5- 6- / 7", false},
	} {
		a, b := mustParse(t, c.a), mustParse(t, c.b)
		if impl.HeapsAlike(a, b) != c.want || impl.HeapsAlike(b, a) != c.want {
			t.Errorf("%s: HeapsAlike = %v, and the other way round = %v", c.what, impl.HeapsAlike(a, b), impl.HeapsAlike(b, a))
		}
	}
}

// TestAllPairsOfSmallHeaps has each heap of one cell, or of two with one root, beside each other one.
func TestAllPairsOfSmallHeaps(t *testing.T) {
	var heaps []impl.Heap
	for _, size := range [][2]int{{1, 1}, {1, 2}, {1, 3}, {2, 1}} {
		everyHeap(size[0], size[1], func(h impl.Heap) { heaps = append(heaps, h) })
	}
	for _, h := range mixedHeaps(300) {
		if len(h.Left) < 4 {
			heaps = append(heaps, h)
		}
	}
	alike := 0
	for _, a := range heaps {
		for _, b := range heaps {
			want := alikeIn(a, b)
			checkAlike(t, a, b, want)
			if want && !equalHeaps(a, b) {
				alike++
			}
		}
	}
	if alike < 1000 {
		t.Errorf("only %d pairs of heaps that differ are alike", alike)
	}
}

// TestAlikeButForOnePointer moves the cells of a heap and then changes a pointer, of a live cell or of garbage.
func TestAlikeButForOnePointer(t *testing.T) {
	random := rand.New(rand.NewPCG(26, 27))
	alike, changed := 0, 0
	for _, h := range mixedHeaps(5000) {
		cells := len(h.Left)
		moved, _ := movedIn(h, random.Perm(cells))
		for range 5 {
			other := cloneHeap(moved)
			list := heapLists(other)[random.IntN(3)]
			list[random.IntN(len(list))] = random.IntN(cells+1) - 1
			want := alikeIn(h, other)
			checkAlike(t, h, other, want)
			if want {
				alike++
			} else {
				changed++
			}
		}
	}
	if alike < 1000 || changed < 1000 {
		t.Errorf("%d are alike, and %d are not", alike, changed)
	}
}

// TestCopiesOfLimits has the smallest heaps and the largest ones, with few and with all live cells.
func TestCopiesOfLimits(t *testing.T) {
	for _, text := range []string{
		"-- / -", "-- / 0", "00 / 0", "-- / - - -", "00 / 0 0 0",
		"-- -- -- -- -- -- -- -- / -", "-- -- -- -- -- -- -- -- / 7", "-- -- -- -- -- -- -- -- / 7 0 3",
		"77 77 77 77 77 77 77 77 / 7 7 7", "1- 2- 3- 4- 5- 6- 7- 0- / 4", "12 34 56 7- -- -- -- -- / 0 0 7",
	} {
		h := mustParse(t, text)
		checkCopy(t, h)
		up := allCells(len(h.Left))
		down := slices.Clone(up)
		slices.Reverse(down)
		checkMove(t, h, up)
		checkMove(t, h, down)
		for at := -1; at <= len(h.Left); at++ {
			checkStep(t, h, up, at)
			checkStep(t, h, down, at)
			checkStep(t, h, down[:len(down)/2], at)
		}
	}
	for cells := range 10 {
		for roots := range 5 {
			h := impl.Heap{Left: nones(cells), Right: nones(cells), Roots: make([]int, roots)}
			valid := cells >= 1 && cells <= 8 && roots >= 1 && roots <= 3
			if got := impl.HeapsAlike(h, h); got != valid {
				t.Errorf("HeapsAlike of %d cells and %d roots = %v", cells, roots, got)
			}
			if _, _, ok := impl.CopyHeap(h); ok != valid || len(impl.OrderOf(h)) > 0 != valid {
				t.Errorf("%d cells and %d roots: CopyHeap = %v, OrderOf = %v", cells, roots, ok, impl.OrderOf(h))
			}
		}
	}
}

// checkNoStep needs the result of a CopyStep that cannot be made.
func checkNoStep(t *testing.T, what string, h impl.Heap, seen []int, at int) {
	t.Helper()
	if got, ok := impl.CopyStep(h, seen, at); ok || len(got) != 0 {
		t.Errorf("%s: CopyStep(%v, %v, %d) = %v, %v", what, h, seen, at, got, ok)
	}
}

func checkNoMove(t *testing.T, what string, h impl.Heap, to []int) {
	t.Helper()
	if got, ok := impl.MoveCells(h, to); ok || !isZeroHeap(got) {
		t.Errorf("%s: MoveCells(%v, %v) = %v, %v", what, h, to, got, ok)
	}
}

func TestCopiesOfBadHeaps(t *testing.T) {
	good := mustParse(t, "-- / -")
	for reason, h := range badHeaps() {
		if got := impl.OrderOf(h); len(got) != 0 {
			t.Errorf("%s: OrderOf = %v", reason, got)
		}
		if got, where, ok := impl.CopyHeap(h); ok || !isZeroHeap(got) || len(where) != 0 {
			t.Errorf("%s: CopyHeap = %v, %v, %v", reason, got, where, ok)
		}
		if impl.HeapsAlike(h, h) || impl.HeapsAlike(h, cloneHeap(h)) || impl.HeapsAlike(h, good) || impl.HeapsAlike(good, h) {
			t.Errorf("%s: HeapsAlike = true", reason)
		}
		var numbers []int
		for count := range 11 {
			checkNoMove(t, reason, h, numbers)
			for at := -1; at <= len(numbers); at++ {
				checkNoStep(t, reason, h, numbers, at)
			}
			numbers = append(numbers, count)
		}
	}
}

// TestCopiesOfOneBadField has a heap with one wrong number at each place in turn.
func TestCopiesOfOneBadField(t *testing.T) {
	for _, good := range someHeaps(t) {
		cells := len(good.Left)
		to := allCells(cells)
		for field := range 3 {
			for place := range heapLists(good)[field] {
				for _, wrong := range []int{math.MinInt, -2, cells, cells + 1, 1 << 32, math.MaxInt} {
					h := cloneHeap(good)
					heapLists(h)[field][place] = wrong
					if _, where, ok := impl.CopyHeap(h); ok || len(where) != 0 || len(impl.OrderOf(h)) != 0 {
						t.Errorf("CopyHeap or OrderOf accepts %v", h)
					}
					if impl.HeapsAlike(h, h) || impl.HeapsAlike(h, good) || impl.HeapsAlike(good, h) {
						t.Errorf("HeapsAlike accepts %v", h)
					}
					checkNoStep(t, "a wrong number", h, to, 0)
					checkNoMove(t, "a wrong number", h, to)
				}
			}
		}
	}
}

// notDifferent returns rows that are not different cells of a heap of so many cells.
func notDifferent(cells int) map[string][]int {
	list := map[string][]int{
		"all cells and one more":  append(allCells(cells), cells),
		"all cells and one again": append(allCells(cells), cells-1),
		"all cells and None":      append(allCells(cells), -1),
	}
	for place := range cells {
		at := " at the place " + strconv.Itoa(place)
		for what, wrong := range map[string]int{
			"None": -1, "less than None": -2, "past the end": cells, "the greatest number": math.MaxInt,
			"the least number": math.MinInt, "a cell in 32 bits": 1<<32 + place, "the cell before": max(place-1, 0),
		} {
			if wrong != place {
				row := allCells(cells)
				row[place] = wrong
				list[what+at] = row
			}
		}
	}
	return list
}

func TestNotDifferentCells(t *testing.T) {
	for _, h := range someHeaps(t) {
		cells := len(h.Left)
		for what, row := range notDifferent(cells) {
			checkNoMove(t, what, h, row)
			for at := -1; at <= len(row); at++ {
				checkNoStep(t, what, h, row, at)
			}
		}
		for _, long := range [][]int{make([]int, 100000), nones(100000)} {
			checkNoMove(t, "very many", h, long)
			checkNoStep(t, "very many", h, long, 0)
		}
	}
}

func TestMoveCellsOfTooFew(t *testing.T) {
	for _, h := range someHeaps(t) {
		to := allCells(len(h.Left))
		for few := range to {
			checkNoMove(t, "too few", h, to[:few])
			checkNoMove(t, "too few, and not the first ones", h, to[few+1:])
		}
		if got, ok := impl.MoveCells(h, to); !ok || !equalHeaps(got, h) {
			t.Errorf("MoveCells(%v, %v) = %v, %v", h, to, got, ok)
		}
	}
}

func TestCopyStepOfNoPlace(t *testing.T) {
	for _, h := range someHeaps(t) {
		var seen []int
		for cell := range h.Left {
			for _, at := range []int{math.MinInt, -2, -1, len(seen), len(seen) + 1, 8, 1 << 32, math.MaxInt} {
				checkNoStep(t, "no such place", h, seen, at)
			}
			seen = append(seen, cell)
			for at := range seen {
				if got, ok := impl.CopyStep(h, seen, at); !ok || !slices.Equal(got[:len(seen)], seen) {
					t.Errorf("CopyStep(%v, %v, %d) = %v, %v", h, seen, at, got, ok)
				}
			}
		}
	}
}

// rowsToChange returns rows for seen and for to, some of which are not valid for so many cells.
func rowsToChange(cells int) [][]int {
	down := allCells(cells)
	slices.Reverse(down)
	return [][]int{nil, {}, {0}, {0, 0}, {-1}, {1, 0}, allCells(cells), down}
}

// copyResults returns all slices of the results of all functions, each as a row of its own.
func copyResults(h impl.Heap, row []int) [][]int {
	copied, where, _ := impl.CopyHeap(h)
	moved, _ := impl.MoveCells(h, row)
	lists := [][]int{impl.OrderOf(h), where}
	lists = append(append(lists, heapLists(copied)...), heapLists(moved)...)
	for at := range row {
		stepped, _ := impl.CopyStep(h, row, at)
		lists = append(lists, stepped)
	}
	return lists
}

func TestCopiesChangeNothing(t *testing.T) {
	for what, h := range goodAndBadHeaps(t) {
		for _, row := range rowsToChange(len(h.Left)) {
			argument, numbers := roomyHeap(h), roomy(row)
			impl.HeapsAlike(argument, argument)
			lists := append(copyResults(argument, numbers), copyResults(argument, numbers)...)
			checkOwnMemory(t, what, lists...)
			if !isRoomyHeapOf(argument, h) || !isRoomyOf(numbers, row) {
				t.Errorf("%s, %v: a function changes its argument, or shares memory with it", what, row)
			}
		}
	}
}

// TestCopiesAgain calls the functions on some heaps in turn, and needs the same results each time.
func TestCopiesAgain(t *testing.T) {
	list := []string{"-- 2- -0 / 1", "1- 0- / -", "00 / 0 0", "-- -- 60 -1 -- 43 -- 52 / 7 0 -"}
	for range 20 {
		for _, text := range list {
			h := mustParse(t, text)
			checkCopy(t, h)
			for _, row := range rowsToChange(len(h.Left)) {
				checkStep(t, h, row, 0)
				checkMove(t, h, row)
			}
			checkNoStep(t, "no heap", impl.Heap{}, []int{0}, 0)
			checkNoMove(t, "no heap", impl.Heap{}, nil)
		}
	}
}
