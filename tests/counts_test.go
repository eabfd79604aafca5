package tests

import (
	"math"
	"math/rand/v2"
	"slices"
	"strconv"
	"testing"

	"loop.example/cellcollector/impl"
)

func counted(s impl.Store, count ...int) impl.Counted {
	return impl.Counted{Store: s, Count: count}
}

func isZeroCounted(c impl.Counted) bool {
	return isZeroStore(c.Store) && len(c.Count) == 0
}

func equalCounted(a, b impl.Counted) bool {
	return equalStores(a.Store, b.Store) && slices.Equal(a.Count, b.Count)
}

func cloneCounted(c impl.Counted) impl.Counted {
	return counted(store(cloneHeap(c.Store.Heap), slices.Clone(c.Store.Free)...), slices.Clone(c.Count)...)
}

func roomyCounted(c impl.Counted) impl.Counted {
	return impl.Counted{Store: roomyStore(c.Store), Count: roomy(c.Count)}
}

func isRoomyCountedOf(c, want impl.Counted) bool {
	return isRoomyStoreOf(c.Store, want.Store) && isRoomyOf(c.Count, want.Count)
}

func countedLists(c impl.Counted) [][]int {
	return append(storeLists(c.Store), c.Count)
}

// countedText is the text of the store and the counts, for a valid value.
func countedText(c impl.Counted) string {
	text := storeText(c.Store) + " counts"
	for _, count := range c.Count {
		text += " " + strconv.Itoa(count)
	}
	return text
}

// mustCounted makes a store with its counts, which must be valid.
func mustCounted(t *testing.T, text string, free ...int) impl.Counted {
	t.Helper()
	c, ok := impl.NewCounted(store(mustParse(t, text), free...))
	if !ok {
		t.Fatalf("NewCounted(%q, %v) returns false", text, free)
	}
	return c
}

// countsIn is the document's CountsOf, for a valid heap.
func countsIn(h impl.Heap) []int {
	pointers := slices.Concat(heapLists(h)...)
	counts := make([]int, len(h.Left))
	for cell := range counts {
		others := slices.DeleteFunc(slices.Clone(pointers), func(pointer int) bool { return pointer == cell })
		counts[cell] = len(pointers) - len(others)
	}
	return counts
}

// givenUp returns c after some pointers were given up, in their order, and then, row by row, those
// of the cells that had no count left.
func givenUp(c impl.Counted, row ...int) impl.Counted {
	c = cloneCounted(c)
	h := c.Store.Heap
	for len(row) > 0 {
		var below []int
		for _, cell := range row {
			if cell == -1 {
				continue
			}
			if c.Count[cell]--; c.Count[cell] == 0 {
				below = append(below, h.Left[cell], h.Right[cell])
				h.Left[cell], h.Right[cell] = -1, -1
				c.Store.Free = append(c.Store.Free, cell)
			}
		}
		row = below
	}
	return c
}

func isRootOf(c impl.Counted, root int) bool {
	return root >= 0 && root < len(c.Store.Heap.Roots)
}

// takenIn is the document's TakeCounted, for a valid value.
func takenIn(c impl.Counted, root int) (impl.Counted, bool) {
	if !isRootOf(c, root) || len(c.Store.Free) == 0 {
		return impl.Counted{}, false
	}
	c = cloneCounted(c)
	before, cell := c.Store.Heap.Roots[root], c.Store.Free[0]
	c.Store.Free = c.Store.Free[1:]
	c.Count[cell] = 1
	c.Store.Heap.Roots[root] = cell
	return givenUp(c, before), true
}

// droppedIn is the document's DropRoot, for a valid value.
func droppedIn(c impl.Counted, root int) (impl.Counted, bool) {
	if !isRootOf(c, root) {
		return impl.Counted{}, false
	}
	c = cloneCounted(c)
	before := c.Store.Heap.Roots[root]
	c.Store.Heap.Roots[root] = -1
	return givenUp(c, before), true
}

// linkedIn is the document's LinkCounted, for a valid value.
func linkedIn(c impl.Counted, a, b int) (impl.Counted, bool) {
	if !isRootOf(c, a) || !isRootOf(c, b) || c.Store.Heap.Roots[a] == -1 {
		return impl.Counted{}, false
	}
	c = cloneCounted(c)
	from, to := c.Store.Heap.Roots[a], c.Store.Heap.Roots[b]
	before := c.Store.Heap.Left[from]
	c.Store.Heap.Left[from] = to
	if to != -1 {
		c.Count[to]++
	}
	return givenUp(c, before), true
}

// checkCountedResult needs a result, which is valid if there is one.
func checkCountedResult(t *testing.T, what string, got impl.Counted, ok bool, want impl.Counted, wantOk bool) {
	t.Helper()
	if ok != wantOk || !equalCounted(got, want) || impl.CountedValid(got) != wantOk {
		t.Fatalf("%s = %v, %v, CountedValid = %v; not %v, %v", what, got, ok, impl.CountedValid(got), want, wantOk)
	}
}

// checkCounts compares all functions of the chapter with the document's words, for a valid store.
func checkCounts(t *testing.T, s impl.Store) {
	t.Helper()
	counts := countsIn(s.Heap)
	if got := impl.CountsOf(s.Heap); !slices.Equal(got, counts) {
		t.Fatalf("%s: CountsOf = %v", storeText(s), got)
	}
	c, ok := impl.NewCounted(s)
	if !ok || !equalCounted(c, counted(s, counts...)) || !impl.CountedValid(c) || !impl.CountedSame(c, c) {
		t.Fatalf("%s: NewCounted = %v, %v", storeText(s), c, ok)
	}
	if got := impl.CyclesOf(c); !slices.Equal(got, leakedIn(s)) {
		t.Fatalf("%s: CyclesOf = %v", countedText(c), got)
	}
	checkCountedRoots(t, c)
}

// checkCountedRoots compares the functions that take roots, for all of these and some that there are not.
func checkCountedRoots(t *testing.T, c impl.Counted) {
	t.Helper()
	text := countedText(c)
	for a := -1; a <= len(c.Store.Heap.Roots); a++ {
		got, ok := impl.TakeCounted(c, a)
		want, wantOk := takenIn(c, a)
		checkCountedResult(t, text+": TakeCounted "+strconv.Itoa(a), got, ok, want, wantOk)
		got, ok = impl.DropRoot(c, a)
		want, wantOk = droppedIn(c, a)
		checkCountedResult(t, text+": DropRoot "+strconv.Itoa(a), got, ok, want, wantOk)
		for b := -1; b <= len(c.Store.Heap.Roots); b++ {
			got, ok = impl.LinkCounted(c, a, b)
			want, wantOk = linkedIn(c, a, b)
			checkCountedResult(t, text+": LinkCounted "+strconv.Itoa(a)+" "+strconv.Itoa(b), got, ok, want, wantOk)
		}
	}
}

func TestCountsOfSmallStores(t *testing.T) {
	for _, size := range [][2]int{{1, 1}, {1, 2}, {1, 3}, {2, 1}, {2, 2}, {2, 3}, {3, 1}} {
		everyHeap(size[0], size[1], func(h impl.Heap) {
			everyFree(looseCells(h), nil, func(free []int) { checkCounts(t, store(h, free...)) })
		})
	}
}

func TestCountsOfAllSizes(t *testing.T) {
	for _, s := range mixedStores(20000) {
		checkCounts(t, s)
	}
}

func TestCountsOfLimits(t *testing.T) {
	for _, size := range [][2]int{{1, 1}, {1, 3}, {8, 1}, {8, 3}} {
		s, _ := impl.NewStore(size[0], size[1])
		c, ok := impl.NewCounted(s)
		if !ok || !equalCounted(c, counted(s, make([]int, size[0])...)) {
			t.Errorf("NewCounted of %v = %v, %v", size, c, ok)
		}
		checkCounts(t, s)
	}
	for _, text := range []string{
		"00 / 0", "00 / 0 0 0", "77 77 77 77 77 77 77 77 / 7 7 7", "1- 2- 3- 4- 5- 6- 7- 0- / 0", "12 34 56 7- -- -- -- -- / 0 0 7",
	} {
		checkCounts(t, store(mustParse(t, text)))
	}
}

func TestCountsOf(t *testing.T) {
	for _, c := range []struct {
		what string
		text string
		want []int
	}{
		{"one cell to which nothing points", "-- / -", []int{0}},
		{"one cell of a root", "-- / 0", []int{1}},
		{"a cell that points to itself", "0- / -", []int{1}},
		{"a cell that points to itself twice", "00 / -", []int{2}},
		{"a cell of all pointers", "00 / 0 0 0", []int{5}},
		{"a left pointer", "1- -- / -", []int{0, 1}},
		{"a right pointer", "-- -0 / -", []int{1, 0}},
		{"a cell that points with both pointers", "11 -- / -", []int{0, 2}},
		{"a circle", "1- 2- 0- / -", []int{1, 1, 1}},
		{"pointers of garbage count", "1- -- 0- / 0", []int{2, 1, 0}},
		{"roots and cells", "11 -- 0- / 0 1", []int{2, 3, 0}},
		{"the most pointers to one cell", "77 77 77 77 77 77 77 77 / 7 7 7", []int{0, 0, 0, 0, 0, 0, 0, 19}},
		{"one pointer to each of eight", "12 34 56 7- -- -- -- -- / 0", []int{1, 1, 1, 1, 1, 1, 1, 1}},
	} {
		if got := impl.CountsOf(mustParse(t, c.text)); !slices.Equal(got, c.want) {
			t.Errorf("%s: CountsOf = %v", c.what, got)
		}
	}
}

// TestCountedExample is the example of the document: a cell that points to itself is never freed.
func TestCountedExample(t *testing.T) {
	s, _ := impl.NewStore(2, 1)
	c, _ := impl.NewCounted(s)
	c, _ = impl.TakeCounted(c, 0)
	c, _ = impl.LinkCounted(c, 0, 0)
	if countedText(c) != "0- -- / 0 free 1 counts 2 0" || len(impl.CyclesOf(c)) != 0 {
		t.Fatalf("LinkCounted = %v", c)
	}
	c, _ = impl.DropRoot(c, 0)
	for range 10 {
		if countedText(c) != "0- -- / - free 1 counts 1 0" || !slices.Equal(impl.CyclesOf(c), []int{0}) {
			t.Fatalf("DropRoot = %v, CyclesOf = %v", c, impl.CyclesOf(c))
		}
		c, _ = impl.TakeCounted(c, 0)
		if c, _ = impl.DropRoot(c, 0); len(c.Count) == 0 {
			t.Fatal("DropRoot after TakeCounted returns false")
		}
	}
}

func TestTakeCounted(t *testing.T) {
	for _, c := range []struct {
		what string
		text string
		free []int
		root int
		want string
	}{
		{"the only cell", "-- / -", []int{0}, 0, "-- / 0 free counts 1"},
		{"the first one, not the least", "-- -- -- / - -", []int{2, 0, 1}, 1, "-- -- -- / - 2 free 0 1 counts 0 0 1"},
		{"the root's cell becomes free, at the end", "-- -- -- / 0", []int{2, 1}, 0, "-- -- -- / 2 free 1 0 counts 0 0 1"},
		{"a cell of two roots stays", "-- -- / 0 0", []int{1}, 0, "-- -- / 1 0 free counts 1 1"},
		{"a cell that points to itself stays", "-0 -- / 0", []int{1}, 0, "-0 -- / 1 free counts 1 1"},
		{"a circle stays", "1- 0- -- / 0", []int{2}, 0, "1- 0- -- / 2 free counts 1 1 1"},
		{"a chain becomes free", "1- 2- -- -- / 0", []int{3}, 0, "-- -- -- -- / 3 free 0 1 2 counts 0 0 0 1"},
		{"other roots stay", "-- -- -- -- / 0 1 2", []int{3}, 1, "-- -- -- -- / 0 3 2 free 1 counts 1 0 1 1"},
		{"the last root of eight cells", "-- -- -- -- -- -- -- -- / - - -", []int{7, 6, 5, 4, 3, 2, 1, 0}, 2, "-- -- -- -- -- -- -- -- / - - 7 free 6 5 4 3 2 1 0 counts 0 0 0 0 0 0 0 1"},
	} {
		got, ok := impl.TakeCounted(mustCounted(t, c.text, c.free...), c.root)
		if !ok || countedText(got) != c.want {
			t.Errorf("%s: TakeCounted = %q, %v", c.what, countedText(got), ok)
		}
	}
}

// TestNoCellToTake has roots whose cells would become free, but only after one was taken.
func TestNoCellToTake(t *testing.T) {
	for _, text := range []string{"-- / -", "-- / 0", "00 / 0", "1- -0 / 1", "1- -- / 0 -", "-- -- -- / 0 1 2", "1- 2- 3- 4- 5- 6- 7- -- / 0 - -"} {
		c := mustCounted(t, text)
		for root := -1; root <= 3; root++ {
			if got, ok := impl.TakeCounted(c, root); ok || !isZeroCounted(got) {
				t.Errorf("%q: TakeCounted(%d) = %v, %v", text, root, got, ok)
			}
		}
	}
}

// TestTakeAgain takes cells for one root, each of which gives up the one before.
func TestTakeAgain(t *testing.T) {
	for _, cells := range []int{2, 3, 8} {
		s, _ := impl.NewStore(cells, 1)
		c, _ := impl.NewCounted(s)
		for i := range 20 {
			next, ok := impl.TakeCounted(c, 0)
			if !ok || next.Store.Heap.Roots[0] != i%cells || len(next.Store.Free) != cells-1 || len(impl.CyclesOf(next)) != 0 {
				t.Fatalf("TakeCounted number %d of %d cells = %v, %v", i, cells, next, ok)
			}
			c = next
		}
	}
}

func TestDropRoot(t *testing.T) {
	for _, c := range []struct {
		what string
		text string
		free []int
		root int
		want string
	}{
		{"a root that points to nothing", "-- -- / 1 -", []int{0}, 1, "-- -- / 1 - free 0 counts 0 1"},
		{"the only cell", "-- / 0", nil, 0, "-- / - free 0 counts 0"},
		{"the end of the free cells", "-- -- -- / 1", []int{2, 0}, 0, "-- -- -- / - free 2 0 1 counts 0 0 0"},
		{"a cell of two roots", "-- / 0 0", nil, 0, "-- / - 0 free counts 1"},
		{"a cell to which a live one points", "1- -- / 0 1", nil, 1, "1- -- / 0 - free counts 1 1"},
		{"left and right", "12 -- -- / 0", nil, 0, "-- -- -- / - free 0 1 2 counts 0 0 0"},
		{"left before right", "21 -- -- / 0", nil, 0, "-- -- -- / - free 0 2 1 counts 0 0 0"},
		{"a cell with two pointers to another one", "11 -- / 0", nil, 0, "-- -- / - free 0 1 counts 0 0"},
		{"the cells below come after those beside", "12 34 56 -- -- -- -- / 0", nil, 0, "-- -- -- -- -- -- -- / - free 0 1 2 3 4 5 6 counts 0 0 0 0 0 0 0"},
		{"the same with the cells in another order", "-- -- 60 -1 -- 43 -- 52 / 7 - -", nil, 0, "-- -- -- -- -- -- -- -- / - - - free 7 5 2 4 3 6 0 1 counts 0 0 0 0 0 0 0 0"},
		{"two ways to a cell", "12 3- -3 -- / 0", nil, 0, "-- -- -- -- / - free 0 1 2 3 counts 0 0 0 0"},
		{"a shorter and a longer way to a cell", "12 -- 1- / 0", nil, 0, "-- -- -- / - free 0 2 1 counts 0 0 0"},
		{"a cell below that has another root", "12 -3 -- -- / 0 1", nil, 0, "-- -3 -- -- / - 1 free 0 2 counts 0 1 0 1"},
		{"a cell below to which garbage points", "1- -- -1 / 0", nil, 0, "-- -- -1 / - free 0 counts 0 1 0"},
		{"garbage to which nothing points stays", "-- 2- -- / 0", nil, 0, "-- 2- -- / - free 0 counts 0 0 1"},
		{"a cell that points to itself", "0- / 0", nil, 0, "0- / - free counts 1"},
		{"a cell that points to itself twice", "00 / 0", nil, 0, "00 / - free counts 2"},
		{"a cell that points to itself and to another one", "01 -- / 0", nil, 0, "01 -- / - free counts 1 1"},
		{"a cell before one that points to itself", "1- 1- / 0", nil, 0, "-- 1- / - free 0 counts 0 1"},
		{"a circle of two", "1- 0- / 0", nil, 0, "1- 0- / - free counts 1 1"},
		{"a circle of three", "-1 2- -0 -- / 1", []int{3}, 0, "-1 2- -0 -- / - free 3 counts 1 1 1 0"},
		{"a cell before a circle", "1- 2- 1- / 0", nil, 0, "-- 2- 1- / - free 0 counts 0 1 1"},
		{"a circle with a cell behind it", "1- 02 -- / 0", nil, 0, "1- 02 -- / - free counts 1 1 1"},
		{"a circle of eight", "1- 2- 3- 4- 5- 6- 7- 0- / 0 - -", nil, 0, "1- 2- 3- 4- 5- 6- 7- 0- / - - - free counts 1 1 1 1 1 1 1 1"},
		{"the last of three roots", "-- -- -- / 0 1 2", nil, 2, "-- -- -- / 0 1 - free 2 counts 1 1 0"},
	} {
		got, ok := impl.DropRoot(mustCounted(t, c.text, c.free...), c.root)
		if !ok || countedText(got) != c.want {
			t.Errorf("%s: DropRoot = %q, %v", c.what, countedText(got), ok)
		}
	}
}

// TestLongChain has the longest chains that there can be, which are given up at their beginning.
func TestLongChain(t *testing.T) {
	empty := "-- -- -- -- -- -- -- -- / -"
	none := " counts 0 0 0 0 0 0 0 0"
	for _, c := range []struct {
		what string
		text string
		want string
	}{
		{"left pointers", "1- 2- 3- 4- 5- 6- 7- -- / 0", empty + " free 0 1 2 3 4 5 6 7" + none},
		{"right pointers", "-1 -2 -3 -4 -5 -6 -7 -- / 0", empty + " free 0 1 2 3 4 5 6 7" + none},
		{"both pointers", "11 22 33 44 55 66 77 -- / 0", empty + " free 0 1 2 3 4 5 6 7" + none},
		{"backwards", "-- 0- -1 2- -3 4- -5 6- / 7", empty + " free 7 6 5 4 3 2 1 0" + none},
		{"another order", "3- 6- -- -7 1- 0- 2- 4- / 5", empty + " free 5 0 3 7 4 1 6 2" + none},
		{"each cell points to the two after it", "12 23 34 45 56 67 7- -- / 0", empty + " free 0 1 2 3 4 5 6 7" + none},
		{"the last cell points to itself", "1- 2- 3- 4- 5- 6- 7- 7- / 0", "-- -- -- -- -- -- -- 7- / - free 0 1 2 3 4 5 6 counts 0 0 0 0 0 0 0 1"},
		{"the last cell points to one in between", "1- 2- 3- 4- 5- 6- 7- 4- / 0", "-- -- -- -- 5- 6- 7- 4- / - free 0 1 2 3 counts 0 0 0 0 1 1 1 1"},
		{"the last cell points to the first one", "1- 2- 3- 4- 5- 6- 7- -0 / 0", "1- 2- 3- 4- 5- 6- 7- -0 / - free counts 1 1 1 1 1 1 1 1"},
		{"another root in between", "1- 2- 3- 4- 5- 6- 7- -- / 0 5", "-- -- -- -- -- 6- 7- -- / - 5 free 0 1 2 3 4 counts 0 0 0 0 0 1 1 1"},
		{"garbage points to one in between", "1- 2- 3- -- 5- 6- 2- -- / 0", "-- -- 3- -- 5- 6- 2- -- / - free 0 1 counts 0 0 1 1 0 1 1 0"},
	} {
		got, ok := impl.DropRoot(mustCounted(t, c.text), 0)
		if !ok || countedText(got) != c.want {
			t.Errorf("%s: DropRoot = %q, %v", c.what, countedText(got), ok)
		}
	}
	got, ok := impl.TakeCounted(mustCounted(t, "1- 2- 3- 4- 5- 6- -- -- / 0", 7), 0)
	if want := "-- -- -- -- -- -- -- -- / 7 free 0 1 2 3 4 5 6 counts 0 0 0 0 0 0 0 1"; !ok || countedText(got) != want {
		t.Errorf("TakeCounted gives up a chain: %q, %v", countedText(got), ok)
	}
	got, ok = impl.LinkCounted(mustCounted(t, "1- 2- 3- 4- 5- 6- 7- -- / 0 -"), 0, 1)
	if want := "-- -- -- -- -- -- -- -- / 0 - free 1 2 3 4 5 6 7 counts 1 0 0 0 0 0 0 0"; !ok || countedText(got) != want {
		t.Errorf("LinkCounted gives up a chain: %q, %v", countedText(got), ok)
	}
}

func TestLinkCounted(t *testing.T) {
	for _, c := range []struct {
		what string
		text string
		free []int
		a, b int
		want string
	}{
		{"a first pointer", "-- -- / 0 1", nil, 0, 1, "1- -- / 0 1 free counts 1 2"},
		{"the other way about", "-- -- / 0 1", nil, 1, 0, "-- 0- / 0 1 free counts 2 1"},
		{"nothing in place of nothing", "-- -- / 0 -", []int{1}, 0, 1, "-- -- / 0 - free 1 counts 1 0"},
		{"nothing in place of a cell", "1- -- / 0 -", nil, 0, 1, "-- -- / 0 - free 1 counts 1 0"},
		{"another cell", "1- -- -- / 0 2", nil, 0, 1, "2- -- -- / 0 2 free 1 counts 1 0 2"},
		{"the same cell", "1- -- / 0 1", nil, 0, 1, "1- -- / 0 1 free counts 1 2"},
		{"the same cell, with pointers behind it", "1- 2- -- / 0 1", nil, 0, 1, "1- 2- -- / 0 1 free counts 1 2 1"},
		{"the cell itself", "-- / 0", nil, 0, 0, "0- / 0 free counts 2"},
		{"the cell itself again", "0- / 0", nil, 0, 0, "0- / 0 free counts 2"},
		{"the cell itself, by another root", "-- / 0 0", nil, 0, 1, "0- / 0 0 free counts 3"},
		{"the cell itself in place of a cell", "1- -- / 0", nil, 0, 0, "0- -- / 0 free 1 counts 2 0"},
		{"nothing in place of the cell itself", "00 / 0 -", nil, 0, 1, "-0 / 0 - free counts 2"},
		{"another one in place of the cell itself", "0- -- / 0 1", nil, 0, 1, "1- -- / 0 1 free counts 1 2"},
		{"the right pointer stays", "12 -- -- / 0 -", nil, 0, 1, "-2 -- -- / 0 - free 1 counts 1 0 1"},
		{"the right pointer is to the same cell", "11 -- / 0 -", nil, 0, 1, "-1 -- / 0 - free counts 1 1"},
		{"the right pointer is not given up", "-1 -- -- / 0 2", nil, 0, 1, "21 -- -- / 0 2 free counts 1 1 2"},
		{"a circle", "1- -- / 0 1", nil, 1, 0, "1- 0- / 0 1 free counts 2 2"},
		{"a circle that ends", "1- 2- 0- / 0 -", nil, 0, 1, "-- -- -- / 0 - free 1 2 counts 1 0 0"},
		{"a circle that stays", "1- 2- 1- / 0 -", nil, 0, 1, "-- 2- 1- / 0 - free counts 1 1 1"},
		{"the end of the chain that is given up", "1- 2- -- / 0 2", nil, 0, 1, "2- -- -- / 0 2 free 1 counts 1 0 2"},
		{"the cells below come after those beside", "1- 23 4- 5- -- -- / 0 -", nil, 0, 1, "-- -- -- -- -- -- / 0 - free 1 2 3 4 5 counts 1 0 0 0 0 0"},
		{"the end of the free cells", "2- -- -- -- / 0 -", []int{3, 1}, 0, 1, "-- -- -- -- / 0 - free 3 1 2 counts 1 0 0 0"},
		{"the last of three roots and of eight cells", "-- -- -- -- -- -- -- -- / - 6 7", []int{0}, 1, 2, "-- -- -- -- -- -- 7- -- / - 6 7 free 0 counts 0 0 0 0 0 0 1 2"},
	} {
		got, ok := impl.LinkCounted(mustCounted(t, c.text, c.free...), c.a, c.b)
		if !ok || countedText(got) != c.want {
			t.Errorf("%s: LinkCounted = %q, %v", c.what, countedText(got), ok)
		}
	}
}

func TestLinkOfNoCell(t *testing.T) {
	for _, c := range []struct {
		text string
		a, b int
	}{
		{"-- / -", 0, 0}, {"-- / - 0", 0, 1}, {"-- / - -", 0, 1}, {"0- / 0 - 0", 1, 0}, {"-- -- / 0 1 -", 2, 2},
	} {
		if got, ok := impl.LinkCounted(mustCounted(t, c.text), c.a, c.b); ok || !isZeroCounted(got) {
			t.Errorf("%q: LinkCounted(%d, %d) = %v, %v", c.text, c.a, c.b, got, ok)
		}
	}
}

func TestCyclesOf(t *testing.T) {
	for _, c := range []struct {
		what string
		text string
		free []int
		want []int
	}{
		{"everything is live", "1- -- / 0", nil, nil},
		{"everything is free", "-- -- / -", []int{1, 0}, nil},
		{"a cell that points to itself", "-- 1- / 0", nil, []int{1}},
		{"a live circle", "1- 0- / 1", nil, nil},
		{"a circle", "1- 0- -- / -", []int{2}, []int{0, 1}},
		{"a circle that points to a live cell", "-- 20 1- / 0", nil, []int{1, 2}},
		{"two circles, in ascending order", "3- 2- 1- 0- -- / 4", nil, []int{0, 1, 2, 3}},
		{"a cell to which nothing points, but that was not given up", "-- -- / 0", nil, []int{1}},
		{"a circle of eight", "1- 2- 3- 4- 5- 6- 7- 0- / - - -", nil, []int{0, 1, 2, 3, 4, 5, 6, 7}},
	} {
		if got := impl.CyclesOf(mustCounted(t, c.text, c.free...)); !slices.Equal(got, c.want) {
			t.Errorf("%s: CyclesOf = %v", c.what, got)
		}
	}
}

// mixedCountedSteps takes, drops and links on new stores of all sizes, and calls see before and
// after each of these that can be done; a link that may says no to is left out.
func mixedCountedSteps(stores, steps int, may func(c impl.Counted, a, b int) bool, see func(before, after impl.Counted)) {
	random := rand.New(rand.NewPCG(20, 21))
	for range stores {
		s, _ := impl.NewStore(1+random.IntN(8), 1+random.IntN(3))
		c, _ := impl.NewCounted(s)
		for range steps {
			a, b := random.IntN(len(s.Heap.Roots)), random.IntN(len(s.Heap.Roots))
			var next impl.Counted
			var ok bool
			switch kind := random.IntN(5); {
			case kind < 2:
				next, ok = impl.TakeCounted(c, a)
			case kind == 2:
				next, ok = impl.DropRoot(c, a)
			case may(c, a, b):
				next, ok = impl.LinkCounted(c, a, b)
			}
			if ok {
				see(c, next)
				c = next
			}
		}
	}
}

// TestCountsFreeAllButCircles is promise 9: counts free what nothing points to, but no circles.
func TestCountsFreeAllButCircles(t *testing.T) {
	leaks := 0
	every := func(impl.Counted, int, int) bool { return true }
	mixedCountedSteps(500, 60, every, func(before, after impl.Counted) {
		if !impl.CountedValid(after) {
			t.Fatalf("%s leads to %v", countedText(before), after)
		}
		w := newWayTable(after.Store.Heap)
		for cell, count := range after.Count {
			free := impl.IsFree(after.Store, cell)
			if free != (count == 0) || free && w.distance(cell) < far {
				t.Fatalf("%s leads to %s, with a cell %d that is free: %v", countedText(before), countedText(after), cell, free)
			}
		}
		leaked := impl.CyclesOf(after)
		for _, cell := range leaked {
			behind := func(a int) bool { return w.cycle(a) && w.length[a][cell] < far }
			if !slices.ContainsFunc(leaked, behind) {
				t.Fatalf("%s leads to %s, with a leaked cell %d behind no circle", countedText(before), countedText(after), cell)
			}
		}
		leaks += len(leaked)
		checkOldLeaksStay(t, before, after)
	})
	if leaks == 0 {
		t.Error("no circle stayed")
	}
}

// checkOldLeaksStay needs cells that were leaked to stay as they were.
func checkOldLeaksStay(t *testing.T, before, after impl.Counted) {
	t.Helper()
	for _, cell := range leakedIn(before.Store) {
		a, b := before.Store.Heap, after.Store.Heap
		if impl.IsFree(after.Store, cell) || a.Left[cell] != b.Left[cell] || a.Right[cell] != b.Right[cell] {
			t.Fatalf("%s leads to %s, which changes the leaked cell %d", countedText(before), countedText(after), cell)
		}
	}
}

// TestCountsFreeAllWithoutCircles links no circles, so that exactly what is not live is free.
func TestCountsFreeAllWithoutCircles(t *testing.T) {
	frees := 0
	noCircle := func(c impl.Counted, a, b int) bool {
		from, to := c.Store.Heap.Roots[a], c.Store.Heap.Roots[b]
		return from == -1 || to == -1 || newWayTable(c.Store.Heap).length[to][from] >= far
	}
	mixedCountedSteps(500, 60, noCircle, func(before, after impl.Counted) {
		if leaked := impl.CyclesOf(after); len(leaked) != 0 || len(impl.GarbageOf(after.Store.Heap)) != len(after.Store.Free) {
			t.Fatalf("%s leads to %s, with leaked cells %v", countedText(before), countedText(after), leaked)
		}
		if end, ok := impl.CollectStore(after.Store); !ok || !equalStores(end, after.Store) {
			t.Fatalf("%s: CollectStore still frees: %v", countedText(after), end)
		}
		frees = max(frees, len(after.Store.Free)-len(before.Store.Free))
	})
	if frees < 3 {
		t.Errorf("at most %d cells were freed at once", frees)
	}
}

func TestCountedSame(t *testing.T) {
	one := func() impl.Counted {
		return counted(store(impl.Heap{Left: []int{1, -1, -1, -1}, Right: []int{-1, 0, -1, -1}, Roots: []int{0}}, 3, 2), 2, 1, 0, 0)
	}
	checkSame(t, "CountedSame", impl.CountedSame, one, map[string]func(c *impl.Counted){
		"a left pointer":          func(c *impl.Counted) { c.Store.Heap.Left[0] = 0 },
		"a right pointer":         func(c *impl.Counted) { c.Store.Heap.Right[1] = 1 },
		"a root":                  func(c *impl.Counted) { c.Store.Heap.Roots[0] = 1 },
		"one more root":           func(c *impl.Counted) { c.Store.Heap.Roots = []int{0, -1} },
		"a free cell":             func(c *impl.Counted) { c.Store.Free[1] = 1 },
		"the order of free cells": func(c *impl.Counted) { c.Store.Free = []int{2, 3} },
		"one free cell less":      func(c *impl.Counted) { c.Store.Free = []int{3} },
		"the first count":         func(c *impl.Counted) { c.Count[0] = 1 },
		"the last count":          func(c *impl.Counted) { c.Count[3] = 1 },
		"the order of counts":     func(c *impl.Counted) { c.Count = []int{1, 2, 0, 0} },
		"one count less":          func(c *impl.Counted) { c.Count = c.Count[:3] },
		"one count more":          func(c *impl.Counted) { c.Count = append(c.Count, 0) },
		"no counts":               func(c *impl.Counted) { c.Count = nil },
		"a count that is not":     func(c *impl.Counted) { c.Count[1] = -1 },
		"a count in 32 bits":      func(c *impl.Counted) { c.Count[1] += 1 << 32 },
		"everything":              func(c *impl.Counted) { *c = impl.Counted{} },
		"a pointer to no cell":    func(c *impl.Counted) { c.Store.Heap.Left[0] = 9 },
		"no store any more":       func(c *impl.Counted) { c.Store = impl.Store{} },
	})
	empty := impl.Counted{Store: impl.Store{Heap: impl.Heap{Left: []int{}, Right: []int{}, Roots: []int{}}, Free: []int{}}, Count: []int{}}
	if !impl.CountedSame(empty, impl.Counted{}) || !impl.CountedSame(impl.Counted{}, empty) {
		t.Error("CountedSame tells empty slices from nil ones")
	}
	for reason, c := range badCounted(t) {
		if !impl.CountedSame(c, roomyCounted(c)) {
			t.Errorf("%s: CountedSame of equal values = false", reason)
		}
	}
}

// TestCountedValid has all rows of counts for small heaps.
func TestCountedValid(t *testing.T) {
	for _, size := range [][2]int{{1, 1}, {1, 3}, {2, 1}, {2, 2}} {
		everyHeap(size[0], size[1], func(h impl.Heap) {
			s := store(h, looseCells(h)...)
			counts := countsIn(h)
			everyRow(size[0]+1, 2*size[0]+size[1]+1, nil, func(row []int) {
				if got := impl.CountedValid(counted(s, row...)); got != slices.Equal(row, counts) {
					t.Fatalf("CountedValid(%v) = %v", counted(s, row...), got)
				}
			})
		})
	}
}

// pointedIn is countsIn for heaps that may be invalid: of pointers that are no cells, none is counted.
func pointedIn(h impl.Heap) []int {
	counts := make([]int, len(h.Left))
	for _, pointer := range slices.Concat(heapLists(h)...) {
		if pointer >= 0 && pointer < len(counts) {
			counts[pointer]++
		}
	}
	return counts
}

// badCounted returns values that are not valid, each for one reason.
func badCounted(t *testing.T) map[string]impl.Counted {
	t.Helper()
	list := map[string]impl.Counted{"zero value": {}}
	for reason, s := range badStores() {
		list[reason] = counted(s, pointedIn(s.Heap)...)
	}
	for _, text := range []string{"1- -- -- / 0 -", "-- -- -- / 0 0", "00 -- -- / 0 1 -", "-- / 0", "1- 2- 3- 4- 5- 6- -- -- / 0 6 -", "1- 0- -- -- / 2 2", "-- 1- -- / 0"} {
		h := mustParse(t, text)
		s, counts := store(h, looseCells(h)...), countsIn(h)
		for cell := range counts {
			for what, change := range map[string]int{"too many": 1, "too few": -1, "the same in 32 bits": 1 << 32, "very many": math.MaxInt - 100, "very few": math.MinInt} {
				c := counted(s, slices.Clone(counts)...)
				c.Count[cell] += change
				list[text+": "+what+" for cell "+strconv.Itoa(cell)] = c
			}
		}
		list[text+": no counts"] = counted(s)
		list[text+": empty counts"] = counted(s, []int{}...)
		list[text+": a count too few"] = counted(s, counts[1:]...)
		list[text+": the last count too few"] = counted(s, counts[:len(counts)-1]...)
		list[text+": a count too many"] = counted(s, append(slices.Clone(counts), 0)...)
		list[text+": a store without a heap"] = counted(impl.Store{Free: s.Free}, counts...)
	}
	cells := mustParse(t, "-- -- -- / 0 0")
	list["counts of other cells"] = counted(store(cells, 2, 1), 0, 2, 0)
	list["two pointers of a cell are counted once"] = counted(store(mustParse(t, "11 -- / 0")), 1, 1)
	list["the roots are not counted"] = counted(store(cells, 2, 1), 0, 0, 0)
	return list
}

// checkNotCounted needs the results of two roots for which there is nothing to return.
func checkNotCounted(t *testing.T, what string, c impl.Counted, a, b int) {
	t.Helper()
	taken, takes := impl.TakeCounted(c, a)
	dropped, drops := impl.DropRoot(c, a)
	if takes || drops || !isZeroCounted(taken) || !isZeroCounted(dropped) {
		t.Errorf("%s: TakeCounted(%v, %d) = %v, %v, DropRoot = %v, %v", what, c, a, taken, takes, dropped, drops)
	}
	checkNotLinked(t, what, c, a, b)
}

func checkNotLinked(t *testing.T, what string, c impl.Counted, a, b int) {
	t.Helper()
	if got, ok := impl.LinkCounted(c, a, b); ok || !isZeroCounted(got) {
		t.Errorf("%s: LinkCounted(%v, %d, %d) = %v, %v", what, c, a, b, got, ok)
	}
}

func TestBadCounted(t *testing.T) {
	for reason, c := range badCounted(t) {
		if impl.CountedValid(c) {
			t.Errorf("%s: CountedValid = true", reason)
		}
		for a := -2; a < 10; a++ {
			for b := -2; b < 10; b++ {
				checkNotCounted(t, reason, c, a, b)
			}
		}
		if got := impl.CyclesOf(c); len(got) != 0 {
			t.Errorf("%s: CyclesOf = %v", reason, got)
		}
	}
}

func TestNewCountedOfBadStores(t *testing.T) {
	for reason, s := range badStores() {
		if c, ok := impl.NewCounted(s); ok || !isZeroCounted(c) {
			t.Errorf("%s: NewCounted = %v, %v", reason, c, ok)
		}
	}
}

func TestCountsOfBadHeaps(t *testing.T) {
	for reason, h := range badHeaps() {
		if got := impl.CountsOf(h); len(got) != 0 {
			t.Errorf("%s: CountsOf = %v", reason, got)
		}
	}
}

func TestCountsOfNoRoot(t *testing.T) {
	for _, text := range []string{"-- -- / 0", "-- -- / 0 -", "1- -- -- / 0 1 0", "-- -- -- -- -- -- -- -- / 0 0 0"} {
		h := mustParse(t, text)
		c := mustCounted(t, text, looseCells(h)...)
		roots := len(h.Roots)
		for _, number := range []int{math.MinInt, -2, -1, roots, roots + 1, 8, 1 << 32, math.MaxInt} {
			checkNotCounted(t, "no such root", c, number, 0)
			checkNotLinked(t, "no such root b", c, 0, number)
			checkNotLinked(t, "no such roots", c, number, number)
		}
		for root := range roots {
			if got, ok := impl.DropRoot(c, root); !ok || !impl.CountedValid(got) {
				t.Errorf("%q: DropRoot(%d) = %v, %v", text, root, got, ok)
			}
		}
	}
}

// countedToChange returns valid and invalid values, with a name for each.
func countedToChange(t *testing.T) map[string]impl.Counted {
	t.Helper()
	list := badCounted(t)
	for what, s := range storesToChange(t) {
		if impl.StoreValid(s) {
			list[what] = counted(s, countsIn(s.Heap)...)
		}
	}
	for _, text := range []string{"1- 2- 3- 4- 5- 6- -- -- / 0 -", "12 34 56 -- -- -- -- -- / 0 0 -", "12 34 56 -- -- -- -- -- / 1 0 7"} {
		list[text] = mustCounted(t, text, looseCells(mustParse(t, text))...)
	}
	return list
}

// countedResults returns what all functions that return a value make of one.
func countedResults(c impl.Counted) []impl.Counted {
	started, _ := impl.NewCounted(c.Store)
	results := []impl.Counted{started}
	for a := range c.Store.Heap.Roots {
		taken, _ := impl.TakeCounted(c, a)
		dropped, _ := impl.DropRoot(c, a)
		results = append(results, taken, dropped)
		for b := range c.Store.Heap.Roots {
			linked, _ := impl.LinkCounted(c, a, b)
			results = append(results, linked)
		}
	}
	return results
}

func TestCountsChangeNothing(t *testing.T) {
	for what, c := range countedToChange(t) {
		argument := roomyCounted(c)
		impl.CountedValid(argument)
		impl.CountedSame(argument, argument)
		lists := [][]int{
			impl.CountsOf(argument.Store.Heap), impl.CountsOf(argument.Store.Heap), impl.CyclesOf(argument), impl.CyclesOf(argument),
		}
		for _, result := range append(countedResults(argument), countedResults(argument)...) {
			lists = append(lists, countedLists(result)...)
		}
		checkOwnMemory(t, what, lists...)
		if !isRoomyCountedOf(argument, c) {
			t.Errorf("%s: a function changes its argument, or shares memory with it", what)
		}
	}
}

// TestCountsAgain calls the functions on some values in turn, and needs the same results each time.
func TestCountsAgain(t *testing.T) {
	list := []string{"1- 2- -- / 0 -", "00 / 0", "-- -- / 0 1 -", "12 34 56 -- -- -- -- -- / 0 0 7"}
	for range 20 {
		for _, text := range list {
			h := mustParse(t, text)
			checkCounts(t, store(h, looseCells(h)...))
		}
		checkNotCounted(t, "no value", impl.Counted{}, 0, 0)
	}
}
