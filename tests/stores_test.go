package tests

import (
	"math"
	"math/rand/v2"
	"slices"
	"strconv"
	"testing"

	"loop.example/cellcollector/impl"
)

func store(h impl.Heap, free ...int) impl.Store {
	return impl.Store{Heap: h, Free: free}
}

func isZeroStore(s impl.Store) bool {
	return isZeroHeap(s.Heap) && len(s.Free) == 0
}

func equalStores(a, b impl.Store) bool {
	return equalHeaps(a.Heap, b.Heap) && slices.Equal(a.Free, b.Free)
}

func roomyStore(s impl.Store) impl.Store {
	return impl.Store{Heap: roomyHeap(s.Heap), Free: roomy(s.Free)}
}

func isRoomyStoreOf(s, want impl.Store) bool {
	return isRoomyHeapOf(s.Heap, want.Heap) && isRoomyOf(s.Free, want.Free)
}

func storeLists(s impl.Store) [][]int {
	return append(heapLists(s.Heap), s.Free)
}

// looseCells returns the cells that may be free: no pointer is theirs, or points to them.
func looseCells(h impl.Heap) []int {
	var loose []int
	for cell := range h.Left {
		pointed := slices.Contains(slices.Concat(h.Left, h.Right, h.Roots), cell)
		if !pointed && h.Left[cell] == -1 && h.Right[cell] == -1 {
			loose = append(loose, cell)
		}
	}
	return loose
}

// everyFree calls see with each row of different loose cells, in every order.
func everyFree(loose, row []int, see func(free []int)) {
	see(slices.Clone(row))
	for _, cell := range loose {
		if !slices.Contains(row, cell) {
			everyFree(loose, append(slices.Clone(row), cell), see)
		}
	}
}

// everyRow calls see with each row of at most so many numbers, from -1 to most.
func everyRow(length, most int, row []int, see func(row []int)) {
	see(row)
	for number := -1; number <= most && len(row) < length; number++ {
		everyRow(length, most, append(slices.Clone(row), number), see)
	}
}

// mixedStores returns valid stores of all sizes, the same in each run.
func mixedStores(count int) []impl.Store {
	random := rand.New(rand.NewPCG(5, 6))
	list := make([]impl.Store, count)
	for i, h := range mixedHeaps(count) {
		cells := random.Perm(len(h.Left))
		loosen(h, cells[:random.IntN(len(cells)+1)])
		loose := looseCells(h)
		random.Shuffle(len(loose), func(a, b int) { loose[a], loose[b] = loose[b], loose[a] })
		list[i] = store(h, loose[:len(loose)-random.IntN(len(loose)+1)/2]...)
	}
	return list
}

// loosen makes all pointers of some cells and to them None.
func loosen(h impl.Heap, cells []int) {
	for _, cell := range cells {
		h.Left[cell], h.Right[cell] = -1, -1
	}
	for _, list := range heapLists(h) {
		for i, pointer := range list {
			if slices.Contains(cells, pointer) {
				list[i] = -1
			}
		}
	}
}

// badStores returns stores that are not valid, each for one reason; but for it, a cell could be
// taken, and in those of loop, one cleared.
func badStores() map[string]impl.Store {
	loop := impl.Heap{Left: []int{0, -1, -1}, Right: []int{-1, -1, -1}, Roots: []int{1}}
	list := map[string]impl.Store{
		"a free cell past the end":            store(loop, 2, 3),
		"a first free cell past the end":      store(loop, 3, 2),
		"a free cell that is None":            store(loop, 2, -1),
		"a first free cell that is None":      store(loop, -1, 2),
		"a free cell less than None":          store(loop, 2, -2),
		"the greatest number":                 store(loop, 2, math.MaxInt),
		"the least number":                    store(loop, 2, math.MinInt),
		"a number that is 2 in 32 bits":       store(loop, 1<<32+2),
		"a free cell twice":                   store(loop, 2, 2),
		"a free cell that points to itself":   store(loop, 2, 0),
		"a free cell that a root points to":   store(loop, 2, 1),
		"the first free cell is a root's":     store(loop, 1, 2),
		"a free cell with a left pointer":     store(impl.Heap{Left: []int{-1, 0}, Right: nones(2), Roots: []int{0}}, 1),
		"a free cell with a right pointer":    store(impl.Heap{Left: nones(2), Right: []int{-1, 0}, Roots: []int{0}}, 1),
		"a free cell with two pointers":       store(impl.Heap{Left: []int{-1, 0}, Right: []int{-1, 0}, Roots: []int{-1}}, 1),
		"a left pointer to a free cell":       store(impl.Heap{Left: []int{1, -1}, Right: nones(2), Roots: []int{0}}, 1),
		"a right pointer to a free cell":      store(impl.Heap{Left: nones(2), Right: []int{1, -1}, Roots: []int{0}}, 1),
		"a pointer of garbage to a free cell": store(impl.Heap{Left: []int{-1, -1}, Right: []int{1, -1}, Roots: []int{-1}}, 1),
		"from a free cell to a free cell":     store(impl.Heap{Left: []int{1, -1}, Right: nones(2), Roots: []int{-1}}, 0, 1),
		"a right pointer to itself":           store(impl.Heap{Left: nones(1), Right: []int{0}, Roots: []int{-1}}, 0),
		"the last root's cell is free":        store(impl.Heap{Left: nones(8), Right: nones(8), Roots: []int{-1, -1, 7}}, 6, 7),
		"all eight cells and one more":        store(impl.Heap{Left: nones(8), Right: nones(8), Roots: nones(3)}, 0, 1, 2, 3, 4, 5, 6, 7, 8),
		"all eight cells and one again":       store(impl.Heap{Left: nones(8), Right: nones(8), Roots: nones(3)}, 0, 1, 2, 3, 4, 5, 6, 7, 0),
	}
	for reason, h := range badHeaps() {
		list[reason] = store(h)
		list[reason+", a free cell"] = store(h, 0)
	}
	return list
}

// cleared returns the store after the document's word clear, for some cells.
func cleared(s impl.Store, cells ...int) impl.Store {
	h := cloneHeap(s.Heap)
	loosen(h, cells)
	return store(h, append(slices.Clone(s.Free), cells...)...)
}

// leakedIn returns the cells that are garbage and not free.
func leakedIn(s impl.Store) []int {
	w := newWayTable(s.Heap)
	var leaked []int
	for cell := range s.Heap.Left {
		if w.distance(cell) == far && !slices.Contains(s.Free, cell) {
			leaked = append(leaked, cell)
		}
	}
	return leaked
}

// storeText is the document's FormatStore, for a valid store.
func storeText(s impl.Store) string {
	text := impl.FormatHeap(s.Heap) + " free"
	for _, cell := range s.Free {
		text += " " + strconv.Itoa(cell)
	}
	return text
}

// checkStore compares all functions of the chapter with the document's words.
func checkStore(t *testing.T, s impl.Store) {
	t.Helper()
	if !impl.StoreValid(s) || !impl.StoreSame(s, s) {
		t.Fatalf("%v: StoreValid = %v, StoreSame = %v", s, impl.StoreValid(s), impl.StoreSame(s, s))
	}
	if got := impl.FormatStore(s); got != storeText(s) {
		t.Fatalf("%v: FormatStore = %q", s, got)
	}
	leaked := leakedIn(s)
	if got := impl.LeakedOf(s); !slices.Equal(got, leaked) {
		t.Fatalf("%v: LeakedOf = %v", s, got)
	}
	for cell := -1; cell <= len(s.Heap.Left); cell++ {
		if got := impl.IsFree(s, cell); got != slices.Contains(s.Free, cell) {
			t.Fatalf("%v: IsFree(%d) = %v", s, cell, got)
		}
		var want impl.Store
		frees := slices.Contains(leaked, cell)
		if frees {
			want = cleared(s, cell)
		}
		if got, ok := impl.FreeCell(s, cell); ok != frees || !equalStores(got, want) {
			t.Fatalf("%v: FreeCell(%d) = %v, %v", s, cell, got, ok)
		}
	}
	checkAlloc(t, s)
	checkCollect(t, s, leaked)
}

func checkAlloc(t *testing.T, s impl.Store) {
	t.Helper()
	for root := -1; root <= len(s.Heap.Roots); root++ {
		var want impl.Store
		taken := 0
		takes := len(s.Free) > 0 && root >= 0 && root < len(s.Heap.Roots)
		if takes {
			taken = s.Free[0]
			want = store(cloneHeap(s.Heap), s.Free[1:]...)
			want.Heap.Roots[root] = taken
		}
		got, cell, ok := impl.AllocCell(s, root)
		if ok != takes || cell != taken || !equalStores(got, want) {
			t.Fatalf("%v: AllocCell(%d) = %v, %d, %v", s, root, got, cell, ok)
		}
	}
}

// checkCollect is promise 4: all garbage becomes free, and nothing that is live.
func checkCollect(t *testing.T, s impl.Store, leaked []int) {
	t.Helper()
	end, ok := impl.CollectStore(s)
	if !ok || !equalStores(end, cleared(s, leaked...)) {
		t.Fatalf("%v: CollectStore = %v, %v", s, end, ok)
	}
	if !impl.StoreValid(end) || len(impl.LeakedOf(end)) != 0 {
		t.Fatalf("%v: after CollectStore, LeakedOf(%v) = %v", s, end, impl.LeakedOf(end))
	}
	for cell, live := range impl.Reachable(s.Heap) {
		if impl.IsFree(end, cell) == live || impl.Reachable(end.Heap)[cell] != live {
			t.Fatalf("%v: CollectStore = %v, in which cell %d is free or lost", s, end, cell)
		}
		if live && (end.Heap.Left[cell] != s.Heap.Left[cell] || end.Heap.Right[cell] != s.Heap.Right[cell]) {
			t.Fatalf("%v: CollectStore = %v, in which live cell %d is changed", s, end, cell)
		}
	}
	if again, ok := impl.CollectStore(end); !ok || !equalStores(again, end) {
		t.Fatalf("%v: CollectStore twice = %v, %v", s, again, ok)
	}
}

func TestStoresOfSmallHeaps(t *testing.T) {
	for _, size := range [][2]int{{1, 1}, {1, 2}, {1, 3}, {2, 1}, {2, 2}, {2, 3}, {3, 1}} {
		everyHeap(size[0], size[1], func(h impl.Heap) {
			everyFree(looseCells(h), nil, func(free []int) { checkStore(t, store(h, free...)) })
		})
	}
}

func TestStoresOfAllSizes(t *testing.T) {
	for _, s := range mixedStores(20000) {
		checkStore(t, s)
	}
}

func TestStoreValid(t *testing.T) {
	for _, size := range [][2]int{{1, 1}, {1, 3}, {2, 1}, {2, 2}, {3, 1}} {
		everyHeap(size[0], size[1], func(h impl.Heap) {
			loose := looseCells(h)
			everyRow(size[0]+1, size[0], nil, func(free []int) {
				want := true
				for i, cell := range free {
					want = want && slices.Contains(loose, cell) && !slices.Contains(free[:i], cell)
				}
				if got := impl.StoreValid(store(h, free...)); got != want {
					t.Fatalf("StoreValid(%v) = %v", store(h, free...), got)
				}
			})
		})
	}
	if !impl.StoreValid(store(mustParse(t, "-- / -"))) || !impl.StoreValid(store(mustParse(t, "-- / -"), []int{}...)) {
		t.Error("StoreValid accepts no cell that is leaked")
	}
}

func TestNewStore(t *testing.T) {
	for cells := -2; cells <= 12; cells++ {
		for roots := -2; roots <= 6; roots++ {
			s, ok := impl.NewStore(cells, roots)
			valid := cells >= 1 && cells <= 8 && roots >= 1 && roots <= 3
			var want impl.Store
			if valid {
				want = store(impl.Heap{Left: nones(cells), Right: nones(cells), Roots: nones(roots)}, []int{0, 1, 2, 3, 4, 5, 6, 7}[:cells]...)
			}
			if ok != valid || !equalStores(s, want) || impl.StoreValid(s) != valid {
				t.Errorf("NewStore(%d, %d) = %v, %v", cells, roots, s, ok)
			}
		}
	}
	for _, size := range [][2]int{{math.MaxInt, 1}, {1, math.MaxInt}, {math.MinInt, 1}, {1, math.MinInt}, {1<<32 + 1, 1}, {1, 1<<32 + 1}} {
		if s, ok := impl.NewStore(size[0], size[1]); ok || !isZeroStore(s) {
			t.Errorf("NewStore(%d, %d) = %v, %v", size[0], size[1], s, ok)
		}
	}
}

// TestStoreExample is the example of the document.
func TestStoreExample(t *testing.T) {
	s, _ := impl.NewStore(2, 1)
	s, first, ok := impl.AllocCell(s, 0)
	if !ok || first != 0 || len(impl.LeakedOf(s)) != 0 {
		t.Fatalf("AllocCell = %v, %d, %v", s, first, ok)
	}
	s, second, ok := impl.AllocCell(s, 0)
	if !ok || second != 1 || impl.FormatStore(s) != "-- -- / 1 free" || !slices.Equal(impl.LeakedOf(s), []int{0}) {
		t.Fatalf("AllocCell = %v, %d, %v, LeakedOf = %v", s, second, ok, impl.LeakedOf(s))
	}
	if s, ok = impl.CollectStore(s); !ok || impl.FormatStore(s) != "-- -- / 1 free 0" {
		t.Fatalf("CollectStore = %v, %v", s, ok)
	}
}

func TestAllocCell(t *testing.T) {
	for _, c := range []struct {
		what string
		text string
		free []int
		root int
		cell int
		want string
	}{
		{"the only cell", "-- / -", []int{0}, 0, 0, "-- / 0 free"},
		{"the first one, not the least", "-- -- -- / - -", []int{2, 0, 1}, 1, 2, "-- -- -- / - 2 free 0 1"},
		{"a root that points to a cell leaves it", "00 -- / 0", []int{1}, 0, 1, "00 -- / 1 free"},
		{"other roots stay", "-- -- -- / 0 1 0", []int{2}, 1, 2, "-- -- -- / 0 2 0 free"},
		{"garbage stays garbage", "-- -- -- / -", []int{1}, 0, 1, "-- -- -- / 1 free"},
		{"the last root of eight cells", "-- -- -- -- -- -- -- -- / - - -", []int{7, 6, 5, 4, 3, 2, 1, 0}, 2, 7, "-- -- -- -- -- -- -- -- / - - 7 free 6 5 4 3 2 1 0"},
	} {
		got, cell, ok := impl.AllocCell(store(mustParse(t, c.text), c.free...), c.root)
		if !ok || cell != c.cell || impl.FormatStore(got) != c.want {
			t.Errorf("%s: AllocCell = %q, %d, %v", c.what, impl.FormatStore(got), cell, ok)
		}
	}
}

func TestNoFreeCell(t *testing.T) {
	for _, text := range []string{"-- / -", "-- / 0", "1- -0 / 1", "-- -- -- / 0 1 2", "-- -- -- -- -- -- -- -- / - - -"} {
		for root := -1; root <= 3; root++ {
			if got, cell, ok := impl.AllocCell(store(mustParse(t, text)), root); ok || cell != 0 || !isZeroStore(got) {
				t.Errorf("%q: AllocCell(%d) = %v, %d, %v", text, root, got, cell, ok)
			}
		}
	}
	s, _ := impl.NewStore(8, 1)
	for want := range 8 {
		next, cell, ok := impl.AllocCell(s, 0)
		if !ok || cell != want {
			t.Fatalf("AllocCell number %d = %v, %d, %v", want, next, cell, ok)
		}
		s = next
	}
	if got, cell, ok := impl.AllocCell(s, 0); ok || cell != 0 || !isZeroStore(got) {
		t.Errorf("AllocCell after eight = %v, %d, %v", got, cell, ok)
	}
	if got := impl.LeakedOf(s); !slices.Equal(got, []int{0, 1, 2, 3, 4, 5, 6}) {
		t.Errorf("LeakedOf after eight = %v", got)
	}
}

func TestCollectStore(t *testing.T) {
	for _, c := range []struct {
		what   string
		text   string
		free   []int
		leaked []int
		want   string
	}{
		{"no garbage", "1- -0 / 1", nil, nil, "1- -0 / 1 free"},
		{"all garbage is free", "-- -- -- / 1", []int{2, 0}, nil, "-- -- -- / 1 free 2 0"},
		{"everything is free", "-- -- / -", []int{1, 0}, nil, "-- -- / - free 1 0"},
		{"everything is leaked", "-- -- -- / -", nil, []int{0, 1, 2}, "-- -- -- / - free 0 1 2"},
		{"a cell that points to itself", "00 / -", nil, []int{0}, "-- / - free 0"},
		{"garbage in a circle of two", "-- 2- -1 / 0", nil, []int{1, 2}, "-- -- -- / 0 free 1 2"},
		{"garbage in a circle of three", "1- 2- 0- -- / 3", nil, []int{0, 1, 2}, "-- -- -- -- / 3 free 0 1 2"},
		{"a live circle stays", "1- -0 3- 2- / 1", nil, []int{2, 3}, "1- -0 -- -- / 1 free 2 3"},
		{"garbage that points to what is live", "1- -- 0- / 0", nil, []int{2}, "1- -- -- / 0 free 2"},
		{"garbage with two pointers to what is live", "-- 00 / 0", nil, []int{1}, "-- -- / 0 free 1"},
		{"garbage in a circle that points to what is live", "-- 20 10 / 0", nil, []int{1, 2}, "-- -- -- / 0 free 1 2"},
		{"cleared cells come after free ones", "-- -- -- -- / 1", []int{3}, []int{0, 2}, "-- -- -- -- / 1 free 3 0 2"},
		{"eight cells, in a circle", "1- 2- 3- 4- 5- 6- 7- -0 / - - -", nil, []int{0, 1, 2, 3, 4, 5, 6, 7}, "-- -- -- -- -- -- -- -- / - - - free 0 1 2 3 4 5 6 7"},
		{"the last of eight cells is live", "7- 7- 7- 7- 7- 7- 7- -7 / - - 7", nil, []int{0, 1, 2, 3, 4, 5, 6}, "-- -- -- -- -- -- -- -7 / - - 7 free 0 1 2 3 4 5 6"},
	} {
		s := store(mustParse(t, c.text), c.free...)
		if got := impl.LeakedOf(s); !slices.Equal(got, c.leaked) {
			t.Errorf("%s: LeakedOf = %v", c.what, got)
		}
		if got, ok := impl.CollectStore(s); !ok || impl.FormatStore(got) != c.want {
			t.Errorf("%s: CollectStore = %q, %v", c.what, impl.FormatStore(got), ok)
		}
		// One after the other, they are the same as all at once.
		one := s
		for _, cell := range c.leaked {
			one, _ = impl.FreeCell(one, cell)
		}
		if impl.FormatStore(one) != c.want {
			t.Errorf("%s: FreeCell of each = %q", c.what, impl.FormatStore(one))
		}
	}
}

func TestFreeCell(t *testing.T) {
	for _, c := range []struct {
		what string
		text string
		free []int
		cell int
		want string
	}{
		{"the only cell", "-- / -", nil, 0, "-- / - free 0"},
		{"a cell that points to itself", "00 / -", nil, 0, "-- / - free 0"},
		{"a cell of a circle", "1- 2- 0- / -", nil, 1, "-- -- 0- / - free 1"},
		{"left and right pointers to the cell", "-2 2- 01 22 / -", nil, 2, "-- -- -- -- / - free 2"},
		{"other pointers stay", "10 02 1- / -", nil, 1, "-0 -- -- / - free 1"},
		{"live cells stay", "1- -0 01 / 0", nil, 2, "1- -0 -- / 0 free 2"},
		{"the end of the free cells", "-- -- -- -- / -", []int{3, 1}, 0, "-- -- -- -- / - free 3 1 0"},
		{"the last of eight cells", "-7 -- -- -- -- -- -- 0- / - - -", nil, 7, "-- -- -- -- -- -- -- -- / - - - free 7"},
	} {
		got, ok := impl.FreeCell(store(mustParse(t, c.text), c.free...), c.cell)
		if !ok || impl.FormatStore(got) != c.want {
			t.Errorf("%s: FreeCell = %q, %v", c.what, impl.FormatStore(got), ok)
		}
	}
}

func TestFreeCellOfNoGarbage(t *testing.T) {
	for _, c := range []struct {
		what string
		cell int
	}{
		{"a root's cell", 0}, {"a cell that a live one points to", 1}, {"a free cell", 2},
		{"None", -1}, {"no cell", 4}, {"the greatest number", math.MaxInt}, {"the least number", math.MinInt},
		{"a number that is 3 in 32 bits", 1<<32 + 3},
	} {
		if got, ok := impl.FreeCell(store(mustParse(t, "1- -- -- 3- / 0"), 2), c.cell); ok || !isZeroStore(got) {
			t.Errorf("%s: FreeCell = %v, %v", c.what, got, ok)
		}
	}
}

func TestFormatStore(t *testing.T) {
	for _, c := range []struct {
		text string
		free []int
		want string
	}{
		{"-- / -", nil, "-- / - free"},
		{"-- / -", []int{0}, "-- / - free 0"},
		{"1- -- 0- -- / 0 -", []int{3}, "1- -- 0- -- / 0 - free 3"},
		{"-- -- -- -- -- -- -- -- / - - -", []int{7, 0, 6, 1, 5, 2, 4, 3}, "-- -- -- -- -- -- -- -- / - - - free 7 0 6 1 5 2 4 3"},
	} {
		if got := impl.FormatStore(store(mustParse(t, c.text), c.free...)); got != c.want {
			t.Errorf("FormatStore(%q, %v) = %q", c.text, c.free, got)
		}
	}
}

func TestStoreSame(t *testing.T) {
	one := func() impl.Store {
		return impl.Store{Heap: impl.Heap{Left: []int{1, -1, -1, -1}, Right: []int{-1, 0, -1, -1}, Roots: []int{0}}, Free: []int{3, 2}}
	}
	checkSame(t, "StoreSame", impl.StoreSame, one, map[string]func(s *impl.Store){
		"a left pointer":          func(s *impl.Store) { s.Heap.Left[0] = 0 },
		"a right pointer":         func(s *impl.Store) { s.Heap.Right[1] = 1 },
		"a root":                  func(s *impl.Store) { s.Heap.Roots[0] = 1 },
		"one more root":           func(s *impl.Store) { s.Heap.Roots = []int{0, -1} },
		"the first free cell":     func(s *impl.Store) { s.Free[0] = 1 },
		"the last free cell":      func(s *impl.Store) { s.Free[1] = 1 },
		"the order of free cells": func(s *impl.Store) { s.Free = []int{2, 3} },
		"one free cell less":      func(s *impl.Store) { s.Free = []int{3} },
		"one free cell more":      func(s *impl.Store) { s.Free = []int{3, 2, 0} },
		"no free cells":           func(s *impl.Store) { s.Free = nil },
		"a free cell that is not": func(s *impl.Store) { s.Free[0] = 4 },
		"everything":              func(s *impl.Store) { *s = impl.Store{} },
		"an invalid heap":         func(s *impl.Store) { s.Heap.Left[0] = 9 },
		"no heap any more":        func(s *impl.Store) { s.Heap = impl.Heap{} },
	})
	empty := impl.Store{Heap: impl.Heap{Left: []int{}, Right: []int{}, Roots: []int{}}, Free: []int{}}
	if !impl.StoreSame(empty, impl.Store{}) || !impl.StoreSame(impl.Store{}, empty) {
		t.Error("StoreSame tells empty slices from nil ones")
	}
	for reason, s := range badStores() {
		if !impl.StoreSame(s, roomyStore(s)) {
			t.Errorf("%s: StoreSame of equal stores = false", reason)
		}
	}
}

// checkNothing checks the functions that take the number of a root or a cell, where they return zero values.
func checkNothing(t *testing.T, what string, s impl.Store, number int) {
	t.Helper()
	if got, cell, ok := impl.AllocCell(s, number); ok || cell != 0 || !isZeroStore(got) {
		t.Errorf("%s: AllocCell(%v, %d) = %v, %d, %v", what, s, number, got, cell, ok)
	}
	if got, ok := impl.FreeCell(s, number); ok || !isZeroStore(got) {
		t.Errorf("%s: FreeCell(%v, %d) = %v, %v", what, s, number, got, ok)
	}
	if impl.IsFree(s, number) {
		t.Errorf("%s: IsFree(%v, %d) = true", what, s, number)
	}
}

func TestBadStores(t *testing.T) {
	for reason, s := range badStores() {
		if impl.StoreValid(s) {
			t.Errorf("%s: StoreValid = true", reason)
		}
		for number := -2; number < 10; number++ {
			checkNothing(t, reason, s, number)
		}
		if got := impl.LeakedOf(s); len(got) != 0 {
			t.Errorf("%s: LeakedOf = %v", reason, got)
		}
		if got, ok := impl.CollectStore(s); ok || !isZeroStore(got) {
			t.Errorf("%s: CollectStore = %v, %v", reason, got, ok)
		}
		if got := impl.FormatStore(s); got != "" {
			t.Errorf("%s: FormatStore = %q", reason, got)
		}
	}
}

func TestNoSuchRootOrCell(t *testing.T) {
	for _, h := range someHeaps(t) {
		s := store(h, looseCells(h)...)
		if !impl.StoreValid(s) {
			t.Fatalf("StoreValid(%v) = false", s)
		}
		for _, number := range []int{math.MinInt, -2, -1, 8, 9, 1 << 32, math.MaxInt} {
			checkNothing(t, "no such root or cell", s, number)
		}
	}
}

// storesToChange returns valid and invalid stores, with a name for each.
func storesToChange(t *testing.T) map[string]impl.Store {
	t.Helper()
	list := badStores()
	for _, h := range someHeaps(t) {
		loose := looseCells(h)
		for count := range len(loose) + 1 {
			list[impl.FormatHeap(h)+" "+strconv.Itoa(count)] = store(h, loose[:count]...)
		}
	}
	return list
}

func TestStoresChangeNothing(t *testing.T) {
	for what, s := range storesToChange(t) {
		argument := roomyStore(s)
		impl.StoreValid(argument)
		impl.StoreSame(argument, argument)
		impl.IsFree(argument, 0)
		impl.FormatStore(argument)
		results := []impl.Store{}
		for root := range argument.Heap.Roots {
			taken, _, _ := impl.AllocCell(argument, root)
			results = append(results, taken)
		}
		for cell := range argument.Heap.Left {
			freed, _ := impl.FreeCell(argument, cell)
			results = append(results, freed)
		}
		end, _ := impl.CollectStore(argument)
		again, _ := impl.CollectStore(argument)
		lists := [][]int{impl.LeakedOf(argument), impl.LeakedOf(argument)}
		for _, result := range append(results, end, again) {
			lists = append(lists, storeLists(result)...)
		}
		checkOwnMemory(t, what, lists...)
		if !isRoomyStoreOf(argument, s) {
			t.Errorf("%s: a function changes its argument, or shares memory with it", what)
		}
	}
	a, _ := impl.NewStore(8, 3)
	b, _ := impl.NewStore(8, 3)
	checkOwnMemory(t, "NewStore", append(storeLists(a), storeLists(b)...)...)
}
