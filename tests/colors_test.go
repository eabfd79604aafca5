package tests

import (
	"math"
	"math/rand/v2"
	"slices"
	"strconv"
	"testing"

	"loop.example/cellcollector/impl"
)

func colored(h impl.Heap, color ...int) impl.Colored {
	return impl.Colored{Heap: h, Color: color}
}

func isZeroColored(c impl.Colored) bool {
	return isZeroHeap(c.Heap) && len(c.Color) == 0
}

func equalColored(a, b impl.Colored) bool {
	return equalHeaps(a.Heap, b.Heap) && slices.Equal(a.Color, b.Color)
}

func roomyColored(c impl.Colored) impl.Colored {
	return impl.Colored{Heap: roomyHeap(c.Heap), Color: roomy(c.Color)}
}

func isRoomyColoredOf(c, want impl.Colored) bool {
	return isRoomyHeapOf(c.Heap, want.Heap) && isRoomyOf(c.Color, want.Color)
}

func coloredLists(c impl.Colored) [][]int {
	return append(heapLists(c.Heap), c.Color)
}

// everyColor calls see with each row of colors for so many cells.
func everyColor(cells int, see func(color []int)) {
	color := make([]int, cells)
	for more := true; more; more = nextColors(color) {
		see(slices.Clone(color))
	}
}

// nextColors counts on, with the colors as digits; false after the last.
func nextColors(color []int) bool {
	for i := range color {
		if color[i]++; color[i] < 3 {
			return true
		}
		color[i] = 0
	}
	return false
}

// mixedColors returns heaps of all sizes with colors, the same in each run.
func mixedColors(count int) []impl.Colored {
	random := rand.New(rand.NewPCG(3, 4))
	list := make([]impl.Colored, count)
	for i, h := range mixedHeaps(count) {
		list[i] = colored(h, make([]int, len(h.Left))...)
		for cell := range list[i].Color {
			list[i].Color[cell] = random.IntN(3)
		}
	}
	return list
}

// badColored returns colored heaps that are not valid, each for one reason; but for it, roots,
// gray cells and black ones would have an effect.
func badColored() map[string]impl.Colored {
	two := impl.Heap{Left: []int{1, 1}, Right: []int{-1, -1}, Roots: []int{0}}
	eight := impl.Heap{Left: make([]int, 8), Right: nones(8), Roots: make([]int, 3)}
	list := map[string]impl.Colored{
		"no colors":                       colored(two),
		"a color too few":                 colored(two, 1),
		"a color too many":                colored(two, 1, 0, 0),
		"a color too few for eight cells": colored(eight, make([]int, 7)...),
		"nine colors":                     colored(eight, make([]int, 9)...),
		"no heap":                         colored(impl.Heap{}, 1),
		"a color after the last one":      colored(two, 1, 3),
		"a first color after the last":    colored(two, 3, 1),
		"a color before the first one":    colored(two, 1, -1),
		"a first color before the first":  colored(two, -1, 1),
		"the greatest number":             colored(two, 1, math.MaxInt),
		"the least number":                colored(two, 1, math.MinInt),
		"a number that is 1 in 32 bits":   colored(two, 1, 1<<32+1),
		"eight colors, one of them none":  colored(eight, 0, 1, 2, 0, 1, 2, 0, 3),
	}
	for reason, h := range badHeaps() {
		list[reason] = colored(h, make([]int, len(h.Left))...)
		list[reason+", gray cells"] = colored(h, slices.Repeat([]int{1}, len(h.Left))...)
		list[reason+", black cells"] = colored(h, slices.Repeat([]int{2}, len(h.Left))...)
	}
	return list
}

// shadeIn is the document's word shade, for a pointer.
func shadeIn(color []int, pointer int) {
	if pointer >= 0 && color[pointer] == 0 {
		color[pointer] = 1
	}
}

// stepIn is the document's MarkStep.
func stepIn(h impl.Heap, color []int) bool {
	for cell := range color {
		if color[cell] == 1 {
			shadeIn(color, h.Left[cell])
			shadeIn(color, h.Right[cell])
			color[cell] = 2
			return true
		}
	}
	return false
}

// marked returns the colors after MarkAll: black cells, and those to which a way of gray and
// white cells goes that begins at a gray one, are black; the others are white.
func marked(c impl.Colored) []int {
	h := impl.Heap{Left: slices.Clone(c.Heap.Left), Right: slices.Clone(c.Heap.Right), Roots: nones(1)}
	for cell, color := range c.Color {
		if color == 2 {
			h.Left[cell], h.Right[cell] = -1, -1
		}
	}
	w := newWayTable(h)
	out := slices.Clone(c.Color)
	for from, color := range c.Color {
		for to := range out {
			if color == 1 && w.length[from][to] < far {
				out[to] = 2
			}
		}
	}
	return out
}

// checkColors compares all functions of the chapter with the document's words.
func checkColors(t *testing.T, c impl.Colored) {
	t.Helper()
	if !impl.ColoredValid(c) || !impl.ColoredSame(c, c) {
		t.Fatalf("%v: ColoredValid = %v, ColoredSame = %v", c, impl.ColoredValid(c), impl.ColoredSame(c, c))
	}
	for cell := range c.Color {
		want := slices.Clone(c.Color)
		shadeIn(want, cell)
		if got, ok := impl.ShadeCell(c, cell); !ok || !equalColored(got, colored(c.Heap, want...)) {
			t.Fatalf("%v: ShadeCell(%d) = %v, %v", c, cell, got, ok)
		}
	}
	want := slices.Clone(c.Color)
	for _, root := range c.Heap.Roots {
		shadeIn(want, root)
	}
	if got, ok := impl.ShadeRoots(c); !ok || !equalColored(got, colored(c.Heap, want...)) {
		t.Fatalf("%v: ShadeRoots = %v, %v", c, got, ok)
	}
	want = slices.Clone(c.Color)
	moves := stepIn(c.Heap, want)
	if got, moved, ok := impl.MarkStep(c); !ok || moved != moves || !equalColored(got, colored(c.Heap, want...)) {
		t.Fatalf("%v: MarkStep = %v, %v, %v", c, got, moved, ok)
	}
	if got, ok := impl.MarkAll(c); !ok || !equalColored(got, colored(c.Heap, marked(c)...)) {
		t.Fatalf("%v: MarkAll = %v, %v", c, got, ok)
	}
	checkColorReaders(t, c)
}

func checkColorReaders(t *testing.T, c impl.Colored) {
	t.Helper()
	holds := true
	var counts [3]int
	for cell, color := range c.Color {
		counts[color]++
		for _, to := range []int{c.Heap.Left[cell], c.Heap.Right[cell]} {
			if color == 2 && to != -1 && c.Color[to] == 0 {
				holds = false
			}
		}
	}
	if got := impl.ColorHolds(c); got != holds {
		t.Fatalf("%v: ColorHolds = %v", c, got)
	}
	for color, count := range counts {
		if got := impl.CountColor(c, color); got != count {
			t.Fatalf("%v: CountColor(%d) = %d", c, color, got)
		}
	}
}

func TestColorNumbers(t *testing.T) {
	if impl.White != 0 || impl.Gray != 1 || impl.Black != 2 {
		t.Errorf("White, Gray, Black = %d, %d, %d", impl.White, impl.Gray, impl.Black)
	}
}

func TestColorsOfSmallHeaps(t *testing.T) {
	for _, size := range [][2]int{{1, 1}, {1, 2}, {1, 3}, {2, 1}, {2, 2}, {3, 1}} {
		everyHeap(size[0], size[1], func(h impl.Heap) {
			everyColor(size[0], func(color []int) { checkColors(t, colored(h, color...)) })
		})
	}
}

func TestColorsOfAllSizes(t *testing.T) {
	for _, c := range mixedColors(20000) {
		checkColors(t, c)
	}
}

// checkMarkedIsLive is promise 3: what is marked is what is live.
func checkMarkedIsLive(t *testing.T, h impl.Heap) {
	t.Helper()
	c, ok := impl.NewColored(h)
	if !ok || !equalColored(c, colored(h, make([]int, len(h.Left))...)) {
		t.Fatalf("NewColored(%v) = %v, %v", h, c, ok)
	}
	c, ok = impl.ShadeRoots(c)
	if !ok || !impl.ColorHolds(c) {
		t.Fatalf("%v: ShadeRoots = %v, %v", h, c, ok)
	}
	end, ok := impl.MarkAll(c)
	w := newWayTable(h)
	want := make([]int, w.cells)
	for cell := range want {
		if w.distance(cell) < far {
			want[cell] = 2
		}
	}
	if !ok || !equalColored(end, colored(h, want...)) || !impl.ColorHolds(end) {
		t.Fatalf("%v: MarkAll = %v, %v", h, end, ok)
	}
	live := impl.CountLive(h)
	if impl.CountColor(end, 2) != live || impl.CountColor(end, 0) != w.cells-live || impl.CountColor(end, 1) != 0 {
		t.Fatalf("%v: the colors of %v are miscounted", h, end)
	}
	checkSteps(t, c, end, live)
}

// checkSteps makes a step for each live cell, after which the colors are those of MarkAll.
func checkSteps(t *testing.T, c, end impl.Colored, live int) {
	t.Helper()
	for step := range live {
		next, moved, ok := impl.MarkStep(c)
		if !ok || !moved || !impl.ColorHolds(next) || impl.CountColor(next, 2) != step+1 {
			t.Fatalf("%v: MarkStep = %v, %v, %v", c, next, moved, ok)
		}
		c = next
	}
	if next, moved, ok := impl.MarkStep(c); !ok || moved || !equalColored(next, end) || !equalColored(c, end) {
		t.Fatalf("%v: MarkStep = %v, %v, %v", c, next, moved, ok)
	}
}

func TestMarkedIsLive(t *testing.T) {
	for cells := 1; cells <= 3; cells++ {
		for roots := 1; roots <= 3; roots++ {
			if cells*roots < 6 {
				everyHeap(cells, roots, func(h impl.Heap) { checkMarkedIsLive(t, h) })
			}
		}
	}
	for _, h := range append(someHeaps(t), mixedHeaps(20000)...) {
		checkMarkedIsLive(t, h)
	}
}

func TestShade(t *testing.T) {
	for _, c := range []struct {
		what  string
		text  string
		color []int
		roots []int
	}{
		{"a white cell", "-- / 0", []int{0}, []int{1}},
		{"a gray cell", "-- / 0", []int{1}, []int{1}},
		{"a black cell", "-- / 0", []int{2}, []int{2}},
		{"no root that points to anything", "0- 1- / - - -", []int{0, 0}, []int{0, 0}},
		{"a root that points to nothing before one that does not", "-- -- / - 1", []int{0, 0}, []int{0, 1}},
		{"what cells point to is not shaded", "1- 2- -- / 0", []int{0, 0, 0}, []int{1, 0, 0}},
		{"two roots to one cell", "-- -- / 1 1", []int{0, 0}, []int{0, 1}},
		{"three roots", "-- -- -- -- / 3 0 1", []int{0, 2, 0, 0}, []int{1, 2, 0, 1}},
		{"the last of eight cells", "-- -- -- -- -- -- -- -- / 7 0 3", []int{2, 0, 0, 1, 0, 1, 2, 0}, []int{2, 0, 0, 1, 0, 1, 2, 1}},
	} {
		h := mustParse(t, c.text)
		got, ok := impl.ShadeRoots(colored(h, c.color...))
		if !ok || !equalColored(got, colored(h, c.roots...)) {
			t.Errorf("%s: ShadeRoots(%q, %v) = %v, %v", c.what, c.text, c.color, got, ok)
		}
		cell := len(h.Left) - 1
		want := slices.Clone(c.color)
		want[cell] = max(want[cell], 1)
		got, ok = impl.ShadeCell(colored(h, c.color...), cell)
		if !ok || !equalColored(got, colored(h, want...)) {
			t.Errorf("%s: ShadeCell(%q, %v, %d) = %v, %v", c.what, c.text, c.color, cell, got, ok)
		}
	}
}

func TestMark(t *testing.T) {
	for _, c := range []struct {
		what  string
		text  string
		color []int
		step  []int
		moved bool
		end   []int
	}{
		{"a white cell", "0- / 0", []int{0}, []int{0}, false, []int{0}},
		{"a gray cell", "-- / -", []int{1}, []int{2}, true, []int{2}},
		{"a black cell", "0- / 0", []int{2}, []int{2}, false, []int{2}},
		{"a cell whose left pointer points to itself", "0- / 0", []int{1}, []int{2}, true, []int{2}},
		{"a cell whose right pointer points to itself", "-0 / 0", []int{1}, []int{2}, true, []int{2}},
		{"a cell that points to itself twice", "00 -- / 0", []int{1, 0}, []int{2, 0}, true, []int{2, 0}},
		{"a cell that points to itself and a white one", "01 -- / 0", []int{1, 0}, []int{2, 1}, true, []int{2, 2}},
		{"both pointers to one white cell", "11 -- / -", []int{1, 0}, []int{2, 1}, true, []int{2, 2}},
		{"a left pointer", "-- 0- / -", []int{0, 1}, []int{1, 2}, true, []int{2, 2}},
		{"a right pointer", "-- -0 / -", []int{0, 1}, []int{1, 2}, true, []int{2, 2}},
		{"pointers to a gray cell and a black one", "12 -- 3- -- / -", []int{1, 1, 2, 0}, []int{2, 1, 2, 0}, true, []int{2, 2, 2, 0}},
		{"the first of two gray cells", "-- 3- 2- -- / -", []int{0, 1, 1, 0}, []int{0, 2, 1, 1}, true, []int{0, 2, 2, 2}},
		{"roots are not looked at", "-- -- / 0 1", []int{0, 0}, []int{0, 0}, false, []int{0, 0}},
		{"a black cell that points to a white one", "1- -- / 0", []int{2, 0}, []int{2, 0}, false, []int{2, 0}},
		{"a white cell behind a black one", "1- 2- -- / 0", []int{1, 2, 0}, []int{2, 2, 0}, true, []int{2, 2, 0}},
		{"a circle", "1- 2- 0- / 0", []int{0, 1, 0}, []int{0, 2, 1}, true, []int{2, 2, 2}},
		{"eight cells in a row", "1- 2- 3- 4- 5- 6- 7- -- / 0", []int{1, 0, 0, 0, 0, 0, 0, 0}, []int{2, 1, 0, 0, 0, 0, 0, 0}, true, []int{2, 2, 2, 2, 2, 2, 2, 2}},
		{"eight cells backward", "-- -0 -1 -2 -3 -4 -5 -6 / - - 7", []int{0, 0, 0, 0, 0, 0, 0, 1}, []int{0, 0, 0, 0, 0, 0, 1, 2}, true, []int{2, 2, 2, 2, 2, 2, 2, 2}},
	} {
		h := mustParse(t, c.text)
		got, moved, ok := impl.MarkStep(colored(h, c.color...))
		if !ok || moved != c.moved || !equalColored(got, colored(h, c.step...)) {
			t.Errorf("%s: MarkStep(%q, %v) = %v, %v, %v", c.what, c.text, c.color, got, moved, ok)
		}
		if got, ok := impl.MarkAll(colored(h, c.color...)); !ok || !equalColored(got, colored(h, c.end...)) {
			t.Errorf("%s: MarkAll(%q, %v) = %v, %v", c.what, c.text, c.color, got, ok)
		}
	}
}

func TestColorHolds(t *testing.T) {
	for _, c := range []struct {
		what  string
		text  string
		color []int
		holds bool
	}{
		{"a left pointer from black to white", "1- -- / 0", []int{2, 0}, false},
		{"a right pointer from black to white", "-1 -- / 0", []int{2, 0}, false},
		{"from black to gray", "1- -- / 0", []int{2, 1}, true},
		{"from black to black", "11 -- / 0", []int{2, 2}, true},
		{"from gray to white", "11 -- / 0", []int{1, 0}, true},
		{"from white to white", "11 -- / 0", []int{0, 0}, true},
		{"a root to a white cell", "-- -- / 0 1", []int{2, 0}, true},
		{"a black cell that points to itself", "00 / 0", []int{2}, true},
		{"a black cell that points to nothing", "-- -- / 0", []int{2, 0}, true},
		{"from a black cell that is garbage", "-- 0- / -", []int{0, 2}, false},
		{"from the last of eight cells to the first", "-- -- -- -- -- -- -- -0 / 0", []int{0, 0, 0, 0, 0, 0, 0, 2}, false},
		{"the second of two black cells", "1- -2 -- / 0", []int{2, 2, 0}, false},
	} {
		if got := impl.ColorHolds(colored(mustParse(t, c.text), c.color...)); got != c.holds {
			t.Errorf("%s: ColorHolds(%q, %v) = %v", c.what, c.text, c.color, got)
		}
	}
}

func TestCountColor(t *testing.T) {
	c := colored(mustParse(t, "-- -- -- -- -- -- -- -- / -"), 2, 0, 1, 2, 2, 0, 2, 1)
	for color, want := range map[int]int{0: 2, 1: 2, 2: 4, -1: 0, 3: 0, -2: 0, 1 << 32: 0, math.MaxInt: 0, math.MinInt: 0} {
		if got := impl.CountColor(c, color); got != want {
			t.Errorf("CountColor(%v, %d) = %d", c, color, got)
		}
	}
	if got := impl.CountColor(colored(mustParse(t, "-- / -"), 0), 0); got != 1 {
		t.Errorf("CountColor of one white cell = %d", got)
	}
}

func TestColoredSame(t *testing.T) {
	one := func() impl.Colored {
		return impl.Colored{Heap: impl.Heap{Left: []int{1, -1}, Right: []int{-1, 0}, Roots: []int{0}}, Color: []int{2, 0}}
	}
	checkSame(t, "ColoredSame", impl.ColoredSame, one, map[string]func(c *impl.Colored){
		"a left pointer":   func(c *impl.Colored) { c.Heap.Left[0] = 0 },
		"a right pointer":  func(c *impl.Colored) { c.Heap.Right[1] = 1 },
		"a root":           func(c *impl.Colored) { c.Heap.Roots[0] = 1 },
		"one more root":    func(c *impl.Colored) { c.Heap.Roots = []int{0, -1} },
		"the first color":  func(c *impl.Colored) { c.Color[0] = 1 },
		"the last color":   func(c *impl.Colored) { c.Color[1] = 1 },
		"one color less":   func(c *impl.Colored) { c.Color = []int{2} },
		"one color more":   func(c *impl.Colored) { c.Color = []int{2, 0, 0} },
		"no colors":        func(c *impl.Colored) { c.Color = nil },
		"no color at all":  func(c *impl.Colored) { c.Color[0] = 3 },
		"everything":       func(c *impl.Colored) { *c = impl.Colored{} },
		"an invalid heap":  func(c *impl.Colored) { c.Heap.Left[0] = 9 },
		"no heap any more": func(c *impl.Colored) { c.Heap = impl.Heap{} },
	})
	empty := impl.Colored{Heap: impl.Heap{Left: []int{}, Right: []int{}, Roots: []int{}}, Color: []int{}}
	if !impl.ColoredSame(empty, impl.Colored{}) || !impl.ColoredSame(impl.Colored{}, empty) {
		t.Error("ColoredSame tells empty slices from nil ones")
	}
	for reason, c := range badColored() {
		if !impl.ColoredSame(c, roomyColored(c)) {
			t.Errorf("%s: ColoredSame of equal values = false", reason)
		}
	}
}

func TestNewColoredOfBadHeap(t *testing.T) {
	for reason, h := range badHeaps() {
		if c, ok := impl.NewColored(h); ok || !isZeroColored(c) {
			t.Errorf("%s: NewColored = %v, %v", reason, c, ok)
		}
	}
}

func TestBadColored(t *testing.T) {
	for reason, c := range badColored() {
		if impl.ColoredValid(c) {
			t.Errorf("%s: ColoredValid = true", reason)
		}
		for cell := -2; cell < 10; cell++ {
			if got, ok := impl.ShadeCell(c, cell); ok || !isZeroColored(got) {
				t.Errorf("%s: ShadeCell(%d) = %v, %v", reason, cell, got, ok)
			}
		}
		if got, ok := impl.ShadeRoots(c); ok || !isZeroColored(got) {
			t.Errorf("%s: ShadeRoots = %v, %v", reason, got, ok)
		}
		if got, moved, ok := impl.MarkStep(c); ok || moved || !isZeroColored(got) {
			t.Errorf("%s: MarkStep = %v, %v, %v", reason, got, moved, ok)
		}
		if got, ok := impl.MarkAll(c); ok || !isZeroColored(got) {
			t.Errorf("%s: MarkAll = %v, %v", reason, got, ok)
		}
		if impl.ColorHolds(c) {
			t.Errorf("%s: ColorHolds = true", reason)
		}
		for color := -1; color <= 3; color++ {
			if got := impl.CountColor(c, color); got != 0 {
				t.Errorf("%s: CountColor(%d) = %d", reason, color, got)
			}
		}
	}
}

func TestShadeNoCell(t *testing.T) {
	for _, h := range someHeaps(t) {
		cells := len(h.Left)
		for _, cell := range []int{math.MinInt, -2, -1, cells, cells + 1, 100, math.MaxInt} {
			if got, ok := impl.ShadeCell(colored(h, make([]int, cells)...), cell); ok || !isZeroColored(got) {
				t.Errorf("%q: ShadeCell(%d) = %v, %v", impl.FormatHeap(h), cell, got, ok)
			}
		}
	}
}

// coloredToChange returns valid and invalid values, with a name for each.
func coloredToChange(t *testing.T) map[string]impl.Colored {
	t.Helper()
	list := badColored()
	for _, h := range someHeaps(t) {
		for color := range 3 {
			list[impl.FormatHeap(h)+" "+strconv.Itoa(color)] = colored(h, slices.Repeat([]int{color}, len(h.Left))...)
		}
	}
	return list
}

func TestColorsChangeNothing(t *testing.T) {
	for what, c := range coloredToChange(t) {
		argument := roomyColored(c)
		impl.ColoredValid(argument)
		impl.ColoredSame(argument, argument)
		impl.ColorHolds(argument)
		impl.CountColor(argument, 1)
		made, _ := impl.NewColored(argument.Heap)
		shaded, _ := impl.ShadeCell(argument, 0)
		roots, _ := impl.ShadeRoots(argument)
		step, _, _ := impl.MarkStep(argument)
		end, _ := impl.MarkAll(argument)
		lists := coloredLists(made)
		for _, result := range []impl.Colored{shaded, roots, step, end} {
			lists = append(lists, coloredLists(result)...)
		}
		checkOwnMemory(t, what, lists...)
		if !isRoomyColoredOf(argument, c) {
			t.Errorf("%s: a function changes its argument, or shares memory with it", what)
		}
	}
}
