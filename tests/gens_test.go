package tests

import (
	"math"
	"math/rand/v2"
	"slices"
	"strconv"
	"strings"
	"testing"

	"loop.example/cellcollector/impl"
)

// agesOf has an o for each old cell, and a y for each young one.
func agesOf(letters string) []bool {
	old := make([]bool, len(letters))
	for cell := range old {
		old[cell] = letters[cell] == 'o'
	}
	return old
}

func agesText(old []bool) string {
	var text strings.Builder
	for _, isOld := range old {
		text.WriteString(map[bool]string{true: "o", false: "y"}[isOld])
	}
	return text.String()
}

// gens makes a value with what has to be remembered, if the heap is valid.
func gens(h impl.Heap, old []bool) impl.Gens {
	return impl.Gens{Heap: cloneHeap(h), Old: slices.Clone(old), Remember: rememberedIn(h, old)}
}

// repeatedGens makes a value whose cells have the ages of the letters, which are repeated.
func repeatedGens(h impl.Heap, letters string) impl.Gens {
	cells := len(h.Left)
	return gens(h, agesOf(strings.Repeat(letters, cells)[:cells]))
}

func mustGens(t *testing.T, text, ages string) impl.Gens {
	t.Helper()
	g := gens(mustParse(t, text), agesOf(ages))
	if !impl.GensValid(g) {
		t.Fatalf("GensValid(%v) = false", g)
	}
	return g
}

func isZeroGens(g impl.Gens) bool {
	return isZeroHeap(g.Heap) && len(g.Old) == 0 && len(g.Remember) == 0
}

func equalGens(a, b impl.Gens) bool {
	return equalHeaps(a.Heap, b.Heap) && slices.Equal(a.Old, b.Old) && slices.Equal(a.Remember, b.Remember)
}

func cloneGens(g impl.Gens) impl.Gens {
	return impl.Gens{Heap: cloneHeap(g.Heap), Old: slices.Clone(g.Old), Remember: slices.Clone(g.Remember)}
}

// gensText is the text of the heap, the ages, and the cells of Remember, for a valid heap.
func gensText(g impl.Gens) string {
	text := impl.FormatHeap(g.Heap) + " " + agesText(g.Old) + " remember"
	for _, cell := range g.Remember {
		text += " " + strconv.Itoa(cell)
	}
	return text
}

// everyAges calls see with each row of ages for so many cells.
func everyAges(cells int, see func(old []bool)) {
	for bits := range 1 << cells {
		old := make([]bool, cells)
		for cell := range old {
			old[cell] = bits>>cell&1 == 1
		}
		see(old)
	}
}

// mixedGens returns valid values of all sizes, with few and with many old cells, the same in each run.
func mixedGens(count int) []impl.Gens {
	random := rand.New(rand.NewPCG(28, 29))
	list := make([]impl.Gens, count)
	for i, h := range mixedHeaps(count) {
		old := make([]bool, len(h.Left))
		few := random.IntN(5)
		for cell := range old {
			old[cell] = random.IntN(4) < few
		}
		list[i] = gens(h, old)
	}
	return list
}

// rememberedIn is what the document calls Remember. Of pointers that are no cells, none is young.
func rememberedIn(h impl.Heap, old []bool) []int {
	var remember []int
	for cell, left := range h.Left {
		toYoung := isYoungIn(old, left) || cell < len(h.Right) && isYoungIn(old, h.Right[cell])
		if cell < len(old) && old[cell] && toYoung {
			remember = append(remember, cell)
		}
	}
	return remember
}

func isYoungIn(old []bool, pointer int) bool {
	return pointer >= 0 && pointer < len(old) && !old[pointer]
}

// keptIn is the document's YoungKept, for a valid value: it looks at all cells until no one more is kept.
func keptIn(g impl.Gens) []int {
	from := slices.Clone(g.Remember)
	for more := true; more; {
		more = false
		for cell, old := range g.Old {
			if old || slices.Contains(from, cell) {
				continue
			}
			points := func(a int) bool { return g.Heap.Left[a] == cell || g.Heap.Right[a] == cell }
			if slices.Contains(g.Heap.Roots, cell) || slices.ContainsFunc(from, points) {
				from = append(from, cell)
				more = true
			}
		}
	}
	kept := slices.DeleteFunc(from, func(cell int) bool { return g.Old[cell] })
	slices.Sort(kept)
	return kept
}

// smallIn is the document's SmallCollect, for a valid value.
func smallIn(g impl.Gens) (impl.Gens, []int) {
	kept := keptIn(g)
	h, old := cloneHeap(g.Heap), slices.Clone(g.Old)
	var gone []int
	for cell := range old {
		switch {
		case slices.Contains(kept, cell):
			old[cell] = true
		case !old[cell]:
			h.Left[cell], h.Right[cell] = -1, -1
			gone = append(gone, cell)
		}
	}
	return gens(h, old), gone
}

// putIn is the document's PutGens, for a valid value.
func putIn(g impl.Gens, cell, to int) (impl.Gens, bool) {
	cells := len(g.Old)
	if cell < 0 || cell >= cells || to < -1 || to >= cells {
		return impl.Gens{}, false
	}
	h := cloneHeap(g.Heap)
	h.Left[cell] = to
	return gens(h, g.Old), true
}

// floatingIn is the document's Floating, for a valid value.
func floatingIn(g impl.Gens) []int {
	w := newWayTable(g.Heap)
	kept := keptIn(g)
	var floating []int
	for cell, old := range g.Old {
		if w.distance(cell) >= far && (old || slices.Contains(kept, cell)) {
			floating = append(floating, cell)
		}
	}
	return floating
}

// checkGens compares all functions but PutGens with the document's words, for a valid value.
func checkGens(t *testing.T, g impl.Gens) {
	t.Helper()
	if !impl.GensValid(g) || !impl.GensSame(g, cloneGens(g)) {
		t.Fatalf("%s: GensValid = %v, GensSame = %v", gensText(g), impl.GensValid(g), impl.GensSame(g, cloneGens(g)))
	}
	made, ok := impl.NewGens(g.Heap)
	if want := gens(g.Heap, make([]bool, len(g.Old))); !ok || !equalGens(made, want) || len(made.Remember) != 0 {
		t.Fatalf("%s: NewGens = %v, %v", gensText(g), made, ok)
	}
	if got := impl.YoungKept(g); !slices.Equal(got, keptIn(g)) {
		t.Fatalf("%s: YoungKept = %v, not %v", gensText(g), got, keptIn(g))
	}
	if got := impl.Floating(g); !slices.Equal(got, floatingIn(g)) {
		t.Fatalf("%s: Floating = %v, not %v", gensText(g), got, floatingIn(g))
	}
	want, wantGone := smallIn(g)
	got, gone, ok := impl.SmallCollect(g)
	if !ok || !equalGens(got, want) || !slices.Equal(gone, wantGone) || !impl.GensValid(got) {
		t.Fatalf("%s: SmallCollect = %v, %v, %v, not %v, %v", gensText(g), got, gone, ok, want, wantGone)
	}
}

// checkPuts has all cells and pointers of a valid value, and some that there are not.
func checkPuts(t *testing.T, g impl.Gens) {
	t.Helper()
	for cell := -1; cell <= len(g.Old); cell++ {
		for to := -2; to <= len(g.Old); to++ {
			want, wantOk := putIn(g, cell, to)
			got, ok := impl.PutGens(g, cell, to)
			if ok != wantOk || !equalGens(got, want) || impl.GensValid(got) != wantOk {
				t.Fatalf("%s: PutGens(%d, %d) = %v, %v, not %v, %v", gensText(g), cell, to, got, ok, want, wantOk)
			}
		}
	}
}

func TestGensOfSmallHeaps(t *testing.T) {
	for _, size := range [][2]int{{1, 1}, {1, 2}, {1, 3}, {2, 1}, {2, 2}, {2, 3}, {3, 1}} {
		everyHeap(size[0], size[1], func(h impl.Heap) {
			everyAges(size[0], func(old []bool) {
				g := gens(h, old)
				checkGens(t, g)
				if size[0] < 3 {
					checkPuts(t, g)
				}
			})
		})
	}
}

func TestGensOfAllSizes(t *testing.T) {
	for _, g := range mixedGens(20000) {
		checkGens(t, g)
	}
	for _, g := range mixedGens(3000) {
		checkPuts(t, g)
	}
}

func TestGensOfSomeHeaps(t *testing.T) {
	for _, h := range someHeaps(t) {
		everyAges(len(h.Left), func(old []bool) { checkGens(t, gens(h, old)) })
		for _, letters := range []string{"y", "o", "yo", "oy", "ooy", "oyy"} {
			checkPuts(t, repeatedGens(h, letters))
		}
	}
}

// TestSmallCollectClearsOnlyGarbage is promise 11: a small collection clears only garbage.
func TestSmallCollectClearsOnlyGarbage(t *testing.T) {
	cleared, floats := 0, 0
	for _, g := range mixedGens(20000) {
		after, gone, ok := impl.SmallCollect(g)
		if !ok || !impl.GensValid(after) || len(after.Remember) != 0 || !slices.Equal(g.Heap.Roots, after.Heap.Roots) {
			t.Fatalf("%s: SmallCollect = %v, %v, %v", gensText(g), after, gone, ok)
		}
		checkOnlyGoneCleared(t, g, after, gone)
		if !alikeIn(g.Heap, after.Heap) {
			t.Fatalf("%s: SmallCollect = %s does not look the same from its roots", gensText(g), gensText(after))
		}
		floating := impl.Floating(g)
		either := slices.Concat(gone, floating)
		slices.Sort(either)
		if !slices.Equal(either, impl.GarbageOf(g.Heap)) || !slices.Equal(impl.Floating(after), floating) {
			t.Fatalf("%s: cleared are %v, floating %v, and then %v", gensText(g), gone, floating, impl.Floating(after))
		}
		again, same, ok := impl.SmallCollect(after)
		if !ok || !equalGens(again, after) || !slices.Equal(same, gone) || len(impl.YoungKept(after)) != 0 {
			t.Fatalf("%s: SmallCollect again = %v, %v, %v", gensText(after), again, same, ok)
		}
		cleared += len(gone)
		floats += len(floating)
	}
	if cleared == 0 || floats == 0 {
		t.Errorf("%d cells were cleared, and %d float", cleared, floats)
	}
}

// checkOnlyGoneCleared needs cells that are gone to have been young garbage, and all others to be old and as they were.
func checkOnlyGoneCleared(t *testing.T, before, after impl.Gens, gone []int) {
	t.Helper()
	w := newWayTable(before.Heap)
	for cell := range before.Old {
		left, right := after.Heap.Left[cell], after.Heap.Right[cell]
		if slices.Contains(gone, cell) {
			if before.Old[cell] || after.Old[cell] || w.distance(cell) < far || left != -1 || right != -1 {
				t.Fatalf("%s: SmallCollect = %s clears the cell %d", gensText(before), gensText(after), cell)
			}
		} else if !after.Old[cell] || left != before.Heap.Left[cell] || right != before.Heap.Right[cell] {
			t.Fatalf("%s: SmallCollect = %s does not keep the cell %d", gensText(before), gensText(after), cell)
		}
	}
}

// TestGensOfPrograms changes pointers and collects in turn, from new values on.
func TestGensOfPrograms(t *testing.T) {
	random := rand.New(rand.NewPCG(30, 31))
	remembered, floats := 0, 0
	for range 300 {
		cells := 1 + random.IntN(8)
		h, _ := impl.NewHeap(cells, 1+random.IntN(3))
		g, ok := impl.NewGens(h)
		for step := 0; ok && step < 40; step++ {
			cell, to := random.IntN(cells), random.IntN(cells+1)-1
			want := cloneGens(g)
			switch random.IntN(5) {
			case 0:
				want, _ = smallIn(g)
				g, _, ok = impl.SmallCollect(g)
			case 1:
				root := random.IntN(len(h.Roots))
				want.Heap.Roots[root] = to
				g.Heap, ok = impl.PutRoot(g.Heap, root, to)
			default:
				want, _ = putIn(g, cell, to)
				g, ok = impl.PutGens(g, cell, to)
			}
			if !ok || !equalGens(g, want) {
				t.Fatalf("step %d leads to %v, %v, not %v", step, g, ok, want)
			}
			checkGens(t, g)
			remembered += len(g.Remember)
			floats += len(impl.Floating(g))
		}
	}
	if remembered == 0 || floats == 0 {
		t.Errorf("%d cells were remembered, and %d float", remembered, floats)
	}
}

func TestNewGens(t *testing.T) {
	for cells := range 11 {
		for roots := range 6 {
			h := impl.Heap{Left: nones(cells), Right: nones(cells), Roots: make([]int, roots)}
			valid := cells >= 1 && cells <= 8 && roots >= 1 && roots <= 3
			g, ok := impl.NewGens(h)
			if ok != valid || valid && !equalGens(g, impl.Gens{Heap: h, Old: make([]bool, cells)}) || !valid && !isZeroGens(g) {
				t.Errorf("NewGens of %d cells and %d roots = %v, %v", cells, roots, g, ok)
			}
			if got := impl.GensValid(impl.Gens{Heap: h, Old: make([]bool, cells)}); got != valid {
				t.Errorf("GensValid of %d cells and %d roots = %v", cells, roots, got)
			}
		}
	}
	for _, text := range []string{"1- -- 3- -- 4- / 0 -", "00 / 0", "1- 2- 3- 4- 5- 6- 7- 0- / 0 - 7"} {
		h := mustParse(t, text)
		if g, ok := impl.NewGens(h); !ok || gensText(g) != text+" "+strings.Repeat("y", len(h.Left))+" remember" {
			t.Errorf("NewGens(%q) = %v, %v", text, g, ok)
		}
	}
	for reason, h := range badHeaps() {
		if g, ok := impl.NewGens(h); ok || !isZeroGens(g) {
			t.Errorf("%s: NewGens = %v, %v", reason, g, ok)
		}
	}
}

func TestYoungKept(t *testing.T) {
	for _, c := range []struct {
		what string
		text string
		ages string
		want []int
	}{
		{"one cell of a root", "-- / 0", "y", []int{0}},
		{"one old cell of a root", "-- / 0", "o", nil},
		{"one cell that is garbage", "-- / -", "y", nil},
		{"one cell that points to itself", "00 / -", "y", nil},
		{"one cell of three roots", "00 / 0 0 0", "y", []int{0}},
		{"the last of three roots", "-- -- / - - 1", "yy", []int{1}},
		{"a chain of a root", "1- -2 -- / 0", "yyy", []int{0, 1, 2}},
		{"ascending, not as they are met", "-- 0- -1 / 2", "yyy", []int{0, 1, 2}},
		{"a left pointer of an old cell", "1- -- / 0", "oy", []int{1}},
		{"a right pointer of an old cell", "-1 -- / 0", "oy", []int{1}},
		{"both pointers of an old cell", "12 -- -- / 0", "oyy", []int{1, 2}},
		{"an old cell that is garbage", "1- -- / -", "oy", []int{1}},
		{"a chain behind an old cell that is garbage", "1- -2 -- -- / 3", "oyyy", []int{1, 2, 3}},
		{"a young cell that points to an old one", "1- -- / -", "yo", nil},
		{"a young cell of a root that points to an old one", "1- -- / 0", "yo", []int{0}},
		{"an old cell between", "1- 2- -- / 0", "yoy", []int{0, 2}},
		{"two old cells between", "1- 2- 3- -- / 0", "yooy", []int{0, 3}},
		{"behind garbage that is young", "1- -- / -", "yy", nil},
		{"a circle of garbage", "1- 0- / -", "yy", nil},
		{"a circle of garbage, one of them old", "1- 0- / -", "yo", []int{0}},
		{"a circle behind an old cell", "-- 2- 1- 1- / -", "yyyo", []int{1, 2}},
		{"garbage that points to a kept cell", "1- -- -- / 1", "yyo", []int{1}},
		{"all cells old", "1- 2- 0- / 0", "ooo", nil},
		{"eight cells in a row", "1- 2- 3- 4- 5- 6- 7- -- / 0", "yyyyyyyy", []int{0, 1, 2, 3, 4, 5, 6, 7}},
		{"eight cells in a row, the first one old and garbage", "1- 2- 3- 4- 5- 6- 7- -- / -", "oyyyyyyy", []int{1, 2, 3, 4, 5, 6, 7}},
		{"eight cells in a row, every other one old", "1- 2- 3- 4- 5- 6- 7- -- / -", "yoyoyoyo", []int{2, 4, 6}},
		{"the last of eight cells", "-- -- -- -- -- -- -- -- / - - 7", "yyyyyyyy", []int{7}},
	} {
		if got := impl.YoungKept(mustGens(t, c.text, c.ages)); !slices.Equal(got, c.want) {
			t.Errorf("%s: YoungKept = %v", c.what, got)
		}
	}
}

func TestSmallCollect(t *testing.T) {
	for _, c := range []struct {
		what string
		text string
		ages string
		want string
		gone []int
	}{
		{"one cell of a root", "0- / 0", "y", "0- / 0 o remember", nil},
		{"one cell that is garbage", "00 / -", "y", "-- / - y remember", []int{0}},
		{"one old cell that is garbage", "00 / -", "o", "00 / - o remember", nil},
		{"the roots stay", "-- -- / 1 - 1", "yo", "-- -- / 1 - 1 yo remember", []int{0}},
		{"an old cell that is garbage", "1- -- / -", "oy", "1- -- / - oo remember", nil},
		{"a chain behind an old cell that is garbage", "-1 -2 -- / -", "oyy", "-1 -2 -- / - ooo remember", nil},
		{"garbage that points to an old cell", "1- -- / -", "yo", "-- -- / - yo remember", []int{0}},
		{"a live cell that points to an old one", "1- -- / 0", "yo", "1- -- / 0 oo remember", nil},
		{"an old cell between", "1- 2- -- / 0", "yoy", "1- 2- -- / 0 ooo remember", nil},
		{"what was remembered is forgotten", "1- -- 1- / 0", "oyo", "1- -- 1- / 0 ooo remember", nil},
		{"all cells old", "1- 0- -- / -", "ooo", "1- 0- -- / - ooo remember", nil},
		{"a circle of garbage", "1- 0- -- / 2", "yyy", "-- -- -- / 2 yyo remember", []int{0, 1}},
		{"garbage that points to a live cell", "11 -- / 1", "yy", "-- -- / 1 yo remember", []int{0}},
		{"garbage that points to an old live cell", "1- 2- -- / 1", "yoy", "-- 2- -- / 1 yoo remember", []int{0}},
		{"young garbage that no pointer leaves", "-- -- / 0", "oy", "-- -- / 0 oy remember", []int{1}},
		{"no live cells", "1- 2- -- / - - -", "yyy", "-- -- -- / - - - yyy remember", []int{0, 1, 2}},
		{"eight cells, all live", "1- 2- 3- 4- 5- 6- 7- 0- / 3 - -", "yyyyyyyy", "1- 2- 3- 4- 5- 6- 7- 0- / 3 - - oooooooo remember", nil},
		{"eight cells that are garbage", "1- 2- 3- 4- 5- 6- 7- 0- / -", "yyyyyyyy", "-- -- -- -- -- -- -- -- / - yyyyyyyy remember", []int{0, 1, 2, 3, 4, 5, 6, 7}},
		{"eight cells, every other one old", "-1 -2 -3 -4 -5 -6 -7 -- / -", "yoyoyoyo", "-- -2 -3 -4 -5 -6 -7 -- / - yooooooo remember", []int{0}},
	} {
		got, gone, ok := impl.SmallCollect(mustGens(t, c.text, c.ages))
		if !ok || gensText(got) != c.want || !slices.Equal(gone, c.gone) {
			t.Errorf("%s: SmallCollect = %q, %v, %v", c.what, gensText(got), gone, ok)
		}
	}
}

func TestPutGens(t *testing.T) {
	for _, c := range []struct {
		what string
		text string
		ages string
		cell int
		to   int
		want string
	}{
		{"an old cell to a young one", "-- -- / 0", "oy", 0, 1, "1- -- / 0 oy remember 0"},
		{"an old cell that is garbage to a young one", "-- -- / -", "oy", 0, 1, "1- -- / - oy remember 0"},
		{"an old cell away from a young one", "1- -- / 0", "oy", 0, -1, "-- -- / 0 oy remember"},
		{"an old cell from a young one to an old one", "1- -- / 0", "oy", 0, 0, "0- -- / 0 oy remember"},
		{"an old cell from a young one to another one", "1- -- -- / 0", "oyy", 0, 2, "2- -- -- / 0 oyy remember 0"},
		{"the same young one again", "1- -- / 0", "oy", 0, 1, "1- -- / 0 oy remember 0"},
		{"the right pointer is still to a young one", "11 -- / 0", "oy", 0, -1, "-1 -- / 0 oy remember 0"},
		{"the right pointer was already to a young one", "-1 -- / 0", "oy", 0, 1, "11 -- / 0 oy remember 0"},
		{"the right pointer is to an old one", "10 -- / 0", "oy", 0, 0, "00 -- / 0 oy remember"},
		{"an old cell to an old one", "-- -- / 0", "oo", 0, 1, "1- -- / 0 oo remember"},
		{"a young cell to a young one", "-- -- / 0", "yy", 0, 1, "1- -- / 0 yy remember"},
		{"a young cell to an old one", "-- -- / 0", "yo", 0, 1, "1- -- / 0 yo remember"},
		{"a young cell to itself", "-- / -", "y", 0, 0, "0- / - y remember"},
		{"an old cell to itself", "-- / -", "o", 0, 0, "0- / - o remember"},
		{"nothing in place of nothing", "-- / -", "o", 0, -1, "-- / - o remember"},
		{"before the others", "-- 3- 3- -- / -", "oooy", 0, 3, "3- 3- 3- -- / - oooy remember 0 1 2"},
		{"between the others", "3- -- 3- -- / -", "oooy", 1, 3, "3- 3- 3- -- / - oooy remember 0 1 2"},
		{"behind the others", "3- 3- -- -- / -", "oooy", 2, 3, "3- 3- 3- -- / - oooy remember 0 1 2"},
		{"the one between the others goes", "3- 3- 3- -- / -", "oooy", 1, 0, "3- 0- 3- -- / - oooy remember 0 2"},
		{"the last of eight cells and of three roots", "-- -- -- -- -- -- -- -- / - - 7", "yyyyyyyo", 7, 6, "-- -- -- -- -- -- -- 6- / - - 7 yyyyyyyo remember 7"},
		{"to the last of eight cells", "-7 -- -- -- -- -- -- -- / -", "oyyyyyyy", 1, 7, "-7 7- -- -- -- -- -- -- / - oyyyyyyy remember 0"},
	} {
		got, ok := impl.PutGens(mustGens(t, c.text, c.ages), c.cell, c.to)
		if !ok || gensText(got) != c.want {
			t.Errorf("%s: PutGens = %q, %v", c.what, gensText(got), ok)
		}
	}
}

func TestFloating(t *testing.T) {
	for _, c := range []struct {
		what string
		text string
		ages string
		want []int
	}{
		{"the document's example", "1- -- / -", "oy", []int{0, 1}},
		{"one old cell that is live", "-- / 0", "o", nil},
		{"one old cell that is garbage", "-- / -", "o", []int{0}},
		{"one young cell that is garbage", "0- / -", "y", nil},
		{"an old cell that is garbage, and a live one", "-- -- / 1", "oy", []int{0}},
		{"an old cell that is garbage points to a live one", "1- -- / 1", "oy", []int{0}},
		{"a chain behind an old cell that is garbage", "1- -2 -- / -", "oyy", []int{0, 1, 2}},
		{"young garbage points to a live one", "1- -- / 1", "yo", nil},
		{"young garbage points to old garbage", "1- -- / -", "yo", []int{1}},
		{"young garbage points to a kept one", "1- -- 1- / -", "yyo", []int{1, 2}},
		{"a circle of young garbage", "1- 0- / -", "yy", nil},
		{"a circle of garbage, one of them old", "1- 0- / -", "yo", []int{0, 1}},
		{"all cells old", "1- 0- -- / 2", "ooo", []int{0, 1}},
		{"all cells old and live", "1- 2- -- / 0", "ooo", nil},
		{"all cells old and garbage", "1- 2- -- / -", "ooo", []int{0, 1, 2}},
		{"eight cells in a row, every other one old", "1- 2- 3- 4- 5- 6- 7- -- / -", "yoyoyoyo", []int{1, 2, 3, 4, 5, 6, 7}},
	} {
		if got := impl.Floating(mustGens(t, c.text, c.ages)); !slices.Equal(got, c.want) {
			t.Errorf("%s: Floating = %v", c.what, got)
		}
	}
}

func TestGensSame(t *testing.T) {
	one := func() impl.Gens {
		return impl.Gens{
			Heap: impl.Heap{Left: []int{1, -1, 1}, Right: []int{-1, 0, -1}, Roots: []int{0}}, Old: []bool{true, false, true}, Remember: []int{0, 2},
		}
	}
	checkSame(t, "GensSame", impl.GensSame, one, map[string]func(g *impl.Gens){
		"a left pointer":           func(g *impl.Gens) { g.Heap.Left[0] = 0 },
		"a right pointer":          func(g *impl.Gens) { g.Heap.Right[1] = 1 },
		"a root":                   func(g *impl.Gens) { g.Heap.Roots[0] = 1 },
		"one more root":            func(g *impl.Gens) { g.Heap.Roots = []int{0, -1} },
		"a pointer to no cell":     func(g *impl.Gens) { g.Heap.Left[0] = 9 },
		"the first age":            func(g *impl.Gens) { g.Old[0] = false },
		"the last age":             func(g *impl.Gens) { g.Old[2] = false },
		"one age less":             func(g *impl.Gens) { g.Old = g.Old[:2] },
		"one age more":             func(g *impl.Gens) { g.Old = append(g.Old, false) },
		"no ages":                  func(g *impl.Gens) { g.Old = nil },
		"the first one remembered": func(g *impl.Gens) { g.Remember[0] = 1 },
		"the last one remembered":  func(g *impl.Gens) { g.Remember[1] = 1 },
		"the order of these":       func(g *impl.Gens) { g.Remember = []int{2, 0} },
		"one remembered less":      func(g *impl.Gens) { g.Remember = g.Remember[:1] },
		"one remembered twice":     func(g *impl.Gens) { g.Remember = []int{0, 0, 2} },
		"none remembered":          func(g *impl.Gens) { g.Remember = nil },
		"a cell in 32 bits":        func(g *impl.Gens) { g.Remember[1] += 1 << 32 },
		"no heap any more":         func(g *impl.Gens) { g.Heap = impl.Heap{} },
		"everything":               func(g *impl.Gens) { *g = impl.Gens{} },
	})
	empty := impl.Gens{Heap: impl.Heap{Left: []int{}, Right: []int{}, Roots: []int{}}, Old: []bool{}, Remember: []int{}}
	if !impl.GensSame(empty, impl.Gens{}) || !impl.GensSame(impl.Gens{}, empty) {
		t.Error("GensSame tells empty slices from nil ones")
	}
	for reason, g := range badGens(t) {
		if !impl.GensSame(g, roomyGens(g, true)) {
			t.Errorf("%s: GensSame of equal values = false", reason)
		}
	}
}

// TestGensValid has all rows of numbers near the cells of small heaps for Remember.
func TestGensValid(t *testing.T) {
	for _, size := range [][2]int{{1, 1}, {1, 3}, {2, 1}, {2, 2}} {
		everyHeap(size[0], size[1], func(h impl.Heap) {
			everyAges(size[0], func(old []bool) {
				want := rememberedIn(h, old)
				everyRow(size[0]+1, size[0], nil, func(row []int) {
					g := impl.Gens{Heap: h, Old: old, Remember: row}
					if got := impl.GensValid(g); got != slices.Equal(row, want) {
						t.Fatalf("GensValid(%v) = %v", g, got)
					}
				})
			})
		})
	}
	if !impl.GensValid(impl.Gens{Heap: mustParse(t, "-- / -"), Old: []bool{true}, Remember: []int{}}) {
		t.Error("GensValid accepts no empty Remember")
	}
}

// TestGensValidOfOldCells has heaps with every row of ages, of which only the right one fits what is remembered.
func TestGensValidOfOldCells(t *testing.T) {
	for _, h := range append(someHeaps(t), mixedHeaps(100)...) {
		cells := len(h.Left)
		everyAges(cells, func(old []bool) {
			remember := rememberedIn(h, old)
			for cell := range old {
				other := slices.Clone(old)
				other[cell] = !other[cell]
				g := impl.Gens{Heap: h, Old: other, Remember: remember}
				if got := impl.GensValid(g); got != slices.Equal(rememberedIn(h, other), remember) {
					t.Fatalf("GensValid(%v) = %v", g, got)
				}
			}
		})
	}
}

// badGens returns values that are not valid, each for one reason.
func badGens(t *testing.T) map[string]impl.Gens {
	t.Helper()
	list := map[string]impl.Gens{"zero value": {}}
	for reason, h := range badHeaps() {
		for _, letters := range []string{"y", "o", "oy", "yo"} {
			list[reason+": "+letters] = repeatedGens(h, letters)
		}
	}
	for text, ages := range map[string]string{
		"-- / -": "y", "00 / 0": "o", "1- -- / 0 -": "oy", "1- -1 / -": "yo", "1- 0- / 0": "oo", "2- -2 -- / 1": "ooy",
		"2- 2- 2- -- / - 3 -": "ooyo", "12 34 56 7- -- -- -- -- / 0 0 7": "ooooyyyy", "1- 2- 3- 4- 5- 6- 7- 0- / -": "yoyoyoyo",
		"77 77 77 77 77 77 77 77 / 7 7 7": "oooooooy", "-- -- -- -- -- -- -- -- / - - -": "yyyyyyyy",
	} {
		good := mustGens(t, text, ages)
		for what, remember := range notRemembered(good) {
			g := cloneGens(good)
			g.Remember = remember
			list[text+": Remember "+what] = g
		}
		for what, old := range otherLengths(good.Old) {
			g := cloneGens(good)
			g.Old = old
			list[text+": "+what] = g
		}
	}
	return list
}

// notRemembered returns rows that Remember of a valid value must not be.
func notRemembered(g impl.Gens) map[string][]int {
	cells := len(g.Old)
	list := map[string][]int{}
	for place, cell := range g.Remember {
		list["lacks "+strconv.Itoa(cell)] = slices.Delete(slices.Clone(g.Remember), place, place+1)
		list["twice has "+strconv.Itoa(cell)] = slices.Insert(slices.Clone(g.Remember), place, cell)
		list["has again at its end "+strconv.Itoa(cell)] = append(slices.Clone(g.Remember), cell)
		in32 := slices.Clone(g.Remember)
		in32[place] += 1 << 32
		list["has in 32 bits "+strconv.Itoa(cell)] = in32
		if place > 0 {
			swapped := slices.Clone(g.Remember)
			swapped[place-1], swapped[place] = swapped[place], swapped[place-1]
			list["does not ascend to "+strconv.Itoa(cell)] = swapped
		}
	}
	for cell := range cells {
		if place, found := slices.BinarySearch(g.Remember, cell); !found {
			list["has too much: "+strconv.Itoa(cell)] = slices.Insert(slices.Clone(g.Remember), place, cell)
		}
	}
	for _, number := range []int{math.MinInt, -2, -1} {
		list["has no cell "+strconv.Itoa(number)] = slices.Insert(slices.Clone(g.Remember), 0, number)
	}
	for _, number := range []int{cells, cells + 1, 1 << 32, math.MaxInt} {
		list["has no cell "+strconv.Itoa(number)] = append(slices.Clone(g.Remember), number)
	}
	list["is very long"] = make([]int, 100000)
	return list
}

// otherLengths returns ages of more and of fewer cells.
func otherLengths(old []bool) map[string][]bool {
	return map[string][]bool{
		"no ages":                   nil,
		"empty ages":                {},
		"the first age is missing":  old[1:],
		"the last age is missing":   old[:len(old)-1],
		"one young cell more":       append(slices.Clone(old), false),
		"one old cell more":         append(slices.Clone(old), true),
		"one young cell more first": append([]bool{false}, old...),
		"very many ages":            append(slices.Clone(old), make([]bool, 100000)...),
	}
}

// checkNoGens needs the results for a value that is not valid.
func checkNoGens(t *testing.T, what string, g impl.Gens) {
	t.Helper()
	if impl.GensValid(g) {
		t.Errorf("%s: GensValid = true", what)
	}
	if kept, floating := impl.YoungKept(g), impl.Floating(g); len(kept) != 0 || len(floating) != 0 {
		t.Errorf("%s: YoungKept = %v, Floating = %v", what, kept, floating)
	}
	if got, gone, ok := impl.SmallCollect(g); ok || !isZeroGens(got) || len(gone) != 0 {
		t.Errorf("%s: SmallCollect = %v, %v, %v", what, got, gone, ok)
	}
	for cell := -1; cell <= 8; cell++ {
		for to := -2; to <= 8; to++ {
			checkNotPut(t, what, g, cell, to)
		}
	}
}

func checkNotPut(t *testing.T, what string, g impl.Gens, cell, to int) {
	t.Helper()
	if got, ok := impl.PutGens(g, cell, to); ok || !isZeroGens(got) {
		t.Errorf("%s: PutGens(%v, %d, %d) = %v, %v", what, g, cell, to, got, ok)
	}
}

func TestBadGens(t *testing.T) {
	for reason, g := range badGens(t) {
		checkNoGens(t, reason, g)
	}
}

// TestGensOfOneBadField has a heap with one wrong number at each place in turn.
func TestGensOfOneBadField(t *testing.T) {
	for _, good := range someHeaps(t) {
		cells := len(good.Left)
		for _, letters := range []string{"y", "o", "oy"} {
			g := repeatedGens(good, letters)
			for field := range 3 {
				for place := range heapLists(good)[field] {
					for _, wrong := range []int{math.MinInt, -2, cells, cells + 1, 1 << 32, math.MaxInt} {
						bad := cloneGens(g)
						heapLists(bad.Heap)[field][place] = wrong
						checkNoGens(t, "a wrong number", bad)
						if got, ok := impl.NewGens(bad.Heap); ok || !isZeroGens(got) {
							t.Errorf("NewGens(%v) = %v, %v", bad.Heap, got, ok)
						}
					}
				}
			}
		}
	}
}

func TestPutGensOfNoCell(t *testing.T) {
	for _, h := range someHeaps(t) {
		cells := len(h.Left)
		for _, letters := range []string{"y", "o", "oy"} {
			g := repeatedGens(h, letters)
			for _, number := range []int{math.MinInt, -2, cells, cells + 1, 8, 9, 1 << 32, math.MaxInt} {
				checkNotPut(t, "no such cell", g, number, 0)
				checkNotPut(t, "no such pointer", g, 0, number)
				checkNotPut(t, "neither", g, number, number)
			}
			checkNotPut(t, "None is no cell", g, -1, 0)
			for cell := range cells {
				if got, ok := impl.PutGens(g, cell, -1); !ok || got.Heap.Left[cell] != -1 || !impl.GensValid(got) {
					t.Errorf("PutGens(%v, %d, -1) = %v, %v", g, cell, got, ok)
				}
			}
		}
	}
}

// roomyAges returns the ages with unused capacity, which is filled with one age.
func roomyAges(old []bool, behind bool) []bool {
	out := slices.Concat(old, slices.Repeat([]bool{behind}, 4))
	return out[: len(old) : len(old)+4]
}

func roomyGens(g impl.Gens, behind bool) impl.Gens {
	return impl.Gens{Heap: roomyHeap(g.Heap), Old: roomyAges(g.Old, behind), Remember: roomy(g.Remember)}
}

// isRoomyGensOf reports whether a roomy value is still as roomyGens made it of want.
func isRoomyGensOf(g, want impl.Gens, behind bool) bool {
	ages := g.Old[:cap(g.Old)]
	return isRoomyHeapOf(g.Heap, want.Heap) && isRoomyOf(g.Remember, want.Remember) &&
		slices.Equal(ages[:len(want.Old)], want.Old) && all(ages[len(want.Old):], behind)
}

// checkOwnAges is checkOwnMemory for ages. As there are but two of them, it writes over one list at a time.
func checkOwnAges(t *testing.T, what string, lists [][]bool) {
	t.Helper()
	for _, list := range lists {
		overwrite(list, false)
	}
	for i, list := range lists {
		overwrite(list, true)
		for j, other := range lists {
			if i != j && !all(other[:cap(other)], false) {
				t.Errorf("%s: ages of results share memory", what)
			}
		}
		overwrite(list, false)
	}
}

// gensResults returns all slices of the results of all functions.
func gensResults(g impl.Gens) ([][]int, [][]bool) {
	made, _ := impl.NewGens(g.Heap)
	collected, gone, _ := impl.SmallCollect(g)
	results := []impl.Gens{made, collected}
	for cell := range g.Heap.Left {
		put, _ := impl.PutGens(g, cell, 0)
		away, _ := impl.PutGens(g, cell, -1)
		results = append(results, put, away)
	}
	numbers := [][]int{impl.YoungKept(g), impl.Floating(g), gone}
	var ages [][]bool
	for _, result := range results {
		numbers = append(append(numbers, heapLists(result.Heap)...), result.Remember)
		ages = append(ages, result.Old)
	}
	return numbers, ages
}

func gensToChange(t *testing.T) map[string]impl.Gens {
	t.Helper()
	list := badGens(t)
	for _, h := range someHeaps(t) {
		for _, letters := range []string{"y", "o", "yo", "oy"} {
			g := repeatedGens(h, letters)
			list[gensText(g)] = g
		}
	}
	return list
}

func TestGensChangeNothing(t *testing.T) {
	for what, g := range gensToChange(t) {
		for _, behind := range []bool{false, true} {
			argument := roomyGens(g, behind)
			impl.GensValid(argument)
			impl.GensSame(argument, argument)
			numbers, ages := gensResults(argument)
			more, others := gensResults(argument)
			checkOwnMemory(t, what, append(numbers, more...)...)
			checkOwnAges(t, what, append(ages, others...))
			if !isRoomyGensOf(argument, g, behind) {
				t.Errorf("%s: a function changes its argument, or shares memory with it", what)
			}
		}
	}
}

// TestGensAgain calls the functions on some values in turn, and needs the same results each time.
func TestGensAgain(t *testing.T) {
	for range 20 {
		for text, ages := range map[string]string{"1- -- / -": "oy", "1- 2- 0- / 1 -": "yoy", "00 / 0": "y", "12 34 56 7- -- -- -- -- / 0 0 7": "yoyoyoyo"} {
			g := mustGens(t, text, ages)
			checkGens(t, g)
			checkPuts(t, g)
		}
		checkNoGens(t, "no value", impl.Gens{})
	}
}
