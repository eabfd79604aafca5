package tests

import (
	"math"
	"math/rand/v2"
	"slices"
	"strconv"
	"testing"

	"loop.example/cellcollector/impl"
)

// gcPhases are the phases by their numbers.
var gcPhases = []string{"idle", "roots", "mark", "sweep"}

func gc(phase, at int, color ...int) impl.Gc {
	return impl.Gc{Phase: phase, Color: color, At: at}
}

func isZeroGc(g impl.Gc) bool {
	return g.Phase == 0 && len(g.Color) == 0 && g.At == 0
}

func equalGc(a, b impl.Gc) bool {
	return a.Phase == b.Phase && slices.Equal(a.Color, b.Color) && a.At == b.At
}

func roomyGc(g impl.Gc) impl.Gc {
	return impl.Gc{Phase: g.Phase, Color: roomy(g.Color), At: g.At}
}

func isRoomyGcOf(g, want impl.Gc) bool {
	return g.Phase == want.Phase && isRoomyOf(g.Color, want.Color) && g.At == want.At
}

// placesOf returns how many values At may have in a phase.
func placesOf(s impl.Store, phase int) int {
	switch phase {
	case 1:
		return len(s.Heap.Roots)
	case 3:
		return len(s.Heap.Left)
	}
	return 1
}

// everyGc calls see with each collector that is valid for the store.
func everyGc(s impl.Store, see func(impl.Gc)) {
	everyColor(len(s.Heap.Left), func(color []int) {
		for phase := range gcPhases {
			for at := range placesOf(s, phase) {
				see(gc(phase, at, color...))
			}
		}
	})
}

// mixedGcs calls see with stores of all sizes and a collector in each phase, the same in each run.
func mixedGcs(count int, see func(impl.Store, impl.Gc)) {
	random := rand.New(rand.NewPCG(8, 9))
	for _, s := range mixedStores(count) {
		for phase := range gcPhases {
			g := gc(phase, random.IntN(placesOf(s, phase)), make([]int, len(s.Heap.Left))...)
			colors := 1 + random.IntN(3)
			for cell := range g.Color {
				g.Color[cell] = 2 - random.IntN(colors)
			}
			see(s, g)
		}
	}
}

// sweptIn is the document's SweptCell, for a valid collector.
func sweptIn(s impl.Store, g impl.Gc) int {
	if g.Phase == 3 && g.Color[g.At] == 0 && !slices.Contains(s.Free, g.At) {
		return g.At
	}
	return -1
}

// gcStep is the document's StepGc, for a valid collector.
func gcStep(s impl.Store, g impl.Gc) (impl.Store, impl.Gc, bool) {
	color := slices.Clone(g.Color)
	switch g.Phase {
	case 0:
		return s, gc(1, 0, make([]int, len(color))...), true
	case 1:
		shadeIn(color, s.Heap.Roots[g.At])
		if g.At == len(s.Heap.Roots)-1 {
			return s, gc(2, 0, color...), true
		}
		return s, gc(1, g.At+1, color...), true
	case 2:
		return s, gcMark(s, color), true
	}
	if swept := sweptIn(s, g); swept != -1 {
		if slices.Contains(s.Heap.Roots, swept) {
			return impl.Store{}, impl.Gc{}, false
		}
		s = cleared(s, swept)
	}
	color[g.At] = 0
	if g.At == len(color)-1 {
		return s, gc(0, 0, color...), true
	}
	return s, gc(3, g.At+1, color...), true
}

func gcMark(s impl.Store, color []int) impl.Gc {
	if stepIn(s.Heap, color) {
		return gc(2, 0, color...)
	}
	for _, root := range s.Heap.Roots {
		if root != -1 && color[root] == 0 {
			color[root] = 1
			return gc(2, 0, color...)
		}
	}
	return gc(3, 0, color...)
}

func marking(g impl.Gc) bool {
	return g.Phase == 1 || g.Phase == 2
}

// newColor is the color that the document's ColorNew gives a cell.
func newColor(g impl.Gc, cell int) int {
	if marking(g) || g.Phase == 3 && cell >= g.At {
		return 2
	}
	return 0
}

// gcRun is the document's RunGc, for a valid collector.
func gcRun(s impl.Store, g impl.Gc) (impl.Store, impl.Gc, int, bool) {
	for steps := 1; ; steps++ {
		var ok bool
		if s, g, ok = gcStep(s, g); !ok {
			return impl.Store{}, impl.Gc{}, 0, false
		}
		if g.Phase == 0 {
			return s, g, steps, true
		}
	}
}

// checkGc compares all functions of the chapter with the document's words.
func checkGc(t *testing.T, s impl.Store, g impl.Gc) {
	t.Helper()
	if !impl.GcValid(s, g) || !impl.GcSame(g, g) {
		t.Fatalf("%v, %v: GcValid = %v, GcSame = %v", s, g, impl.GcValid(s, g), impl.GcSame(g, g))
	}
	if got := impl.SweptCell(s, g); got != sweptIn(s, g) {
		t.Fatalf("%v, %v: SweptCell = %d", s, g, got)
	}
	wantS, wantG, steps := gcStep(s, g)
	gotS, gotG, stepped := impl.StepGc(s, g)
	if stepped != steps || !equalStores(gotS, wantS) || !equalGc(gotG, wantG) {
		t.Fatalf("%v, %v: StepGc = %v, %v, %v, not %v, %v, %v", s, g, gotS, gotG, stepped, wantS, wantG, steps)
	}
	if stepped && !impl.GcValid(gotS, gotG) {
		t.Fatalf("%v, %v: StepGc = %v, %v, which is not valid", s, g, gotS, gotG)
	}
	endS, endG, count, runs := gcRun(s, g)
	gotS, gotG, steps2, ran := impl.RunGc(s, g)
	if ran != runs || steps2 != count || !equalStores(gotS, endS) || !equalGc(gotG, endG) {
		t.Fatalf("%v, %v: RunGc = %v, %v, %d, %v, not %v, %v, %d, %v", s, g, gotS, gotG, steps2, ran, endS, endG, count, runs)
	}
	if ran && !impl.GcValid(gotS, gotG) {
		t.Fatalf("%v, %v: RunGc = %v, %v, which is not valid", s, g, gotS, gotG)
	}
	checkGcColors(t, s, g)
}

func checkGcColors(t *testing.T, s impl.Store, g impl.Gc) {
	t.Helper()
	for cell := range g.Color {
		want := gc(g.Phase, g.At, slices.Clone(g.Color)...)
		want.Color[cell] = newColor(g, cell)
		if got, ok := impl.ColorNew(s, g, cell); !ok || !equalGc(got, want) {
			t.Fatalf("%v, %v: ColorNew(%d) = %v, %v", s, g, cell, got, ok)
		}
		want.Color[cell] = g.Color[cell]
		if marking(g) {
			shadeIn(want.Color, cell)
		}
		if got, ok := impl.ShadeGc(s, g, cell); !ok || !equalGc(got, want) {
			t.Fatalf("%v, %v: ShadeGc(%d) = %v, %v", s, g, cell, got, ok)
		}
	}
}

func TestPhaseNumbers(t *testing.T) {
	if impl.GcIdle != 0 || impl.GcRoots != 1 || impl.GcMark != 2 || impl.GcSweep != 3 {
		t.Errorf("GcIdle, GcRoots, GcMark, GcSweep = %d, %d, %d, %d", impl.GcIdle, impl.GcRoots, impl.GcMark, impl.GcSweep)
	}
}

func TestStepsOfSmallStores(t *testing.T) {
	for _, size := range [][2]int{{1, 1}, {1, 2}, {1, 3}, {2, 1}, {2, 2}} {
		everyHeap(size[0], size[1], func(h impl.Heap) {
			everyFree(looseCells(h), nil, func(free []int) {
				s := store(h, free...)
				everyGc(s, func(g impl.Gc) { checkGc(t, s, g) })
			})
		})
	}
}

func TestStepsOfAllSizes(t *testing.T) {
	mixedGcs(20000, func(s impl.Store, g impl.Gc) { checkGc(t, s, g) })
}

// checkRun is promise 6, with nothing between the steps: all garbage becomes free, and nothing that is live.
func checkRun(t *testing.T, s impl.Store) {
	t.Helper()
	idle := gc(0, 0, make([]int, len(s.Heap.Left))...)
	g, ok := impl.NewGc(s)
	if !ok || !equalGc(g, idle) || !impl.GcValid(s, g) {
		t.Fatalf("NewGc(%v) = %v, %v", s, g, ok)
	}
	leaked := leakedIn(s)
	live := len(s.Heap.Left) - len(leaked) - len(s.Free)
	// One step begins, one sees that there is no gray cell, and each root, live cell and cell takes one.
	want := 2 + len(s.Heap.Roots) + live + len(s.Heap.Left)
	end, after, steps, ok := impl.RunGc(s, g)
	if !ok || steps != want || !equalStores(end, cleared(s, leaked...)) || !equalGc(after, idle) {
		t.Fatalf("%v: RunGc = %v, %v, %d, %v, not %d steps", s, end, after, steps, ok, want)
	}
	if collected, ok := impl.CollectStore(s); !ok || !equalStores(end, collected) {
		t.Fatalf("%v: RunGc = %v, but CollectStore = %v, %v", s, end, collected, ok)
	}
	again, after, _, ok := impl.RunGc(end, after)
	if !ok || !equalStores(again, end) || !equalGc(after, idle) {
		t.Fatalf("%v: RunGc twice = %v, %v, %v", s, again, after, ok)
	}
	checkEachStep(t, s, g, end, want)
}

// checkEachStep makes the steps of a run one by one.
func checkEachStep(t *testing.T, s impl.Store, g impl.Gc, end impl.Store, count int) {
	t.Helper()
	now := s
	for step := 1; step <= count; step++ {
		next, after, ok := impl.StepGc(now, g)
		if !ok || (after.Phase == 0) != (step == count) {
			t.Fatalf("%v: step %d: StepGc(%v, %v) = %v, %v, %v", s, step, now, g, next, after, ok)
		}
		if g.Phase != 3 && !equalStores(next, s) {
			t.Fatalf("%v: step %d: StepGc(%v, %v) = %v, though nothing is swept", s, step, now, g, next)
		}
		if after.Phase < 3 && !impl.ColorHolds(colored(next.Heap, after.Color...)) {
			t.Fatalf("%v: step %d: StepGc(%v, %v) = %v, from black to white", s, step, now, g, after)
		}
		now, g = next, after
	}
	if !equalStores(now, end) {
		t.Fatalf("%v: after StepGc %d times, it is %v, not %v", s, count, now, end)
	}
}

func TestRunIsCollect(t *testing.T) {
	for _, size := range [][2]int{{1, 1}, {1, 2}, {1, 3}, {2, 1}, {2, 2}, {2, 3}, {3, 1}} {
		everyHeap(size[0], size[1], func(h impl.Heap) {
			checkRun(t, store(h))
			if loose := looseCells(h); len(loose) > 0 {
				slices.Reverse(loose)
				checkRun(t, store(h, loose...))
			}
		})
	}
	for _, s := range mixedStores(10000) {
		checkRun(t, s)
	}
}

// TestIdleForgetsColors has colors that are not white in the phase GcIdle, as after a cell was shaded by hand.
func TestIdleForgetsColors(t *testing.T) {
	mixedGcs(2000, func(s impl.Store, g impl.Gc) {
		end, after, steps, ok := impl.RunGc(s, gc(0, 0, g.Color...))
		made, _ := impl.NewGc(s)
		want, wantAfter, count, _ := impl.RunGc(s, made)
		if !ok || steps != count || !equalStores(end, want) || !equalGc(after, wantAfter) {
			t.Fatalf("%v: RunGc from the colors %v = %v, %v, %d, %v", s, g.Color, end, after, steps, ok)
		}
	})
}

// operate executes an operation between steps: a new cell gets its color, and with a barrier, what is put is shaded.
func operate(t *testing.T, s impl.Store, g impl.Gc, o impl.Op, barrier bool) (impl.Store, impl.Gc) {
	t.Helper()
	put := impl.TargetOf(s, o)
	next, ended, ok := impl.RunOp(s, o)
	if !ok {
		t.Fatalf("%v: RunOp(%v) returns false", s, o)
	}
	if ended != 0 {
		return next, g
	}
	if o.Kind == 1 {
		g, ok = impl.ColorNew(next, g, next.Heap.Roots[o.A])
	}
	if barrier && put != -1 && ok {
		g, ok = impl.ShadeGc(next, g, put)
	}
	if !ok {
		t.Fatalf("%v: ColorNew or ShadeGc of %v returns false", next, o)
	}
	return next, g
}

// checkLiveStays makes a step, and sees that no live cell is swept.
func checkLiveStays(t *testing.T, s impl.Store, g impl.Gc) (impl.Store, impl.Gc) {
	t.Helper()
	swept := impl.SweptCell(s, g)
	if swept != -1 && newWayTable(s.Heap).distance(swept) < far {
		t.Fatalf("%v, %v: SweptCell = %d, which is live", s, g, swept)
	}
	next, after, ok := impl.StepGc(s, g)
	if !ok {
		t.Fatalf("%v, %v: StepGc returns false", s, g)
	}
	return next, after
}

// TestOpsBetweenSteps is promise 6 with a program that moves pointers about between the steps, and a barrier.
func TestOpsBetweenSteps(t *testing.T) {
	random := rand.New(rand.NewPCG(10, 11))
	for _, s := range mixedStores(5000) {
		g, _ := impl.NewGc(s)
		list := validOps(len(s.Heap.Roots))
		often := 1 + random.IntN(4)
		for range 80 {
			if random.IntN(5) < often {
				s, g = operate(t, s, g, list[random.IntN(len(list))], true)
			} else {
				s, g = checkLiveStays(t, s, g)
			}
		}
		want := leakedIn(s)
		for idle := 0; idle < 2; {
			s, g = checkLiveStays(t, s, g)
			if g.Phase == 0 {
				idle++
			}
		}
		for _, cell := range want {
			if !impl.IsFree(s, cell) {
				t.Fatalf("%v: cell %d was leaked, and is not free", s, cell)
			}
		}
		if len(impl.LeakedOf(s)) != 0 {
			t.Fatalf("%v: LeakedOf = %v after two runs", s, impl.LeakedOf(s))
		}
	}
}

// TestBarrier has a pointer that moves behind a black cell, and is hidden there if nothing shades what it points to.
func TestBarrier(t *testing.T) {
	for _, c := range []struct {
		barrier bool
		want    string
	}{
		{false, "-- -- -- / 0 1 - free 2"},
		{true, "2- -- -- / 0 1 - free"},
	} {
		s := store(mustParse(t, "-- 2- -- / 0 1 -"))
		g, _ := impl.NewGc(s)
		for range 5 {
			s, g = checkLiveStays(t, s, g)
		}
		if !equalGc(g, gc(2, 0, 2, 1, 0)) {
			t.Fatalf("after five steps, the collector is %v", g)
		}
		for _, o := range mustOps(t, "left 2 1, putleft 0 2, clear 2, putleft 1 2") {
			s, g = operate(t, s, g, o, c.barrier)
		}
		end, after, _, ok := impl.RunGc(s, g)
		if !ok || after.Phase != 0 || impl.FormatStore(end) != c.want {
			t.Errorf("with barrier %v: RunGc = %q, %v, %v", c.barrier, impl.FormatStore(end), after, ok)
		}
	}
}

// A stepCase has a heap by its text, free cells, a collector, and what they are after a step.
type stepCase struct {
	what  string
	text  string
	free  []int
	gc    impl.Gc
	want  string
	after impl.Gc
}

func checkStepCases(t *testing.T, list []stepCase) {
	t.Helper()
	for _, c := range list {
		s, g, ok := impl.StepGc(store(mustParse(t, c.text), c.free...), c.gc)
		if !ok || impl.FormatStore(s) != c.want || !equalGc(g, c.after) {
			t.Errorf("%s: StepGc(%v) = %q, %v, %v", c.what, c.gc, impl.FormatStore(s), g, ok)
		}
	}
}

func TestStepIdleAndRoots(t *testing.T) {
	checkStepCases(t, []stepCase{
		{"idle", "-- / 0", nil, gc(0, 0, 0), "-- / 0 free", gc(1, 0, 0)},
		{"idle, with colors", "-- -- -- / 0", []int{2}, gc(0, 0, 2, 1, 2), "-- -- -- / 0 free 2", gc(1, 0, 0, 0, 0)},
		{"the only root", "0- / 0", nil, gc(1, 0, 0), "0- / 0 free", gc(2, 0, 1)},
		{"the only root, which points to nothing", "-- / -", nil, gc(1, 0, 0), "-- / - free", gc(2, 0, 0)},
		{"the first root", "-- -- / 1 0", nil, gc(1, 0, 0, 0), "-- -- / 1 0 free", gc(1, 1, 0, 1)},
		{"the last root", "-- -- / 1 0", nil, gc(1, 1, 0, 1), "-- -- / 1 0 free", gc(2, 0, 1, 1)},
		{"the second of three roots, which points to nothing", "-- / 0 - 0", nil, gc(1, 1, 0), "-- / 0 - 0 free", gc(1, 2, 0)},
		{"a root before At is not looked at", "-- -- / 0 - 1", nil, gc(1, 2, 0, 0), "-- -- / 0 - 1 free", gc(2, 0, 0, 1)},
		{"a gray cell stays", "-- / 0", nil, gc(1, 0, 1), "-- / 0 free", gc(2, 0, 1)},
		{"a black cell stays", "1- -- / 0", nil, gc(1, 0, 2, 0), "1- -- / 0 free", gc(2, 0, 2, 0)},
		{"gray cells are not marked yet", "1- -- / 0 0", nil, gc(1, 0, 1, 0), "1- -- / 0 0 free", gc(1, 1, 1, 0)},
		{"what the root's cell points to is not shaded", "12 -- -- / 0", nil, gc(1, 0, 0, 0, 0), "12 -- -- / 0 free", gc(2, 0, 1, 0, 0)},
		{"the last of three roots to the last of eight cells", "-- -- -- -- -- -- -- -- / - - 7", nil, gc(1, 2, 0, 0, 0, 0, 0, 0, 0, 0), "-- -- -- -- -- -- -- -- / - - 7 free", gc(2, 0, 0, 0, 0, 0, 0, 0, 0, 1)},
	})
}

// TestStepMark has roots that changed while cells were marked.
func TestStepMark(t *testing.T) {
	checkStepCases(t, []stepCase{
		{"a gray cell", "12 -- -- / 0", nil, gc(2, 0, 1, 0, 0), "12 -- -- / 0 free", gc(2, 0, 2, 1, 1)},
		{"the first of two gray cells", "-- -0 -0 / 1", nil, gc(2, 0, 0, 1, 1), "-- -0 -0 / 1 free", gc(2, 0, 1, 2, 1)},
		{"a gray cell that is garbage", "-- 0- / -", nil, gc(2, 0, 0, 1), "-- 0- / - free", gc(2, 0, 1, 2)},
		{"no gray cell any more", "-- -- / 0", nil, gc(2, 0, 2, 0), "-- -- / 0 free", gc(3, 0, 2, 0)},
		{"only black cells", "1- 0- / 0", nil, gc(2, 0, 2, 2), "1- 0- / 0 free", gc(3, 0, 2, 2)},
		{"no roots", "1- -- / - - -", nil, gc(2, 0, 0, 0), "1- -- / - - - free", gc(3, 0, 0, 0)},
		{"a root to a white cell", "-- -- / 0 1", nil, gc(2, 0, 2, 0), "-- -- / 0 1 free", gc(2, 0, 2, 1)},
		{"a root to a white cell while there is a gray one", "-- -- / 1", nil, gc(2, 0, 1, 0), "-- -- / 1 free", gc(2, 0, 2, 0)},
		{"the first root to a white cell, not the first white cell", "-- -- -- / 2 1", nil, gc(2, 0, 0, 0, 0), "-- -- -- / 2 1 free", gc(2, 0, 0, 0, 1)},
		{"a root to nothing before the one to a white cell", "-- -- / - 1", nil, gc(2, 0, 2, 0), "-- -- / - 1 free", gc(2, 0, 2, 1)},
		{"a root to a black cell before the one to a white cell", "-- -- -- / 0 2 1", nil, gc(2, 0, 2, 0, 0), "-- -- -- / 0 2 1 free", gc(2, 0, 2, 0, 1)},
		{"all roots to one white cell", "-- / 0 0 0", nil, gc(2, 0, 0), "-- / 0 0 0 free", gc(2, 0, 1)},
		{"only a black cell points to a white one", "1- -- / 0", nil, gc(2, 0, 2, 0), "1- -- / 0 free", gc(3, 0, 2, 0)},
		{"a free cell is white", "-- -- / 0", []int{1}, gc(2, 0, 2, 0), "-- -- / 0 free 1", gc(3, 0, 2, 0)},
		{"the last root to the last of eight cells", "-- -- -- -- -- -- -- -- / - 0 7", nil, gc(2, 0, 2, 0, 0, 0, 0, 0, 0, 0), "-- -- -- -- -- -- -- -- / - 0 7 free", gc(2, 0, 2, 0, 0, 0, 0, 0, 0, 1)},
	})
}

func TestStepSweep(t *testing.T) {
	checkStepCases(t, []stepCase{
		{"the only cell, white", "0- / -", nil, gc(3, 0, 0), "-- / - free 0", gc(0, 0, 0)},
		{"the only cell, gray", "0- / -", nil, gc(3, 0, 1), "0- / - free", gc(0, 0, 0)},
		{"the only cell, black", "0- / 0", nil, gc(3, 0, 2), "0- / 0 free", gc(0, 0, 0)},
		{"the only cell, free", "-- / -", []int{0}, gc(3, 0, 0), "-- / - free 0", gc(0, 0, 0)},
		{"the first cell", "1- -- / 1", nil, gc(3, 0, 0, 2), "-- -- / 1 free 0", gc(3, 1, 0, 2)},
		{"the last cell", "-- 0- / 0", nil, gc(3, 1, 0, 0), "-- -- / 0 free 1", gc(0, 0, 0, 0)},
		{"the last cell, black, with others that are not white", "-- -- / 0", nil, gc(3, 1, 2, 2), "-- -- / 0 free", gc(0, 0, 2, 0)},
		{"a free cell that is black", "-- -- / 0", []int{1}, gc(3, 1, 0, 2), "-- -- / 0 free 1", gc(0, 0, 0, 0)},
		{"all pointers to the cell", "11 -1 21 / 2", nil, gc(3, 1, 2, 0, 2), "-- -- 2- / 2 free 1", gc(3, 2, 2, 0, 2)},
		{"the end of the free cells", "-- -- -- -- / 3", []int{2, 0}, gc(3, 1, 0, 0, 0, 2), "-- -- -- -- / 3 free 2 0 1", gc(3, 2, 0, 0, 0, 2)},
		{"another white cell is a root's", "-- -- / 1", nil, gc(3, 0, 0, 0), "-- -- / 1 free 0", gc(3, 1, 0, 0)},
		{"a white cell behind At is a root's", "-- -- / 0", nil, gc(3, 1, 0, 0), "-- -- / 0 free 1", gc(0, 0, 0, 0)},
		{"a live cell to which no root points", "1- -- / 0", nil, gc(3, 1, 2, 0), "-- -- / 0 free 1", gc(0, 0, 2, 0)},
		{"gray and black roots' cells", "-- -- / 0 1", nil, gc(3, 0, 1, 2), "-- -- / 0 1 free", gc(3, 1, 0, 2)},
		{"the last of eight cells", "-7 -- -- -- -- -- -- 0- / 0 - -", []int{1}, gc(3, 7, 0, 0, 0, 0, 0, 0, 0, 0), "-- -- -- -- -- -- -- -- / 0 - - free 1 7", gc(0, 0, 0, 0, 0, 0, 0, 0, 0, 0)},
		{"the last but one of eight cells", "-6 -- -- -- -- -- 0- -- / 0 - -", nil, gc(3, 6, 0, 0, 0, 0, 0, 0, 0, 2), "-- -- -- -- -- -- -- -- / 0 - - free 6", gc(3, 7, 0, 0, 0, 0, 0, 0, 0, 2)},
	})
}

// TestRootOfSweptCell has a root that points to the cell that the next step would make free.
func TestRootOfSweptCell(t *testing.T) {
	for _, c := range []struct {
		what  string
		text  string
		swept int
		gc    impl.Gc
	}{
		{"the only cell", "-- / 0", 0, gc(3, 0, 0)},
		{"the last root", "-- -- / - - 1", 1, gc(3, 1, 0, 0)},
		{"the first of three roots", "-- -- -- / 1 0 -", 1, gc(3, 1, 2, 0, 0)},
		{"the last of eight cells", "-- -- -- -- -- -- -- -- / 0 7 -", 7, gc(3, 7, 0, 0, 0, 0, 0, 0, 0, 0)},
	} {
		s := store(mustParse(t, c.text))
		if got := impl.SweptCell(s, c.gc); got != c.swept || !impl.GcValid(s, c.gc) {
			t.Errorf("%s: SweptCell = %d", c.what, got)
		}
		if gotS, gotG, ok := impl.StepGc(s, c.gc); ok || !isZeroStore(gotS) || !isZeroGc(gotG) {
			t.Errorf("%s: StepGc = %v, %v, %v", c.what, gotS, gotG, ok)
		}
		if gotS, gotG, steps, ok := impl.RunGc(s, c.gc); ok || steps != 0 || !isZeroStore(gotS) || !isZeroGc(gotG) {
			t.Errorf("%s: RunGc = %v, %v, %d, %v", c.what, gotS, gotG, steps, ok)
		}
	}
}

func TestSweptCell(t *testing.T) {
	s := store(mustParse(t, "1- -- -- -- / 1"), 2)
	for phase := range gcPhases {
		for color := range 3 {
			for at := range placesOf(s, phase) {
				want := at
				if phase != 3 || color != 0 || at == 2 {
					want = -1
				}
				g := gc(phase, at, slices.Repeat([]int{color}, 4)...)
				if got := impl.SweptCell(s, g); got != want {
					t.Errorf("SweptCell(%v) = %d", g, got)
				}
			}
		}
	}
}

func TestRunGc(t *testing.T) {
	for _, c := range []struct {
		what  string
		text  string
		free  []int
		gc    impl.Gc
		want  string
		color []int
		steps int
	}{
		{"a run from the beginning", "-- 0- 1- / 1 -", nil, gc(0, 0, 0, 0, 0), "-- 0- -- / 1 - free 2", []int{0, 0, 0}, 9},
		{"no roots", "1- 0- -- / - - -", []int{2}, gc(0, 0, 0, 0, 0), "-- -- -- / - - - free 2 0 1", []int{0, 0, 0}, 8},
		{"one cell that is garbage", "00 / -", nil, gc(0, 0, 2), "-- / - free 0", []int{0}, 4},
		{"one cell that is live", "00 / 0", nil, gc(0, 0, 2), "00 / 0 free", []int{0}, 5},
		{"eight cells in a row", "1- 2- 3- 4- 5- 6- 7- -- / 0 - -", nil, gc(0, 0, 0, 0, 0, 0, 0, 0, 0, 0), "1- 2- 3- 4- 5- 6- 7- -- / 0 - - free", make([]int, 8), 21},
		{"eight cells that are garbage", "1- 2- 3- 4- 5- 6- 7- 0- / - - -", nil, gc(0, 0, 0, 0, 0, 0, 0, 0, 0, 0), "-- -- -- -- -- -- -- -- / - - - free 0 1 2 3 4 5 6 7", make([]int, 8), 13},
		{"from the last root", "-- -- / 0 1", nil, gc(1, 1, 0, 0), "-- -- / 0 1 free", []int{0, 0}, 7},
		{"a black cell is not looked at again", "1- -- -- / 0", nil, gc(1, 0, 2, 0, 0), "-- -- -- / 0 free 1 2", []int{0, 0, 0}, 5},
		{"two roots changed while cells were marked", "-- -- 3- -- / 2 1", nil, gc(2, 0, 2, 0, 0, 0), "-- -- 3- -- / 2 1 free", []int{0, 0, 0, 0}, 10},
		{"a new root behind a gray cell", "1- -- -- / 0 2", nil, gc(2, 0, 1, 0, 0), "1- -- -- / 0 2 free", []int{0, 0, 0}, 8},
		{"black garbage stays once more", "-- -- / 0", nil, gc(2, 0, 2, 2), "-- -- / 0 free", []int{0, 0}, 3},
		{"from the first cell of a sweep", "-- -- / 1", nil, gc(3, 0, 0, 2), "-- -- / 1 free 0", []int{0, 0}, 2},
		{"from the last cell of a sweep", "-- -- -- / 1", nil, gc(3, 2, 2, 2, 0), "-- -- -- / 1 free 2", []int{2, 2, 0}, 1},
		{"from the last of eight cells of a sweep", "-- -- -- -- -- -- -- -- / 7", []int{6}, gc(3, 7, 0, 0, 0, 0, 0, 0, 0, 2), "-- -- -- -- -- -- -- -- / 7 free 6", make([]int, 8), 1},
	} {
		s, g, steps, ok := impl.RunGc(store(mustParse(t, c.text), c.free...), c.gc)
		if !ok || steps != c.steps || impl.FormatStore(s) != c.want || !equalGc(g, gc(0, 0, c.color...)) {
			t.Errorf("%s: RunGc(%v) = %q, %v, %d, %v", c.what, c.gc, impl.FormatStore(s), g, steps, ok)
		}
	}
	// Cells are free already when a step returns false.
	for _, g := range []impl.Gc{gc(3, 0, 0, 0, 0), gc(3, 1, 2, 0, 0), gc(3, 2, 2, 2, 0)} {
		s, after, steps, ok := impl.RunGc(store(mustParse(t, "-- -- -- / 2")), g)
		if ok || steps != 0 || !isZeroStore(s) || !isZeroGc(after) {
			t.Errorf("RunGc(%v) = %v, %v, %d, %v, though a root points to the last cell", g, s, after, steps, ok)
		}
	}
}

// TestTakenWhileSwept takes a cell at each place of a sweep.
func TestTakenWhileSwept(t *testing.T) {
	for at := range 4 {
		for taken := range 4 {
			s := store(mustParse(t, "-- -- -- -- / -"), taken)
			s, cell, _ := impl.AllocCell(s, 0)
			want := gc(3, at, 0, 0, 0, 0)
			if cell >= at {
				want.Color[cell] = 2
			}
			g, ok := impl.ColorNew(s, gc(3, at, 0, 0, 0, 0), cell)
			if !ok || cell != taken || !equalGc(g, want) {
				t.Errorf("At %d: ColorNew(%d) = %v, %v", at, cell, g, ok)
			}
			end, after, steps, ok := impl.RunGc(s, g)
			var free []int
			for other := at; other < 4; other++ {
				if other != taken {
					free = append(free, other)
				}
			}
			if !ok || steps != 4-at || !slices.Equal(end.Free, free) || end.Heap.Roots[0] != taken || !equalGc(after, gc(0, 0, 0, 0, 0, 0)) {
				t.Errorf("At %d, cell %d: RunGc = %v, %v, %d, %v", at, taken, end, after, steps, ok)
			}
		}
	}
}

// A colorCase has a collector, and what it is after a cell was given a color.
type colorCase struct {
	what string
	gc   impl.Gc
	cell int
	want impl.Gc
}

func checkColorCases(t *testing.T, name string, give func(impl.Store, impl.Gc, int) (impl.Gc, bool), s impl.Store, list []colorCase) {
	t.Helper()
	for _, c := range list {
		if got, ok := give(s, c.gc, c.cell); !ok || !equalGc(got, c.want) {
			t.Errorf("%s: %s(%v, %d) = %v, %v", c.what, name, c.gc, c.cell, got, ok)
		}
	}
}

func TestColorNew(t *testing.T) {
	s := store(mustParse(t, "-- 2- -- / 1 -"))
	checkColorCases(t, "ColorNew", impl.ColorNew, s, []colorCase{
		{"idle", gc(0, 0, 0, 0, 0), 1, gc(0, 0, 0, 0, 0)},
		{"idle, a black cell", gc(0, 0, 2, 2, 2), 1, gc(0, 0, 2, 0, 2)},
		{"roots", gc(1, 0, 0, 0, 0), 0, gc(1, 0, 2, 0, 0)},
		{"the last root", gc(1, 1, 0, 1, 0), 1, gc(1, 1, 0, 2, 0)},
		{"mark", gc(2, 0, 1, 0, 0), 2, gc(2, 0, 1, 0, 2)},
		{"mark, a black cell", gc(2, 0, 2, 2, 2), 2, gc(2, 0, 2, 2, 2)},
		{"sweep, a cell before At", gc(3, 1, 1, 2, 2), 0, gc(3, 1, 0, 2, 2)},
		{"sweep, the cell At", gc(3, 1, 0, 0, 0), 1, gc(3, 1, 0, 2, 0)},
		{"sweep, a cell behind At", gc(3, 1, 0, 0, 1), 2, gc(3, 1, 0, 0, 2)},
		{"the first place of a sweep", gc(3, 0, 0, 0, 0), 0, gc(3, 0, 2, 0, 0)},
		{"the last place of a sweep", gc(3, 2, 0, 0, 0), 2, gc(3, 2, 0, 0, 2)},
		{"the last place of a sweep, the cell before", gc(3, 2, 0, 2, 0), 1, gc(3, 2, 0, 0, 0)},
	})
}

func TestShadeGc(t *testing.T) {
	s := store(mustParse(t, "1- 2- -- / 0 -"))
	checkColorCases(t, "ShadeGc", impl.ShadeGc, s, []colorCase{
		{"idle", gc(0, 0, 0, 0, 0), 1, gc(0, 0, 0, 0, 0)},
		{"roots", gc(1, 1, 0, 0, 0), 0, gc(1, 1, 1, 0, 0)},
		{"mark, a white cell", gc(2, 0, 2, 0, 0), 1, gc(2, 0, 2, 1, 0)},
		{"mark, a gray cell", gc(2, 0, 2, 1, 0), 1, gc(2, 0, 2, 1, 0)},
		{"mark, a black cell", gc(2, 0, 2, 2, 0), 1, gc(2, 0, 2, 2, 0)},
		{"mark, the last cell", gc(2, 0, 2, 2, 0), 2, gc(2, 0, 2, 2, 1)},
		{"sweep, a cell before At", gc(3, 1, 0, 0, 0), 0, gc(3, 1, 0, 0, 0)},
		{"sweep, the cell At", gc(3, 1, 0, 0, 0), 1, gc(3, 1, 0, 0, 0)},
		{"sweep, a cell behind At", gc(3, 1, 0, 2, 0), 2, gc(3, 1, 0, 2, 0)},
	})
}

func TestGcSame(t *testing.T) {
	one := func() impl.Gc { return gc(1, 1, 2, 0) }
	checkSame(t, "GcSame", impl.GcSame, one, map[string]func(g *impl.Gc){
		"the phase":          func(g *impl.Gc) { g.Phase = 3 },
		"a phase that is no": func(g *impl.Gc) { g.Phase = 1<<32 + 1 },
		"At":                 func(g *impl.Gc) { g.At = 0 },
		"an At that is no":   func(g *impl.Gc) { g.At = -1 },
		"the first color":    func(g *impl.Gc) { g.Color[0] = 1 },
		"the last color":     func(g *impl.Gc) { g.Color[1] = 1 },
		"no color at all":    func(g *impl.Gc) { g.Color[0] = 3 },
		"one color less":     func(g *impl.Gc) { g.Color = []int{2} },
		"one color more":     func(g *impl.Gc) { g.Color = []int{2, 0, 0} },
		"no colors":          func(g *impl.Gc) { g.Color = nil },
		"everything":         func(g *impl.Gc) { *g = impl.Gc{} },
	})
	if !impl.GcSame(gc(0, 0), impl.Gc{Color: []int{}}) || !impl.GcSame(impl.Gc{Color: []int{}}, gc(0, 0)) {
		t.Error("GcSame tells empty slices from nil ones")
	}
	for _, c := range badGcs(t) {
		if !impl.GcSame(c.gc, roomyGc(c.gc)) {
			t.Errorf("%s: GcSame of equal values = false", c.what)
		}
	}
}

func TestGcValid(t *testing.T) {
	for _, text := range []string{"-- / -", "0- / 0 -", "-- / - 0 0", "1- -- / 0", "-- -- / 1 0", "-- 11 / - - -"} {
		s := store(mustParse(t, text))
		cells := len(s.Heap.Left)
		everyRow(cells+1, 3, nil, func(color []int) {
			colors := len(color) == cells && !slices.Contains(color, -1) && !slices.Contains(color, 3)
			for phase := -2; phase <= 6; phase++ {
				for at := -2; at <= 9; at++ {
					g := gc(phase, at, color...)
					want := colors && phase >= 0 && phase <= 3 && at >= 0 && at < placesOf(s, phase)
					if got := impl.GcValid(s, g); got != want {
						t.Fatalf("GcValid(%v, %v) = %v", s, g, got)
					}
				}
			}
		})
	}
}

// TestPlacesOfAllSizes has both sides of the limits of At, for all numbers of cells and roots.
func TestPlacesOfAllSizes(t *testing.T) {
	for cells := 1; cells <= 8; cells++ {
		for roots := 1; roots <= 3; roots++ {
			s, _ := impl.NewStore(cells, roots)
			for colors := range 11 {
				for phase := range gcPhases {
					for at := -1; at <= 9; at++ {
						g := gc(phase, at, slices.Repeat([]int{colors % 3}, colors)...)
						want := colors == cells && at >= 0 && at < placesOf(s, phase)
						_, _, stepped := impl.StepGc(s, g)
						if got := impl.GcValid(s, g); got != want || stepped != want {
							t.Fatalf("%d cells, %d roots: GcValid(%v) = %v, StepGc returns %v", cells, roots, g, got, stepped)
						}
					}
				}
			}
		}
	}
}

// A gcCase has a store and a collector that is not valid for it.
type gcCase struct {
	what  string
	store impl.Store
	gc    impl.Gc
}

// badGcs returns collectors that are not valid for their stores, each for one reason; but for it,
// a step would have an effect.
func badGcs(t *testing.T) []gcCase {
	t.Helper()
	two := store(mustParse(t, "1- -- -- / 0 -"), 2)
	eight := store(mustParse(t, "1- 2- 3- 4- 5- -- -- -- / 0 - -"), 7)
	list := []gcCase{
		{"the zero value", two, impl.Gc{}},
		{"a number of colors of another store", two, gc(2, 0, make([]int, 8)...)},
		{"nine colors", eight, gc(2, 0, make([]int, 9)...)},
		{"seven colors", eight, gc(2, 0, make([]int, 7)...)},
		{"behind three roots", eight, gc(1, 3, make([]int, 8)...)},
		{"behind eight cells", eight, gc(3, 8, make([]int, 8)...)},
	}
	numbers := []int{math.MinInt, -1 << 32, -2, -1, 4, 5, 1 << 8, 1 << 32, 1<<32 + 1, 1<<32 + 3, math.MaxInt}
	for phase, name := range gcPhases {
		for _, number := range append(numbers, placesOf(two, phase)) {
			list = append(list, gcCase{name + " at " + strconv.Itoa(number), two, gc(phase, number, 1, 0, 0)})
		}
		for _, color := range append(numbers, 3) {
			text := name + ", with the color " + strconv.Itoa(color)
			list = append(list, gcCase{text + " first", two, gc(phase, 0, color, 0, 0)}, gcCase{text + " last", two, gc(phase, 0, 1, 0, color)})
		}
		list = append(list,
			gcCase{name + ", no colors", two, gc(phase, 0)},
			gcCase{name + ", a color too few", two, gc(phase, 0, 1, 0)},
			gcCase{name + ", a color too many", two, gc(phase, 0, 1, 0, 0, 0)},
			gcCase{name + ", a color too many that is none", two, gc(phase, 0, 1, 0, 0, 3)},
		)
		for reason, s := range badStores() {
			for color := range 3 {
				list = append(list, gcCase{name + ", " + reason, s, gc(phase, 0, slices.Repeat([]int{color}, len(s.Heap.Left))...)})
			}
		}
	}
	for _, phase := range numbers {
		list = append(list, gcCase{"the phase " + strconv.Itoa(phase), two, gc(phase, 0, 1, 0, 0)})
		list = append(list, gcCase{"the phase " + strconv.Itoa(phase) + " at 1", two, gc(phase, 1, 1, 0, 0)})
	}
	return list
}

// checkNoColor checks the functions that take the number of a cell, where they return zero values.
func checkNoColor(t *testing.T, what string, s impl.Store, g impl.Gc, cell int) {
	t.Helper()
	if got, ok := impl.ColorNew(s, g, cell); ok || !isZeroGc(got) {
		t.Errorf("%s: ColorNew(%v, %v, %d) = %v, %v", what, s, g, cell, got, ok)
	}
	if got, ok := impl.ShadeGc(s, g, cell); ok || !isZeroGc(got) {
		t.Errorf("%s: ShadeGc(%v, %v, %d) = %v, %v", what, s, g, cell, got, ok)
	}
}

func TestBadGcs(t *testing.T) {
	for _, c := range badGcs(t) {
		if impl.GcValid(c.store, c.gc) {
			t.Errorf("%s: GcValid(%v, %v) = true", c.what, c.store, c.gc)
		}
		if got := impl.SweptCell(c.store, c.gc); got != -1 {
			t.Errorf("%s: SweptCell(%v, %v) = %d", c.what, c.store, c.gc, got)
		}
		if s, g, ok := impl.StepGc(c.store, c.gc); ok || !isZeroStore(s) || !isZeroGc(g) {
			t.Errorf("%s: StepGc(%v, %v) = %v, %v, %v", c.what, c.store, c.gc, s, g, ok)
		}
		if s, g, steps, ok := impl.RunGc(c.store, c.gc); ok || steps != 0 || !isZeroStore(s) || !isZeroGc(g) {
			t.Errorf("%s: RunGc(%v, %v) = %v, %v, %d, %v", c.what, c.store, c.gc, s, g, steps, ok)
		}
		for cell := -2; cell < 10; cell++ {
			checkNoColor(t, c.what, c.store, c.gc, cell)
		}
	}
}

func TestNewGcOfBadStores(t *testing.T) {
	for reason, s := range badStores() {
		if g, ok := impl.NewGc(s); ok || !isZeroGc(g) {
			t.Errorf("%s: NewGc(%v) = %v, %v", reason, s, g, ok)
		}
	}
}

func TestColorNoCell(t *testing.T) {
	for _, h := range someHeaps(t) {
		s := store(h, looseCells(h)...)
		cells := len(h.Left)
		for phase := range gcPhases {
			for at := range placesOf(s, phase) {
				for _, cell := range []int{math.MinInt, -1 << 32, -2, -1, cells, cells + 1, 8, 9, 1 << 32, 1<<32 + 1, math.MaxInt} {
					checkNoColor(t, "no such cell", s, gc(phase, at, make([]int, cells)...), cell)
				}
			}
		}
	}
}

// gcsToChange returns valid and invalid collectors with their stores.
func gcsToChange(t *testing.T) []gcCase {
	t.Helper()
	list := badGcs(t)
	for what, s := range storesToChange(t) {
		for phase := range gcPhases {
			for color := range 3 {
				g := gc(phase, placesOf(s, phase)-1, slices.Repeat([]int{color}, len(s.Heap.Left))...)
				list = append(list, gcCase{what + " " + gcPhases[phase], s, g})
			}
		}
	}
	return list
}

func TestStepsChangeNothing(t *testing.T) {
	for _, c := range gcsToChange(t) {
		s, g := roomyStore(c.store), roomyGc(c.gc)
		impl.GcValid(s, g)
		impl.GcSame(g, g)
		impl.SweptCell(s, g)
		var lists [][]int
		for range 2 {
			made, _ := impl.NewGc(s)
			stepS, stepG, _ := impl.StepGc(s, g)
			endS, endG, _, _ := impl.RunGc(s, g)
			taken, _ := impl.ColorNew(s, g, 0)
			shaded, _ := impl.ShadeGc(s, g, 0)
			lists = slices.Concat(lists, storeLists(stepS), storeLists(endS), [][]int{made.Color, stepG.Color, endG.Color, taken.Color, shaded.Color})
		}
		checkOwnMemory(t, c.what, lists...)
		if !isRoomyStoreOf(s, c.store) || !isRoomyGcOf(g, c.gc) {
			t.Errorf("%s: a function changes its argument, or shares memory with it", c.what)
		}
	}
}
