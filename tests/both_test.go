package tests

import (
	"math"
	"math/rand/v2"
	"runtime"
	"slices"
	"strconv"
	"strings"
	"sync"
	"testing"
	"time"

	"loop.example/cellcollector/impl"
)

func both(s impl.Store, g impl.Gc, list []impl.Op, at int) impl.Both {
	return impl.Both{Store: s, Gc: g, Ops: list, At: at}
}

func asLost(b impl.Both) impl.Both {
	b.Lost = true
	return b
}

func isZeroBoth(b impl.Both) bool {
	return isZeroStore(b.Store) && isZeroGc(b.Gc) && len(b.Ops) == 0 && b.At == 0 && !b.Lost
}

func equalBoth(a, b impl.Both) bool {
	return equalStores(a.Store, b.Store) && equalGc(a.Gc, b.Gc) && slices.Equal(a.Ops, b.Ops) && a.At == b.At && a.Lost == b.Lost
}

func roomyBoth(b impl.Both) impl.Both {
	return impl.Both{Store: roomyStore(b.Store), Gc: roomyGc(b.Gc), Ops: roomyOps(b.Ops), At: b.At, Lost: b.Lost}
}

func isRoomyBothOf(b, want impl.Both) bool {
	return isRoomyStoreOf(b.Store, want.Store) && isRoomyGcOf(b.Gc, want.Gc) && isRoomyOpsOf(b.Ops, want.Ops) && b.At == want.At && b.Lost == want.Lost
}

func mustBoth(t *testing.T, s impl.Store, program string) impl.Both {
	t.Helper()
	b, ok := impl.NewBoth(s, mustOps(t, program))
	if !ok {
		t.Fatalf("NewBoth(%v, %q) returns false", s, program)
	}
	return b
}

// bothText is the document's FormatBoth, for a valid value.
func bothText(b impl.Both) string {
	text := storeText(b.Store) + " " + gcPhases[b.Gc.Phase] + " " + strconv.Itoa(b.Gc.At) + " "
	for _, color := range b.Gc.Color {
		text += "wgb"[color : color+1]
	}
	text += " at " + strconv.Itoa(b.At)
	if b.Lost {
		text += " lost"
	}
	return text
}

// opStep is the document's StepOp, for a valid value with a further operation that is not Lost.
func opStep(b impl.Both, barrier bool) impl.Both {
	o := b.Ops[b.At]
	next, ended := done(b.Store, o)
	g := gc(b.Gc.Phase, b.Gc.At, slices.Clone(b.Gc.Color)...)
	if ended == 0 && o.Kind == 1 {
		taken := b.Store.Free[0]
		g.Color[taken] = newColor(g, taken)
	}
	if ended == 0 && barrier && marking(g) {
		shadeIn(g.Color, target(b.Store, o))
	}
	return both(next, g, b.Ops, b.At+1)
}

// collectorStep is the document's StepBoth, for a valid value that is not Lost.
func collectorStep(b impl.Both) impl.Both {
	if swept := sweptIn(b.Store, b.Gc); swept != -1 && newWayTable(b.Store.Heap).distance(swept) < far {
		return asLost(b)
	}
	b.Store, b.Gc, _ = gcStep(b.Store, b.Gc)
	return b
}

// scheduled is the document's RunBoth, for a valid value and a schedule.
func scheduled(b impl.Both, schedule string, barrier bool) impl.Both {
	for _, letter := range schedule {
		switch {
		case b.Lost:
		case letter == 'g':
			b = collectorStep(b)
		case b.At < len(b.Ops):
			b = opStep(b, barrier)
		}
	}
	return b
}

// finished is the document's FinishBoth, for a valid value.
func finished(b impl.Both, barrier bool) impl.Both {
	b = scheduled(b, strings.Repeat("o", len(b.Ops)), barrier)
	for idle := 0; idle < 2 && !b.Lost; {
		if b = collectorStep(b); b.Gc.Phase == 0 {
			idle++
		}
	}
	return b
}

func checkResult(t *testing.T, b impl.Both, name string, got impl.Both, ok bool, want impl.Both) {
	t.Helper()
	if !ok || !equalBoth(got, want) || !impl.BothValid(got) {
		t.Fatalf("%s, %q: %s = %s, %v, not %s", bothText(b), opsText(b.Ops), name, impl.FormatBoth(got), ok, bothText(want))
	}
}

// checkNoResult has a function that returns the zero value and false.
func checkNoResult(t *testing.T, b impl.Both, what, name string, got impl.Both, ok bool) {
	t.Helper()
	if ok || !isZeroBoth(got) {
		t.Fatalf("%s: %s of %v = %v, %v", what, name, b, got, ok)
	}
}

// checkBoth compares all functions of one value with the document's words.
func checkBoth(t *testing.T, b impl.Both) {
	t.Helper()
	if !impl.BothValid(b) || !impl.BothSame(b, b) || impl.FormatBoth(b) != bothText(b) {
		t.Fatalf("%v: BothValid = %v, BothSame = %v, FormatBoth = %q", b, impl.BothValid(b), impl.BothSame(b, b), impl.FormatBoth(b))
	}
	for _, barrier := range []bool{false, true} {
		got, ok := impl.StepOp(b, barrier)
		if b.Lost || b.At == len(b.Ops) {
			checkNoResult(t, b, "lost or at the end", "StepOp", got, ok)
		} else {
			checkResult(t, b, "StepOp", got, ok, opStep(b, barrier))
		}
	}
	got, ok := impl.StepBoth(b)
	if b.Lost {
		checkNoResult(t, b, "lost", "StepBoth", got, ok)
	} else {
		checkResult(t, b, "StepBoth", got, ok, collectorStep(b))
	}
}

// checkRuns compares what the program and the collector do together with the document's words.
func checkRuns(t *testing.T, b impl.Both, schedule string) {
	t.Helper()
	for _, barrier := range []bool{false, true} {
		got, ok := impl.RunBoth(b, schedule, barrier)
		checkResult(t, b, "RunBoth of "+schedule, got, ok, scheduled(b, schedule, barrier))
		got, ok = impl.FinishBoth(b, barrier)
		checkResult(t, b, "FinishBoth", got, ok, finished(b, barrier))
	}
}

func TestBothOfSmallStores(t *testing.T) {
	for _, size := range [][2]int{{1, 1}, {1, 2}, {1, 3}, {2, 1}} {
		list := validOps(size[1])
		everyHeap(size[0], size[1], func(h impl.Heap) {
			everyFree(looseCells(h), nil, func(free []int) {
				s := store(h, free...)
				everyGc(s, func(g impl.Gc) {
					checkBoth(t, both(s, g, nil, 0))
					checkBoth(t, asLost(both(s, g, nil, 0)))
					for at := range list {
						checkBoth(t, both(s, g, list[at:min(at+12, len(list))], 0))
					}
				})
			})
		})
	}
}

// mixedSchedule returns a schedule with one letter or both, of which one may be rare.
func mixedSchedule(random *rand.Rand, letters int) string {
	often := random.IntN(6)
	schedule := make([]byte, letters)
	for i := range schedule {
		schedule[i] = 'g'
		if random.IntN(5) < often {
			schedule[i] = 'o'
		}
	}
	return string(schedule)
}

// mixedBoth calls see with values of all sizes and a schedule for each, the same in each run.
func mixedBoth(count int, see func(b impl.Both, schedule string)) {
	random := rand.New(rand.NewPCG(12, 13))
	var programs [4][][]impl.Op
	for roots := 1; roots <= 3; roots++ {
		programs[roots] = mixedOps(count, roots)
	}
	mixedGcs(count, func(s impl.Store, g impl.Gc) {
		list := programs[len(s.Heap.Roots)][random.IntN(count)]
		b := both(s, g, list, random.IntN(len(list)+1))
		b.Lost = random.IntN(20) == 0
		see(b, mixedSchedule(random, random.IntN(101)))
	})
}

func TestBothOfAllSizes(t *testing.T) {
	mixedBoth(10000, func(b impl.Both, _ string) { checkBoth(t, b) })
}

func TestRunsOfAllSizes(t *testing.T) {
	mixedBoth(2000, func(b impl.Both, schedule string) { checkRuns(t, b, schedule) })
}

// hiding is a program that moves a pointer from one cell to another and hides it there from the roots.
const hiding = "new 0, new 1, new 2, putleft 1 2, clear 2, left 2 1, putleft 0 2, clear 2, putleft 1 2"

// TestEverySchedule has all schedules of up to nine letters, on a program that ends before some of them do.
func TestEverySchedule(t *testing.T) {
	empty, _ := impl.NewStore(2, 2)
	moving, _ := impl.RunBoth(mustBoth(t, store(mustParse(t, "-- 2- -- / 0 1 -")), "left 2 1, putleft 0 2, clear 2, putleft 1 2"), "gggg", false)
	for _, b := range []impl.Both{mustBoth(t, empty, "new 0, new 1, putleft 0 1, clear 0"), moving} {
		for _, schedule := range schedulesUpTo(9) {
			for _, barrier := range []bool{false, true} {
				got, ok := impl.RunBoth(b, schedule, barrier)
				checkResult(t, b, "RunBoth of "+schedule, got, ok, scheduled(b, schedule, barrier))
			}
		}
	}
}

func schedulesUpTo(letters int) []string {
	list := []string{""}
	everyText([]string{"o", "g"}, letters-1, "o", func(text string) { list = append(list, text) })
	everyText([]string{"o", "g"}, letters-1, "g", func(text string) { list = append(list, text) })
	return list
}

// everyReached calls see with each value that steps lead to, and where a step led to it the first time, with what was before.
func everyReached(t *testing.T, b impl.Both, barrier bool, see func(before, b impl.Both)) {
	t.Helper()
	seen := map[string]bool{impl.FormatBoth(b): true}
	work := []impl.Both{b}
	see(b, b)
	for ; len(work) > 0; work = work[1:] {
		byOp, _ := impl.StepOp(work[0], barrier)
		byGc, _ := impl.StepBoth(work[0])
		for _, next := range []impl.Both{byOp, byGc} {
			if text := impl.FormatBoth(next); text != "" && !seen[text] {
				seen[text] = true
				work = append(work, next)
				see(work[0], next)
			}
		}
	}
}

// checkLiveKept sees that a step of the collector leaves all cells that are live.
func checkLiveKept(t *testing.T, before, after impl.Both) {
	t.Helper()
	live := impl.Reachable(before.Store.Heap)
	if !slices.Equal(live, impl.Reachable(after.Store.Heap)) {
		t.Fatalf("from %s to %s: other cells are live", impl.FormatBoth(before), impl.FormatBoth(after))
	}
	for cell := range live {
		h, next := before.Store.Heap, after.Store.Heap
		if live[cell] && (impl.IsFree(after.Store, cell) || h.Left[cell] != next.Left[cell] || h.Right[cell] != next.Right[cell]) {
			t.Fatalf("from %s to %s: live cell %d is changed", impl.FormatBoth(before), impl.FormatBoth(after), cell)
		}
	}
}

// checkFinished is the end of promise 7: all garbage is free, and nothing that is live.
func checkFinished(t *testing.T, b impl.Both) {
	t.Helper()
	end, ok := impl.FinishBoth(b, true)
	if !ok || end.Lost || end.At != len(b.Ops) || end.Gc.Phase != 0 || len(leakedIn(end.Store)) != 0 {
		t.Fatalf("%s: FinishBoth = %s, %v", impl.FormatBoth(b), impl.FormatBoth(end), ok)
	}
	for _, o := range b.Ops[b.At:] {
		b.Store, _ = done(b.Store, o)
	}
	checkEndKeepsLive(t, b, end)
}

// checkEndKeepsLive needs an end with as many live cells as the operations alone leave.
func checkEndKeepsLive(t *testing.T, b, end impl.Both) {
	t.Helper()
	want := len(b.Store.Heap.Left) - len(leakedIn(b.Store)) - len(b.Store.Free)
	if got := impl.CountLive(end.Store.Heap); got != want || got+len(end.Store.Free) != len(end.Store.Heap.Left) {
		t.Fatalf("%s: FinishBoth = %s, with %d live cells, not %d", bothText(b), impl.FormatBoth(end), got, want)
	}
}

// TestBarrierLosesNothing is promise 7, by all schedules of some programs.
func TestBarrierLosesNothing(t *testing.T) {
	three, _ := impl.NewStore(3, 3)
	starts := []impl.Both{
		mustBoth(t, three, hiding),
		mustBoth(t, three, strings.ReplaceAll(hiding, "left", "right")),
		mustBoth(t, three, "new 0, new 0, new 0, new 0, new 0, new 0, putleft 0 0, clear 0, new 1"),
		mustBoth(t, store(mustParse(t, "-- 2- -- / 0 1 -")), "left 2 1, putleft 0 2, clear 2, putleft 1 2"),
		mustBoth(t, store(mustParse(t, "1- 0- 3- -- / 0 2 -")), "clear 0, new 0, left 2 1, putleft 0 2, clear 1, clear 2, new 1"),
	}
	random := rand.New(rand.NewPCG(14, 15))
	for _, s := range mixedStores(120) {
		valid := validOps(len(s.Heap.Roots))
		var list []impl.Op
		for range 12 {
			list = append(list, valid[random.IntN(len(valid))])
		}
		b, _ := impl.NewBoth(s, list)
		starts = append(starts, b)
	}
	for _, start := range starts {
		everyReached(t, start, true, func(before, b impl.Both) {
			if b.Lost {
				t.Fatalf("%s, %q: comes to %s", impl.FormatBoth(start), opsText(start.Ops), impl.FormatBoth(b))
			}
			if b.At == before.At {
				checkLiveKept(t, before, b)
			}
		})
	}
}

// TestBarrierFreesAll is promise 7, by random schedules of random programs on stores of all sizes.
func TestBarrierFreesAll(t *testing.T) {
	random := rand.New(rand.NewPCG(16, 17))
	var programs [4][][]impl.Op
	for roots := 1; roots <= 3; roots++ {
		programs[roots] = mixedOps(3000, roots)
	}
	for i, s := range mixedStores(3000) {
		b, made := impl.NewBoth(s, programs[len(s.Heap.Roots)][i])
		if !made {
			t.Fatalf("NewBoth(%v) returns false", s)
		}
		checkFinished(t, b)
		b, ok := impl.RunBoth(b, mixedSchedule(random, random.IntN(101)), true)
		if !ok || b.Lost {
			t.Fatalf("RunBoth = %s, %v", impl.FormatBoth(b), ok)
		}
		checkFinished(t, b)
	}
}

// TestLossIsFound needs a schedule by which each program loses a live cell without a barrier.
func TestLossIsFound(t *testing.T) {
	for _, program := range []string{hiding, strings.ReplaceAll(hiding, "left", "right")} {
		s, _ := impl.NewStore(3, 3)
		losses := 0
		everyReached(t, mustBoth(t, s, program), false, func(_, b impl.Both) {
			if b.Lost {
				losses++
				swept := impl.SweptCell(b.Store, b.Gc)
				if swept == -1 || newWayTable(b.Store.Heap).distance(swept) == far {
					t.Errorf("%s is lost, though no live cell is swept", impl.FormatBoth(b))
				}
			}
		})
		if losses == 0 {
			t.Errorf("%q: no schedule loses a cell", program)
		}
	}
}

// A runCase has a value by its parts, a schedule, and the text of what it leads to.
type runCase struct {
	what     string
	text     string
	free     []int
	gc       impl.Gc
	ops      string
	schedule string
	barrier  bool
	want     string
}

func checkRunCases(t *testing.T, list []runCase) {
	t.Helper()
	for _, c := range list {
		b := both(store(mustParse(t, c.text), c.free...), c.gc, mustOps(t, c.ops), 0)
		got, ok := impl.RunBoth(b, c.schedule, c.barrier)
		if !ok || impl.FormatBoth(got) != c.want {
			t.Errorf("%s: RunBoth(%q, %v) = %q, %v", c.what, c.schedule, c.barrier, impl.FormatBoth(got), ok)
		}
	}
}

func TestTakenCellHasColor(t *testing.T) {
	checkRunCases(t, []runCase{
		{"idle", "-- -- / -", []int{1, 0}, gc(0, 0, 2, 2), "new 0", "o", true, "-- -- / 1 free 0 idle 0 bw at 1"},
		{"roots", "-- -- / -", []int{1, 0}, gc(1, 0, 0, 0), "new 0", "o", true, "-- -- / 1 free 0 roots 0 wb at 1"},
		{"mark", "-- -- / -", []int{1, 0}, gc(2, 0, 0, 0), "new 0", "o", false, "-- -- / 1 free 0 mark 0 wb at 1"},
		{"sweep, before At", "-- -- -- / -", []int{0}, gc(3, 1, 0, 0, 0), "new 0", "o", true, "-- -- -- / 0 free sweep 1 www at 1"},
		{"sweep, At", "-- -- -- / -", []int{1}, gc(3, 1, 0, 0, 0), "new 0", "o", false, "-- -- -- / 1 free sweep 1 wbw at 1"},
		{"sweep, behind At", "-- -- -- / -", []int{2}, gc(3, 1, 0, 0, 0), "new 0", "o", true, "-- -- -- / 2 free sweep 1 wwb at 1"},
		{"sweep, before At, and the sweep goes on", "-- -- -- / -", []int{0}, gc(3, 1, 0, 0, 0), "new 0", "ogg", true, "-- -- -- / 0 free 1 2 idle 0 www at 1"},
		{"sweep, At, and the sweep goes on", "-- -- -- / -", []int{1}, gc(3, 1, 0, 0, 0), "new 0", "ogg", false, "-- -- -- / 1 free 2 idle 0 www at 1"},
		{"sweep, behind At, and the sweep goes on", "-- -- -- / -", []int{2}, gc(3, 1, 0, 0, 0), "new 0", "ogg", true, "-- -- -- / 2 free 1 idle 0 www at 1"},
		{"a cell that was just swept", "-- -- / -", nil, gc(3, 0, 0, 0), "new 0", "gog", false, "-- -- / 0 free 1 idle 0 ww at 1"},
		{"taken and put into a cell while swept", "-- -- -- / 0 -", []int{2}, gc(3, 0, 2, 0, 0), "new 1, putleft 0 1, clear 1", "ogoogg", true, "2- -- -- / 0 - free 1 idle 0 www at 3"},
		{"taken and dropped while swept", "-- -- -- / 0 -", []int{2}, gc(3, 0, 2, 0, 0), "new 1, clear 1", "ogogg", true, "-- -- -- / 0 - free 1 idle 0 www at 2"},
		{"only the cell that is taken", "-- 0- / 1 0", []int{}, gc(2, 0, 1, 1), "new 0", "o", true, "-- 0- / 1 0 free mark 0 gg at 1"},
		{"the root of the new cell", "-- -- -- / - 1 0", []int{2}, gc(2, 0, 0, 0, 0), "new 2", "o", false, "-- -- -- / - 1 2 free mark 0 wwb at 1"},
		{"none is taken by other operations", "-- -0 / 1 0", nil, gc(1, 0, 0, 0), "copy 0 1, clear 0", "oo", true, "-- -0 / - 0 free roots 0 ww at 2"},
		{"none is taken from an empty list", "-- / 0", nil, gc(3, 0, 2), "new 0", "o", true, "-- / 0 free sweep 0 b at 1"},
	})
}

func TestBarrierShades(t *testing.T) {
	checkRunCases(t, []runCase{
		{"a left pointer", "-- -- / 0 1", nil, gc(2, 0, 2, 0), "putleft 0 1", "o", true, "1- -- / 0 1 free mark 0 bg at 1"},
		{"a right pointer", "-- -- / 0 1", nil, gc(2, 0, 2, 0), "putright 0 1", "o", true, "-1 -- / 0 1 free mark 0 bg at 1"},
		{"while roots are looked at", "-- -- / 0 1", nil, gc(1, 1, 1, 0), "putright 0 1", "o", true, "-1 -- / 0 1 free roots 1 gg at 1"},
		{"no barrier", "-- -- / 0 1", nil, gc(2, 0, 2, 0), "putleft 0 1", "o", false, "1- -- / 0 1 free mark 0 bw at 1"},
		{"idle", "-- -- / 0 1", nil, gc(0, 0, 0, 0), "putleft 0 1", "o", true, "1- -- / 0 1 free idle 0 ww at 1"},
		{"sweep", "-- -- / 0 1", nil, gc(3, 0, 0, 0), "putleft 0 1", "o", true, "1- -- / 0 1 free sweep 0 ww at 1"},
		{"a black cell stays", "-- -- / 0 1", nil, gc(2, 0, 1, 2), "putleft 0 1", "o", true, "1- -- / 0 1 free mark 0 gb at 1"},
		{"a cell that is not black is put into", "-- -- / 0 1", nil, gc(2, 0, 0, 0), "putleft 0 1", "o", true, "1- -- / 0 1 free mark 0 wg at 1"},
		{"a cell that is put into itself", "-- -- / 1", nil, gc(2, 0, 0, 0), "putright 0 0", "o", true, "-- -1 / 1 free mark 0 wg at 1"},
		{"nothing is put", "11 -- / 0 -", nil, gc(2, 0, 2, 0), "putleft 0 1", "o", true, "-1 -- / 0 - free mark 0 bw at 1"},
		{"a cell is put into nothing", "-- -- / - 1", nil, gc(2, 0, 0, 0), "putleft 0 1", "o", true, "-- -- / - 1 free mark 0 ww at 1"},
		{"what was there is not shaded", "2- -- -- / 0 1", nil, gc(2, 0, 2, 0, 0), "putleft 0 1", "o", true, "1- -- -- / 0 1 free mark 0 bgw at 1"},
		{"a root is copied", "-- -- / 0 1", nil, gc(2, 0, 2, 0), "copy 0 1", "o", true, "-- -- / 1 1 free mark 0 bw at 1"},
		{"a pointer is read", "1- -- / 0 -", nil, gc(2, 0, 2, 0), "left 1 0", "o", true, "1- -- / 0 1 free mark 0 bw at 1"},
		{"a root is cleared", "-- / 0", nil, gc(2, 0, 0), "clear 0", "o", true, "-- / - free mark 0 w at 1"},
	})
}

// TestBehindCollector has a pointer that moves from a cell that is white to one that is black.
func TestBehindCollector(t *testing.T) {
	for _, left := range []bool{true, false} {
		program, text := "left 2 1, putleft 0 2, clear 2, putleft 1 2", "-- 2- -- / 0 1 -"
		swap := strings.NewReplacer()
		if !left {
			swap = strings.NewReplacer("left", "right", "2-", "-2")
		}
		start := func(schedule string, barrier bool, want string) runCase {
			return runCase{schedule, swap.Replace(text), nil, gc(0, 0, 0, 0, 0), swap.Replace(program), schedule, barrier, swap.Replace(want)}
		}
		checkRunCases(t, []runCase{
			start("ggggg", false, "-- 2- -- / 0 1 - free mark 0 bgw at 0"),
			start("gggggo", false, "-- 2- -- / 0 1 2 free mark 0 bgw at 1"),
			start("gggggoo", false, "2- 2- -- / 0 1 2 free mark 0 bgw at 2"),
			start("gggggoo", true, "2- 2- -- / 0 1 2 free mark 0 bgg at 2"),
			start("gggggoooogg", false, "2- -- -- / 0 1 - free sweep 0 bbw at 4"),
			start("gggggoooogggg", false, "2- -- -- / 0 1 - free sweep 2 www at 4"),
			start("gggggooooggggg", false, "2- -- -- / 0 1 - free sweep 2 www at 4 lost"),
			start("gggggoooogggggg", false, "2- -- -- / 0 1 - free sweep 2 www at 4 lost"),
			start("gggggooooggg", true, "2- -- -- / 0 1 - free sweep 0 bbb at 4"),
			start("gggggoooogggggg", true, "2- -- -- / 0 1 - free idle 0 www at 4"),
			start("gggggooogo", false, "2- -- -- / 0 1 - free mark 0 bbg at 4"),
		})
		lost := start("gggggooooggggg", false, "")
		b, _ := impl.RunBoth(mustBoth(t, store(mustParse(t, lost.text)), lost.ops), lost.schedule, false)
		for _, barrier := range []bool{false, true} {
			end, ok := impl.FinishBoth(b, barrier)
			if !ok || !b.Lost || !equalBoth(end, b) {
				t.Errorf("FinishBoth of %s = %s, %v", impl.FormatBoth(b), impl.FormatBoth(end), ok)
			}
		}
	}
}

func TestProgramThatEnded(t *testing.T) {
	checkRunCases(t, []runCase{
		{"no operations", "-- / 0", nil, gc(0, 0, 0), "", "ooo", true, "-- / 0 free idle 0 w at 0"},
		{"one operation", "-- / 0", nil, gc(0, 0, 0), "clear 0", "ooo", true, "-- / - free idle 0 w at 1"},
		{"the collector goes on", "-- / 0", nil, gc(0, 0, 0), "clear 0", "ogogogogo", true, "-- / - free 0 idle 0 w at 1"},
		{"the collector goes on alone", "-- / 0", nil, gc(0, 0, 0), "", "gggggg", true, "-- / 0 free roots 0 w at 0"},
		{"an operation that is full", "-- / 0", nil, gc(2, 0, 2), "new 0, clear 0", "oo", true, "-- / - free mark 0 b at 2"},
		{"an operation that finds nothing", "-- / -", nil, gc(2, 0, 2), "left 0 0, putleft 0 0, right 0 0", "oooo", true, "-- / - free mark 0 b at 3"},
		{"twelve operations", "-- / -", []int{0}, gc(0, 0, 0), strings.Repeat("new 0, ", 11) + "clear 0", strings.Repeat("o", 13), true, "-- / - free idle 0 w at 12"},
		{"an empty schedule", "-- / -", []int{0}, gc(0, 0, 0), "new 0", "", true, "-- / - free 0 idle 0 w at 0"},
	})
	s, _ := impl.NewStore(2, 2)
	b, _ := impl.RunBoth(mustBoth(t, s, "new 0, new 1"), "oo", true)
	for _, barrier := range []bool{false, true} {
		got, ok := impl.StepOp(b, barrier)
		checkNoResult(t, b, "a program that ended", "StepOp", got, ok)
	}
	got, ok := impl.StepBoth(b)
	if !ok || impl.FormatBoth(got) != "-- -- / 0 1 free roots 0 ww at 2" {
		t.Errorf("StepBoth = %q, %v", impl.FormatBoth(got), ok)
	}
}

func TestStepBothLoses(t *testing.T) {
	checkRunCases(t, []runCase{
		{"a root points to it", "-- / 0", nil, gc(3, 0, 0), "clear 0", "g", true, "-- / 0 free sweep 0 w at 0 lost"},
		{"the last root points to it", "-- -- / - 0 1", nil, gc(3, 1, 2, 0), "clear 0", "g", true, "-- -- / - 0 1 free sweep 1 bw at 0 lost"},
		{"a left pointer points to it", "1- -- / 0", nil, gc(3, 1, 0, 0), "clear 0", "g", true, "1- -- / 0 free sweep 1 ww at 0 lost"},
		{"a right pointer points to it", "-1 -- / 0", nil, gc(3, 1, 0, 0), "clear 0", "g", false, "-1 -- / 0 free sweep 1 ww at 0 lost"},
		{"a longer way goes to it", "-- -0 1- -2 / 3", nil, gc(3, 0, 0, 2, 2, 2), "clear 0", "g", true, "-- -0 1- -2 / 3 free sweep 0 wbbb at 0 lost"},
		{"nothing is done after it", "-- / 0", nil, gc(3, 0, 0), "clear 0", "ggogo", true, "-- / 0 free sweep 0 w at 0 lost"},
		{"garbage is swept", "1- -- / 1", nil, gc(3, 0, 0, 0), "", "g", true, "-- -- / 1 free 0 sweep 1 ww at 0"},
		{"garbage is swept to which garbage points", "1- -- -- / 2", nil, gc(3, 1, 0, 0, 0), "", "g", true, "-- -- -- / 2 free 1 sweep 2 www at 0"},
		{"a free cell", "-- / -", []int{0}, gc(3, 0, 0), "", "g", true, "-- / - free 0 idle 0 w at 0"},
		{"a live cell that is black", "-- / 0", nil, gc(3, 0, 2), "", "g", true, "-- / 0 free idle 0 w at 0"},
		{"a live cell that is gray", "-- / 0", nil, gc(3, 0, 1), "", "g", true, "-- / 0 free idle 0 w at 0"},
		{"a live cell behind At", "-- -- / 1", nil, gc(3, 0, 2, 0), "", "g", true, "-- -- / 1 free sweep 1 ww at 0"},
		{"it is not live any more", "-- / 0", nil, gc(3, 0, 0), "clear 0", "og", true, "-- / - free 0 idle 0 w at 1"},
	})
}

func TestFinishBoth(t *testing.T) {
	for _, c := range []struct {
		what    string
		text    string
		free    []int
		gc      impl.Gc
		ops     string
		at      int
		barrier bool
		want    string
	}{
		{"nothing to do", "-- / 0", nil, gc(0, 0, 0), "", 0, true, "-- / 0 free idle 0 w at 0"},
		{"garbage", "1- 0- -- / 2 -", nil, gc(0, 0, 0, 0, 0), "", 0, false, "-- -- -- / 2 - free 0 1 idle 0 www at 0"},
		{"all operations", "-- -- / - -", []int{0, 1}, gc(0, 0, 0, 0), "new 0, new 1, clear 0", 0, false, "-- -- / - 1 free 0 idle 0 ww at 3"},
		{"only those that are left", "-- -- / 0 1", nil, gc(0, 0, 0, 0), "clear 0, clear 1", 1, true, "-- -- / 0 - free 1 idle 0 ww at 2"},
		{"none is left", "-- -- / 0 1", nil, gc(0, 0, 0, 0), "clear 0, clear 1", 2, true, "-- -- / 0 1 free idle 0 ww at 2"},
		{"operations that end otherwise", "-- -- / - -", nil, gc(0, 0, 0, 0), "new 0, left 0 1, putleft 0 1", 0, true, "-- -- / - - free 0 1 idle 0 ww at 3"},
		{"black garbage is free after the second time", "-- -- / 0", nil, gc(3, 0, 2, 2), "", 0, true, "-- -- / 0 free 1 idle 0 ww at 0"},
		{"garbage that is marked", "1- -- / -", nil, gc(2, 0, 1, 0), "", 0, true, "-- -- / - free 0 1 idle 0 ww at 0"},
		{"a new cell that is lost while swept", "-- -- / -", []int{1}, gc(3, 0, 0, 0), "new 0, clear 0", 0, true, "-- -- / - free 0 1 idle 0 ww at 2"},
		{"a loss", "1- -- / 0", nil, gc(2, 0, 2, 0), "", 0, true, "1- -- / 0 free sweep 1 ww at 0 lost"},
		{"a loss after the operations", "-- -- / 0 1", nil, gc(2, 0, 2, 0), "putleft 0 1, clear 1", 0, false, "1- -- / 0 - free sweep 1 ww at 2 lost"},
		{"no loss with a barrier", "-- -- / 0 1", nil, gc(2, 0, 2, 0), "putleft 0 1, clear 1", 0, true, "1- -- / 0 - free idle 0 ww at 2"},
		{"a loss at the first step", "-- -- / 1", nil, gc(3, 1, 0, 0), "", 0, true, "-- -- / 1 free sweep 1 ww at 0 lost"},
	} {
		b := both(store(mustParse(t, c.text), c.free...), c.gc, mustOps(t, c.ops), c.at)
		got, ok := impl.FinishBoth(b, c.barrier)
		if !ok || impl.FormatBoth(got) != c.want {
			t.Errorf("%s: FinishBoth = %q, %v", c.what, impl.FormatBoth(got), ok)
		}
		got, ok = impl.FinishBoth(asLost(b), c.barrier)
		if !ok || !equalBoth(got, asLost(b)) {
			t.Errorf("%s, lost: FinishBoth = %q, %v", c.what, impl.FormatBoth(got), ok)
		}
	}
}

// TestLost has values that are Lost in every phase.
func TestLost(t *testing.T) {
	mixedBoth(500, func(b impl.Both, schedule string) {
		checkBoth(t, asLost(b))
		checkRuns(t, asLost(b), schedule)
		if got := impl.FormatBoth(asLost(b)); !strings.HasSuffix(got, " lost") {
			t.Fatalf("FormatBoth of a lost value = %q", got)
		}
	})
}

func TestNewBoth(t *testing.T) {
	var programs [4][][]impl.Op
	for roots := 1; roots <= 3; roots++ {
		programs[roots] = mixedOps(2000, roots)
	}
	for i, s := range mixedStores(2000) {
		list := programs[len(s.Heap.Roots)][i]
		got, ok := impl.NewBoth(s, list)
		checkResult(t, got, "NewBoth", got, ok, both(s, gc(0, 0, make([]int, len(s.Heap.Left))...), list, 0))
	}
}

func TestBothSame(t *testing.T) {
	one := func() impl.Both {
		return both(store(mustParse(t, "1- -- -- / 0 -"), 2), gc(3, 1, 2, 0, 1), mustOps(t, "new 0, copy 0 1"), 1)
	}
	checkSame(t, "BothSame", impl.BothSame, one, map[string]func(b *impl.Both){
		"a left pointer":        func(b *impl.Both) { b.Store.Heap.Left[0] = -1 },
		"a right pointer":       func(b *impl.Both) { b.Store.Heap.Right[1] = 1 },
		"a root":                func(b *impl.Both) { b.Store.Heap.Roots[1] = 0 },
		"the free cells":        func(b *impl.Both) { b.Store.Free = nil },
		"the phase":             func(b *impl.Both) { b.Gc.Phase = 1 },
		"a color":               func(b *impl.Both) { b.Gc.Color[2] = 0 },
		"the collector's place": func(b *impl.Both) { b.Gc.At = 2 },
		"the first operation":   func(b *impl.Both) { b.Ops[0].Kind = 7 },
		"an A":                  func(b *impl.Both) { b.Ops[0].A = 1 },
		"a B":                   func(b *impl.Both) { b.Ops[1].B = 0 },
		"a B that is not valid": func(b *impl.Both) { b.Ops[0].B = 1 },
		"the last operation":    func(b *impl.Both) { b.Ops = b.Ops[:1] },
		"one operation more":    func(b *impl.Both) { b.Ops = append(b.Ops, op(1, 0, 0)) },
		"no operations":         func(b *impl.Both) { b.Ops = nil },
		"At":                    func(b *impl.Both) { b.At = 2 },
		"an At that is no":      func(b *impl.Both) { b.At = 1<<32 + 1 },
		"Lost":                  func(b *impl.Both) { b.Lost = true },
		"everything":            func(b *impl.Both) { *b = impl.Both{} },
	})
	empty := impl.Both{Store: store(impl.Heap{Left: []int{}}), Gc: impl.Gc{Color: []int{}}, Ops: []impl.Op{}}
	if !impl.BothSame(impl.Both{}, empty) || !impl.BothSame(empty, impl.Both{}) {
		t.Error("BothSame tells empty slices from nil ones")
	}
	for what, b := range badBoth(t) {
		if !impl.BothSame(b, roomyBoth(b)) || impl.BothSame(b, asLost(b)) {
			t.Errorf("%s: BothSame of equal values = false, or of different ones = true", what)
		}
	}
}

// badBoth returns values that are not valid, each for one reason.
func badBoth(t *testing.T) map[string]impl.Both {
	t.Helper()
	s := store(mustParse(t, "1- -- -- / 0 1"), 2)
	g := gc(2, 0, 1, 0, 0)
	ops := mustOps(t, "new 0, putleft 0 1, clear 1")
	list := map[string]impl.Both{
		"the zero value":           {},
		"no store":                 both(impl.Store{}, g, ops, 0),
		"no collector":             both(s, impl.Gc{}, ops, 0),
		"no operations, and At 1":  both(s, g, nil, 1),
		"no operations, and At -1": both(s, g, nil, -1),
		"thirteen operations":      both(s, g, slices.Repeat([]impl.Op{op(7, 1, 0)}, 13), 0),
		"thirteen, at the end":     both(s, g, slices.Repeat([]impl.Op{op(7, 1, 0)}, 13), 13),
		"very many operations":     both(s, g, slices.Repeat([]impl.Op{op(2, 0, 0)}, 10000), 0),
		"At 13 of 12":              both(s, g, slices.Repeat([]impl.Op{op(7, 1, 0)}, 12), 13),
	}
	for _, at := range []int{math.MinInt, -1 << 32, -2, -1, 4, 5, 12, 13, 1 << 32, 1<<32 + 1, math.MaxInt} {
		list["At "+strconv.Itoa(at)] = both(s, g, ops, at)
	}
	bad := badOps()
	bad["a root A that is not there"] = op(7, 2, 0)
	bad["a root B that is not there"] = op(2, 0, 2)
	for reason, o := range bad {
		for at := range len(ops) + 1 {
			list[reason+" at "+strconv.Itoa(at)] = both(s, g, slices.Insert(slices.Clone(ops), at, o), 0)
			list[reason+" at "+strconv.Itoa(at)+", at the end"] = both(s, g, slices.Insert(slices.Clone(ops), at, o), 4)
		}
	}
	for _, c := range badGcs(t) {
		list["the collector: "+c.what] = both(c.store, c.gc, mustOps(t, "clear 0"), 0)
		list["the collector: "+c.what+", no operations"] = both(c.store, c.gc, nil, 0)
	}
	return list
}

func TestBadBoth(t *testing.T) {
	for what, bad := range badBoth(t) {
		for _, b := range []impl.Both{bad, asLost(bad)} {
			if impl.BothValid(b) || impl.FormatBoth(b) != "" {
				t.Errorf("%s: BothValid = %v, FormatBoth = %q", what, impl.BothValid(b), impl.FormatBoth(b))
			}
			got, ok := impl.StepBoth(b)
			checkNoResult(t, b, what, "StepBoth", got, ok)
			for _, barrier := range []bool{false, true} {
				got, ok := impl.StepOp(b, barrier)
				checkNoResult(t, b, what, "StepOp", got, ok)
				got, ok = impl.FinishBoth(b, barrier)
				checkNoResult(t, b, what, "FinishBoth", got, ok)
				for _, schedule := range []string{"", "o", "g", "x"} {
					got, ok = impl.RunBoth(b, schedule, barrier)
					checkNoResult(t, b, what, "RunBoth", got, ok)
				}
			}
		}
	}
}

func TestNewBothOfBadValues(t *testing.T) {
	for reason, s := range badStores() {
		for _, list := range [][]impl.Op{nil, {op(1, 0, 0)}} {
			got, ok := impl.NewBoth(s, list)
			checkNoResult(t, got, reason, "NewBoth", got, ok)
		}
	}
	s, _ := impl.NewStore(2, 2)
	bad := badOps()
	bad["a root A that is not there"] = op(1, 2, 0)
	bad["a root B that is not there"] = op(6, 0, 2)
	for reason, o := range bad {
		for at := range 3 {
			list := slices.Insert(mustOps(t, "new 0, copy 1 0"), at, o)
			got, ok := impl.NewBoth(s, list)
			checkNoResult(t, got, reason, "NewBoth", got, ok)
		}
	}
}

// TestPlacesOfPrograms has both sides of the limits of Ops and of At, for all numbers of operations.
func TestPlacesOfPrograms(t *testing.T) {
	s, _ := impl.NewStore(2, 1)
	for count := range 16 {
		list := slices.Repeat([]impl.Op{op(7, 0, 0)}, count)
		if b, ok := impl.NewBoth(s, list); ok != (count <= 12) || ok && len(b.Ops) != count || !ok && !isZeroBoth(b) {
			t.Errorf("NewBoth of %d operations = %v, %v", count, b, ok)
		}
		for at := -2; at <= 17; at++ {
			want := count <= 12 && at >= 0 && at <= count
			b := both(s, gc(0, 0, 0, 0), list, at)
			if got := impl.BothValid(b); got != want || (impl.FormatBoth(b) != "") != want {
				t.Errorf("%d operations, At %d: BothValid = %v, FormatBoth = %q", count, at, got, impl.FormatBoth(b))
			}
			if want {
				checkBoth(t, b)
				checkRuns(t, b, strings.Repeat("o", 14))
			}
		}
	}
}

func TestScheduleLetters(t *testing.T) {
	s, _ := impl.NewStore(2, 1)
	b := mustBoth(t, s, "new 0, clear 0, new 0, putleft 0 0")
	for _, letters := range []int{0, 1, 2, 98, 99, 100, 101, 102, 150, 200, 256, 257, 100000} {
		for _, part := range []string{"o", "g", "og", "gggo"} {
			schedule := strings.Repeat(part, letters/len(part)+1)[:letters]
			for _, from := range []impl.Both{b, asLost(b)} {
				got, ok := impl.RunBoth(from, schedule, true)
				if letters <= 100 {
					checkResult(t, from, strconv.Itoa(letters)+" letters", got, ok, scheduled(from, schedule, true))
				} else {
					checkNoResult(t, from, strconv.Itoa(letters)+" letters", "RunBoth", got, ok)
				}
			}
		}
	}
	for letter := range 256 {
		schedule := string([]byte{byte(letter)})
		valid := schedule == "o" || schedule == "g"
		for _, text := range []string{schedule, schedule + "gg", "og" + schedule + "o", "ogo" + schedule, strings.Repeat("g", 99) + schedule} {
			for _, from := range []impl.Both{b, asLost(b)} {
				got, ok := impl.RunBoth(from, text, true)
				if valid {
					checkResult(t, from, text, got, ok, scheduled(from, text, true))
				} else {
					checkNoResult(t, from, text, "RunBoth", got, ok)
				}
			}
		}
	}
}

func TestOtherSchedules(t *testing.T) {
	b := mustBoth(t, store(mustParse(t, "-- / 0")), "clear 0")
	for _, schedule := range []string{
		"O", "G", "oG", "Og", " ", "o g", " o", "g ", "o,g", "go\n", "\x00", "o\x00g", "\xff", "g\xffo", "\xc3g", "ö", "о", "ｏ", "ⓖ", "0", "o-", "x", "oxg",
		strings.Repeat("g", 100) + "x", strings.Repeat("x", 100), strings.Repeat("x", 101), strings.Repeat("ö", 50), strings.Repeat("ö", 100),
	} {
		for _, barrier := range []bool{false, true} {
			for _, from := range []impl.Both{b, asLost(b)} {
				got, ok := impl.RunBoth(from, schedule, barrier)
				checkNoResult(t, from, schedule, "RunBoth", got, ok)
			}
		}
	}
}

// bothToChange returns valid and invalid values, with a name for each.
func bothToChange(t *testing.T) map[string]impl.Both {
	t.Helper()
	list := badBoth(t)
	for _, c := range gcsToChange(t) {
		roots := len(c.store.Heap.Roots)
		program := mustOps(t, "new 0, putleft 0 0, left 0 0, clear 0")
		list[c.what+" to the end"] = both(c.store, c.gc, program, 4)
		for at := range program {
			list[c.what+" at "+strconv.Itoa(at)] = both(c.store, c.gc, program, at)
		}
		if roots > 1 {
			list[c.what+" two roots"] = both(c.store, c.gc, mustOps(t, "putright 0 1, new 1"), 0)
		}
	}
	for what, b := range list {
		if len(what)%3 == 0 {
			list[what] = asLost(b)
		}
	}
	return list
}

// bothResults returns what each function makes of a value and of its parts.
func bothResults(b impl.Both) []impl.Both {
	made, _ := impl.NewBoth(b.Store, b.Ops)
	byGc, _ := impl.StepBoth(b)
	list := []impl.Both{made, byGc}
	for _, barrier := range []bool{false, true} {
		byOp, _ := impl.StepOp(b, barrier)
		still, _ := impl.RunBoth(b, "", barrier)
		run, _ := impl.RunBoth(b, "ogo", barrier)
		end, _ := impl.FinishBoth(b, barrier)
		list = append(list, byOp, still, run, end)
	}
	return list
}

func TestBothChangesNothing(t *testing.T) {
	for what, b := range bothToChange(t) {
		argument := roomyBoth(b)
		impl.BothValid(argument)
		impl.BothSame(argument, argument)
		impl.FormatBoth(argument)
		var numbers [][]int
		var programs [][]impl.Op
		for _, result := range append(bothResults(argument), bothResults(argument)...) {
			numbers = append(append(numbers, storeLists(result.Store)...), result.Gc.Color)
			programs = append(programs, result.Ops)
		}
		checkOwnMemory(t, what, numbers...)
		checkOwn(t, what, func(i int) impl.Op { return op(100+i, i, i) }, programs)
		if !isRoomyBothOf(argument, b) {
			t.Errorf("%s: a function changes its argument, or shares memory with it", what)
		}
	}
}

// TestGoroutinesEnd calls RunBoth and FinishBoth often, and at the same time.
func TestGoroutinesEnd(t *testing.T) {
	s, _ := impl.NewStore(3, 3)
	b := mustBoth(t, s, hiding)
	schedule := "ooooogggggoooogggggg"
	before := runtime.NumGoroutine()
	var calls sync.WaitGroup
	for range 8 {
		calls.Go(func() {
			for range 50 {
				for _, barrier := range []bool{false, true} {
					got, ok := impl.RunBoth(b, schedule, barrier)
					if want := scheduled(b, schedule, barrier); !ok || !equalBoth(got, want) {
						t.Errorf("RunBoth = %s, %v", impl.FormatBoth(got), ok)
					}
					impl.RunBoth(b, schedule+"x", barrier)
					impl.FinishBoth(got, barrier)
				}
			}
		})
	}
	calls.Wait()
	// A goroutine that has made its last step may take a moment to go.
	for tries := 0; runtime.NumGoroutine() > before && tries < 200; tries++ {
		time.Sleep(time.Millisecond)
	}
	if after := runtime.NumGoroutine(); after > before {
		t.Errorf("%d goroutines, before %d", after, before)
	}
}
