package tests

import (
	"math/rand/v2"
	"slices"
	"strings"
	"testing"

	"loop.example/cellcollector/impl"
)

func TestMaxSeen(t *testing.T) {
	if impl.MaxSeen != 400 {
		t.Errorf("MaxSeen = %d", impl.MaxSeen)
	}
}

// A runGraph has the values that one can come to, by their texts, and the texts that the
// letters g and o lead to, which are empty where a letter leads to nothing else.
type runGraph struct {
	first  string
	values map[string]impl.Both
	next   map[string][2]string
}

// graphOf goes from a valid value to others by the document's words, the last one found first;
// it stops after more than most values.
func graphOf(b impl.Both, barrier bool, most int) runGraph {
	g := runGraph{first: bothText(b), values: map[string]impl.Both{bothText(b): b}, next: map[string][2]string{}}
	for work := []impl.Both{b}; len(work) > 0 && len(g.values) <= most; {
		b := work[len(work)-1]
		work = work[:len(work)-1]
		for _, next := range g.goOn(b, barrier) {
			text := bothText(next)
			if _, seen := g.values[text]; !seen {
				g.values[text] = next
				work = append(work, next)
			}
		}
	}
	return g
}

// goOn returns what the letters lead to.
func (g runGraph) goOn(b impl.Both, barrier bool) []impl.Both {
	if b.Lost {
		return nil
	}
	list := []impl.Both{collectorStep(b)}
	texts := [2]string{bothText(list[0])}
	if b.At < len(b.Ops) {
		list = append(list, opStep(b, barrier))
		texts[1] = bothText(list[1])
	}
	g.next[bothText(b)] = texts
	return list
}

// lettersToLoss returns how many letters it takes at least from each value to one that is Lost,
// far if there is none that is come to.
func (g runGraph) lettersToLoss() map[string]int {
	letters := map[string]int{}
	for text, b := range g.values {
		letters[text] = far
		if b.Lost {
			letters[text] = 0
		}
	}
	for changed := true; changed; {
		changed = false
		for text, next := range g.next {
			for _, to := range next {
				if to != "" && letters[to]+1 < letters[text] {
					letters[text] = letters[to] + 1
					changed = true
				}
			}
		}
	}
	return letters
}

// shortLoss is the document's ShortLoss: on the way to the nearest loss, it takes a g where it can.
func (g runGraph) shortLoss() (string, bool) {
	letters := g.lettersToLoss()
	if letters[g.first] == far {
		return "", false
	}
	schedule := ""
	for at := g.first; letters[at] > 0; {
		letter := 0
		if letters[g.next[at][0]] != letters[at]-1 {
			letter = 1
		}
		schedule += "go"[letter : letter+1]
		at = g.next[at][letter]
	}
	return schedule, true
}

// ends is the document's EndStores.
func (g runGraph) ends() []string {
	var texts []string
	for _, b := range g.values {
		if text := impl.FormatHeap(b.Store.Heap); b.At == len(b.Ops) && !b.Lost && !slices.Contains(texts, text) {
			texts = append(texts, text)
		}
	}
	slices.Sort(texts)
	return texts
}

// checkNoRuns needs the results of a value that is not valid, or can come to too many.
func checkNoRuns(t *testing.T, b impl.Both, barrier bool, what string) {
	t.Helper()
	count, counted := impl.CountBoth(b, barrier)
	can, told := impl.CanLose(b, barrier)
	loss, lost := impl.ShortLoss(b, barrier)
	ends, ended := impl.EndStores(b, barrier)
	if counted || told || lost || ended || count != 0 || can || loss != "" || len(ends) != 0 {
		t.Fatalf("%s: %v, %v: CountBoth = %d, %v, CanLose = %v, %v, ShortLoss = %q, %v, EndStores = %q, %v",
			what, b, barrier, count, counted, can, told, loss, lost, ends, ended)
	}
}

// checkRunsFound needs results of all functions: a count, and a schedule to a loss, if there is one.
func checkRunsFound(t *testing.T, b impl.Both, barrier bool, count int, loss string, can bool, ends []string) {
	t.Helper()
	gotCount, counted := impl.CountBoth(b, barrier)
	gotCan, told := impl.CanLose(b, barrier)
	gotLoss, lost := impl.ShortLoss(b, barrier)
	gotEnds, ended := impl.EndStores(b, barrier)
	if !counted || gotCount != count || !told || gotCan != can || lost != can || gotLoss != loss || !ended || !slices.Equal(gotEnds, ends) {
		t.Fatalf("%s, %q, %v: CountBoth = %d, %v, not %d, CanLose = %v, %v, not %v, ShortLoss = %q, %v, not %q, EndStores = %q, %v, not %q",
			impl.FormatBoth(b), opsText(b.Ops), barrier, gotCount, counted, count, gotCan, told, can, gotLoss, lost, loss, gotEnds, ended, ends)
	}
}

// checkAllRuns compares all functions with the document's words, and returns how many values
// there are and whether one is Lost, 401 and false if there are too many.
func checkAllRuns(t *testing.T, b impl.Both, barrier bool) (int, bool) {
	t.Helper()
	g := graphOf(b, barrier, 400)
	if len(g.values) > 400 {
		checkNoRuns(t, b, barrier, "too many values")
		return 401, false
	}
	loss, can := g.shortLoss()
	checkRunsFound(t, b, barrier, len(g.values), loss, can, g.ends())
	if can {
		checkLoss(t, b, loss, barrier)
	}
	return len(g.values), can
}

// checkLoss runs a schedule, which must lose a cell by its last letter and not before.
func checkLoss(t *testing.T, b impl.Both, schedule string, barrier bool) {
	t.Helper()
	end, ok := impl.RunBoth(b, schedule, barrier)
	if !ok || !end.Lost || end.At != b.At+strings.Count(schedule, "o") {
		t.Fatalf("%s: RunBoth of %q = %s, %v", impl.FormatBoth(b), schedule, impl.FormatBoth(end), ok)
	}
	if schedule == "" {
		return
	}
	end, ok = impl.RunBoth(b, schedule[:len(schedule)-1], barrier)
	if !ok || end.Lost {
		t.Fatalf("%s: %q is longer than it must be", impl.FormatBoth(b), schedule)
	}
}

func TestAllRunsOfSmallStores(t *testing.T) {
	for _, size := range [][2]int{{1, 1}, {1, 2}} {
		list := validOps(size[1])
		everyHeap(size[0], size[1], func(h impl.Heap) {
			everyFree(looseCells(h), nil, func(free []int) {
				s := store(h, free...)
				everyGc(s, func(g impl.Gc) {
					checkAllRuns(t, both(s, g, nil, 0), false)
					checkAllRuns(t, both(s, g, list[:3], 3), true)
					for at := range list {
						checkAllRuns(t, both(s, g, list[at:min(at+2, len(list))], 0), at%2 == 0)
					}
				})
			})
		})
	}
}

func TestAllRunsOfNewValues(t *testing.T) {
	list := validOps(1)
	everyHeap(2, 1, func(h impl.Heap) {
		everyFree(looseCells(h), nil, func(free []int) {
			for at := range list {
				b, _ := impl.NewBoth(store(h, free...), list[at:min(at+2, len(list))])
				checkAllRuns(t, b, false)
				checkAllRuns(t, b, true)
			}
		})
	})
}

func TestAllRunsOfAllSizes(t *testing.T) {
	var few, many, lost, lostBehind int
	mixedBoth(150, func(b impl.Both, _ string) {
		for _, barrier := range []bool{false, true} {
			count, can := checkAllRuns(t, b, barrier)
			switch {
			case count > 400:
				many++
			case !can:
				few++
			case barrier:
				lostBehind++
			default:
				lost++
			}
		}
	})
	if few == 0 || many == 0 || lost == 0 || lostBehind == 0 {
		t.Errorf("%d values that can lose nothing, %d that can lose, %d with the barrier, %d that can come to too many", few, lost, lostBehind, many)
	}
}

// TestNothingIsLostBehindBarrier is promise 8: with the barrier, no program can lose a live cell.
func TestNothingIsLostBehindBarrier(t *testing.T) {
	random := rand.New(rand.NewPCG(18, 19))
	starts := []impl.Both{mustBoth(t, moving(t), movingOps), mustBoth(t, moving(t), strings.ReplaceAll(movingOps, "left", "right"))}
	for _, s := range mixedStores(300) {
		valid := validOps(len(s.Heap.Roots))
		var list []impl.Op
		for range 1 + random.IntN(6) {
			list = append(list, valid[random.IntN(len(valid))])
		}
		b, _ := impl.NewBoth(s, list)
		starts = append(starts, b)
	}
	for _, b := range starts {
		count, can := checkAllRuns(t, b, true)
		if can {
			t.Errorf("%s, %q: a loss", impl.FormatBoth(b), opsText(b.Ops))
		}
		if count <= 400 {
			checkLossNotFound(t, b, true)
		}
		checkAllRuns(t, b, false)
	}
}

func checkLossNotFound(t *testing.T, b impl.Both, barrier bool) {
	t.Helper()
	can, told := impl.CanLose(b, barrier)
	loss, lost := impl.ShortLoss(b, barrier)
	if !told || can || lost || loss != "" {
		t.Errorf("%s, %q: CanLose = %v, %v, ShortLoss = %q, %v", impl.FormatBoth(b), opsText(b.Ops), can, told, loss, lost)
	}
}

// movingOps moves the pointer to the cell 2 from the cell 1 to the cell 0.
const movingOps = "left 2 1, putleft 0 2, clear 2, putleft 1 2"

func moving(t *testing.T) impl.Store {
	t.Helper()
	return store(mustParse(t, "-- 2- -- / 0 1 -"))
}

// TestAllSchedules runs all schedules, on values that come to nothing else by more than 23 letters.
func TestAllSchedules(t *testing.T) {
	begun, _ := impl.RunBoth(mustBoth(t, moving(t), movingOps), "ggggg", false)
	for _, b := range []impl.Both{
		begun,
		mustBoth(t, moving(t), movingOps),
		both(store(mustParse(t, "1- -- / 0 1")), gc(2, 0, 2, 0), mustOps(t, "copy 0 0, clear 1, copy 1 1"), 0),
		both(store(mustParse(t, "-- / 0")), gc(0, 0, 0), mustOps(t, "clear 0, new 0, clear 0"), 0),
		both(store(mustParse(t, "1- 0- / 0 -")), gc(3, 0, 0, 0), mustOps(t, "left 1 0, clear 0, clear 1"), 0),
		both(store(mustParse(t, "-- -- / -"), 1, 0), gc(2, 0, 1, 0), mustOps(t, "new 0, new 0"), 0),
	} {
		for _, barrier := range []bool{false, true} {
			checkBySchedules(t, b, barrier)
		}
	}
}

// checkBySchedules compares all functions with what schedules of up to 24 letters lead to.
func checkBySchedules(t *testing.T, b impl.Both, barrier bool) {
	t.Helper()
	g := runGraph{values: map[string]impl.Both{}}
	loss, can, before := "", false, 0
	for letters := range 25 {
		before = len(g.values)
		everyRun(b, barrier, letters, "", func(end impl.Both, schedule string) {
			g.values[bothText(end)] = end
			if end.Lost && !can {
				loss, can = schedule, true
			}
		})
	}
	if before != len(g.values) {
		t.Fatalf("%s: longer schedules lead to more", bothText(b))
	}
	checkRunsFound(t, b, barrier, len(g.values), loss, can, g.ends())
}

// everyRun calls see with what each schedule of so many letters leads to, in the order of their
// bytes, but for those in which an o is no operation, or a letter follows a loss.
func everyRun(b impl.Both, barrier bool, letters int, schedule string, see func(end impl.Both, schedule string)) {
	if letters == 0 {
		see(b, schedule)
		return
	}
	if b.Lost {
		return
	}
	everyRun(collectorStep(b), barrier, letters-1, schedule+"g", see)
	if b.At < len(b.Ops) {
		everyRun(opStep(b, barrier), barrier, letters-1, schedule+"o", see)
	}
}

// An allRunsCase has a value by its parts, and what all functions return for it, without a loss
// where lose is "-".
type allRunsCase struct {
	what    string
	text    string
	free    []int
	gc      impl.Gc
	ops     string
	at      int
	barrier bool
	count   int
	lose    string
	ends    []string
}

func checkAllRunsCases(t *testing.T, list []allRunsCase) {
	t.Helper()
	for _, c := range list {
		b := both(store(mustParse(t, c.text), c.free...), c.gc, mustOps(t, c.ops), c.at)
		count, counted := impl.CountBoth(b, c.barrier)
		can, told := impl.CanLose(b, c.barrier)
		loss, lost := impl.ShortLoss(b, c.barrier)
		ends, ended := impl.EndStores(b, c.barrier)
		if !counted || count != c.count || !told || can != (c.lose != "-") {
			t.Errorf("%s: CountBoth = %d, %v, CanLose = %v, %v", c.what, count, counted, can, told)
		}
		if lost != can || can && loss != c.lose || !can && loss != "" || !ended || !slices.Equal(ends, c.ends) {
			t.Errorf("%s: ShortLoss = %q, %v, EndStores = %q, %v", c.what, loss, lost, ends, ended)
		}
		checkAllRuns(t, b, c.barrier)
	}
}

func TestRunsWithoutOperations(t *testing.T) {
	checkAllRunsCases(t, []allRunsCase{
		{"one free cell", "-- / -", []int{0}, gc(0, 0, 0), "", 0, true, 4, "-", []string{"-- / -"}},
		{"one free cell, no barrier", "-- / -", []int{0}, gc(0, 0, 0), "", 0, false, 4, "-", []string{"-- / -"}},
		{"one live cell", "-- / 0", nil, gc(0, 0, 0), "", 0, true, 5, "-", []string{"-- / 0"}},
		{"a color to which it does not come back", "-- / 0", nil, gc(0, 0, 2), "", 0, true, 6, "-", []string{"-- / 0"}},
		{"a phase to which it comes back", "-- / 0", nil, gc(2, 0, 1), "", 0, true, 5, "-", []string{"-- / 0"}},
		{"one leaked cell", "-- / -", nil, gc(0, 0, 0), "", 0, true, 8, "-", []string{"-- / -"}},
		{"one black leaked cell", "-- / -", nil, gc(3, 0, 2), "", 0, true, 9, "-", []string{"-- / -"}},
		{"three free cells and two roots", "-- -- -- / - -", []int{2, 0, 1}, gc(0, 0, 0, 0, 0), "", 0, true, 7, "-", []string{"-- -- -- / - -"}},
		{"the most cells and roots", "-- -- -- -- -- -- -- -- / - - -", []int{0, 1, 2, 3, 4, 5, 6, 7}, gc(0, 0, 0, 0, 0, 0, 0, 0, 0, 0), "", 0, true, 13, "-", []string{"-- -- -- -- -- -- -- -- / - - -"}},
		{"garbage that is cleared", "1- -- -- / 2", nil, gc(3, 0, 0, 0, 2), "", 0, true, 9, "-", []string{"-- -- -- / 2", "1- -- -- / 2"}},
		{"garbage of which each cell is cleared", "12 01 -2 / 2 -", nil, gc(3, 0, 0, 0, 2), "", 0, true, 10, "-", []string{"-- -- -2 / 2 -", "-- -1 -2 / 2 -", "12 01 -2 / 2 -"}},
		{"a live cell that is swept", "-- / 0", nil, gc(3, 0, 0), "", 0, true, 2, "g", []string{"-- / 0"}},
		{"a live cell behind a black one", "1- -- / 0", nil, gc(2, 0, 2, 0), "", 0, true, 4, "ggg", []string{"1- -- / 0"}},
		{"garbage, and then a live cell", "-- -- / 1", nil, gc(3, 0, 0, 0), "", 0, false, 3, "gg", []string{"-- -- / 1"}},
	})
}

func TestRunsOfPrograms(t *testing.T) {
	checkAllRunsCases(t, []allRunsCase{
		{"an operation that changes nothing", "-- / -", []int{0}, gc(0, 0, 0), "clear 0", 0, true, 8, "-", []string{"-- / -"}},
		{"the program ended", "-- / -", []int{0}, gc(0, 0, 0), "clear 0", 1, true, 4, "-", []string{"-- / -"}},
		{"an operation that finds nothing", "-- / -", []int{0}, gc(0, 0, 0), "putleft 0 0", 0, false, 8, "-", []string{"-- / -"}},
		{"an operation that is full", "-- / 0", nil, gc(0, 0, 0), "new 0", 0, true, 10, "-", []string{"-- / 0"}},
		{"the most operations", "-- / -", []int{0}, gc(0, 0, 0), strings.Repeat("clear 0, ", 11) + "clear 0", 0, true, 52, "-", []string{"-- / -"}},
		{"the last seven of the most operations", "-- / -", []int{0}, gc(0, 0, 0), strings.Repeat("clear 0, ", 11) + "clear 0", 5, true, 32, "-", []string{"-- / -"}},
		{"a new cell, which is white, or black", "-- / -", []int{0}, gc(0, 0, 0), "new 0", 0, true, 10, "-", []string{"-- / 0"}},
		{"a cell that is live until it is cleared", "-- / 0", nil, gc(3, 0, 0), "clear 0", 0, true, 7, "g", []string{"-- / -"}},
		{"a cell that is live in any case", "-- / 0", nil, gc(3, 0, 0), "copy 0 0", 0, true, 4, "g", []string{"-- / 0"}},
		{"three new cells in two", "-- -- / -", []int{0, 1}, gc(0, 0, 0, 0), "new 0, new 0, new 0", 0, true, 63, "-", []string{"-- -- / 0", "-- -- / 1"}},
		{"free cells in both orders", "-- -- / -", []int{0, 1}, gc(0, 0, 0, 0), "new 0, clear 0", 0, true, 26, "-", []string{"-- -- / -"}},
		{"a barrier", "-- -- / 0 1", nil, gc(2, 0, 2, 0), "putleft 0 1, clear 1", 0, true, 30, "-", []string{"1- -- / 0 -"}},
		{"no barrier", "-- -- / 0 1", nil, gc(2, 0, 2, 0), "putleft 0 1, clear 1", 0, false, 31, "ooggg", []string{"1- -- / 0 -"}},
		{"an operation that is not needed", "-- -- / 0 1 -", nil, gc(2, 0, 2, 0), "putleft 0 1, clear 1, clear 2", 0, false, 50, "ooggg", []string{"1- -- / 0 - -"}},
		{"a pointer that is moved", "-- 2- -- / 0 1 -", nil, gc(0, 0, 0, 0, 0), movingOps, 0, false, 68, "gggggooooggggg", []string{"2- -- -- / 0 1 -"}},
		{"a pointer that is moved, with the barrier", "-- 2- -- / 0 1 -", nil, gc(0, 0, 0, 0, 0), movingOps, 0, true, 68, "-", []string{"2- -- -- / 0 1 -"}},
	})
}

// TestBothSidesOfMaxSeen has values that can come to about 400, themselves counted.
func TestBothSidesOfMaxSeen(t *testing.T) {
	for _, c := range []struct {
		text    string
		free    []int
		ops     string
		barrier bool
		count   int
		can     bool
	}{
		{"1- -1 -- -1 -- / - -", []int{2, 4}, "new 1, new 0, copy 1 0, new 0, left 0 0", false, 399, false},
		{"-- 33 -- -1 -- / 3 -", []int{0, 4}, "putright 0 0, right 0 0, new 1, left 0 0, left 1 0", true, 399, false},
		{"-- 2- -- 2- / 0 1 -", nil, "left 2 1, putleft 0 2, putleft 1 0, right 0 1, clear 2, putleft 2 2, putleft 1 2", false, 399, true},
		{"00 -- -- -- -- -- -- / - 0", []int{3, 6, 5, 1, 4}, "new 1, new 1, putright 1 0, putleft 1 1", false, 400, false},
		{"-- -6 -- -- -- -- 64 / - 4", []int{5, 3, 2, 0}, "copy 1 1, right 1 1, new 0, putright 1 0, copy 1 0, putright 0 0", true, 400, false},
		{"-- 2- -- -- / 0 1 -", nil, "left 2 1, putleft 0 2, clear 2, putleft 1 2, new 1, right 0 1", false, 400, true},
		{"-- 2- -- -- / 0 1 -", nil, "left 2 1, putleft 0 2, clear 2, putleft 1 2, new 1, right 0 1", true, 401, false},
		{"23 -- 63 32 -6 32 6- / 4 4", []int{1}, "new 1, left 0 0, left 0 0, left 1 1", false, 401, false},
		{"23 -- 63 32 -6 32 6- / 4 4", []int{1}, "new 1, left 0 0, left 0 0, left 1 1", true, 401, false},
		{"-- 2- -- 2- / 0 1 -", nil, "putright 2 1, left 2 1, copy 2 2, left 2 1, new 1, putleft 0 2, clear 2, putleft 1 2", false, 401, true},
		{"-- 2- -- 2- / 0 1 -", nil, "left 2 1, putleft 0 2, copy 1 0, clear 2, right 0 1, putleft 1 2", false, 402, false},
		{"-- 2- -- -- / 0 1 -", nil, "left 2 1, new 0, putleft 0 2, right 2 1, clear 2, putleft 1 2", false, 402, true},
	} {
		b := mustBoth(t, store(mustParse(t, c.text), c.free...), c.ops)
		g := graphOf(b, c.barrier, 1000)
		if _, can := g.shortLoss(); len(g.values) != c.count || can != c.can {
			t.Fatalf("%s, %q: %d values, a loss %v", c.text, c.ops, len(g.values), can)
		}
		count, _ := checkAllRuns(t, b, c.barrier)
		if count != min(c.count, 401) {
			t.Errorf("%s, %q: CountBoth = %d", c.text, c.ops, count)
		}
		checkRunsFound(t, asLost(b), c.barrier, 1, "", true, nil)
	}
}

// TestTooManyValues has values that can come to very many, and one that can also be Lost at once.
func TestTooManyValues(t *testing.T) {
	long := "clear 0, new 0, new 1, new 2, putleft 0 1, putright 1 2, clear 2, clear 1, new 1, putleft 1 0, clear 0, new 0"
	eight := store(mustParse(t, "-- -- -- -- -- -- -- -- / 0 - -"), 7, 6, 5, 4, 3, 2, 1)
	for phase := range gcPhases {
		b := both(eight, gc(phase, 0, make([]int, 8)...), mustOps(t, long), 0)
		if at := scheduled(b, "g", true).Lost; at != (phase == 3) {
			t.Errorf("%s is Lost: %v", bothText(b), at)
		}
		for _, barrier := range []bool{false, true} {
			if count := len(graphOf(b, barrier, 1000).values); count <= 400 {
				t.Errorf("%s: %d values", bothText(b), count)
			}
			checkNoRuns(t, b, barrier, "too many values")
			checkRunsFound(t, asLost(b), barrier, 1, "", true, nil)
		}
	}
}

// TestLostComesToNothing has values that are Lost from the beginning: each is the only one that it can come to.
func TestLostComesToNothing(t *testing.T) {
	list := []impl.Both{}
	mixedBoth(300, func(b impl.Both, _ string) { list = append(list, asLost(b)) })
	for _, c := range []string{"", "clear 0", movingOps} {
		b := mustBoth(t, moving(t), c)
		list = append(list, asLost(b), asLost(both(b.Store, b.Gc, b.Ops, len(b.Ops))))
	}
	start := mustBoth(t, moving(t), movingOps)
	schedule, _ := impl.ShortLoss(start, false)
	lost, _ := impl.RunBoth(start, schedule, false)
	for _, b := range append(list, lost) {
		for _, barrier := range []bool{false, true} {
			checkRunsFound(t, b, barrier, 1, "", true, nil)
		}
	}
}

func TestAllRunsOfBadValues(t *testing.T) {
	for what, b := range badBoth(t) {
		for _, barrier := range []bool{false, true} {
			checkNoRuns(t, b, barrier, what)
			checkNoRuns(t, asLost(b), barrier, what+", lost")
		}
	}
}

func TestAllRunsChangeNothing(t *testing.T) {
	for what, b := range bothToChange(t) {
		argument := roomyBoth(b)
		var texts [][]string
		for _, barrier := range []bool{false, true} {
			impl.CountBoth(argument, barrier)
			impl.CanLose(argument, barrier)
			impl.ShortLoss(argument, barrier)
			one, _ := impl.EndStores(argument, barrier)
			other, _ := impl.EndStores(argument, barrier)
			texts = append(texts, one, other)
		}
		checkOwn(t, what, func(i int) string { return strings.Repeat("x", i+1) }, texts)
		if !isRoomyBothOf(argument, b) {
			t.Errorf("%s: a function changes its argument", what)
		}
	}
}

// TestAllRunsAgain calls the functions on some values in turn, and needs the same results each time.
func TestAllRunsAgain(t *testing.T) {
	four, _ := impl.NewStore(4, 2)
	list := []impl.Both{
		mustBoth(t, moving(t), movingOps),
		mustBoth(t, four, "new 0, new 1, putleft 0 1, new 0"),
		both(four, gc(9, 0, 0, 0, 0, 0), nil, 0),
		asLost(mustBoth(t, four, "new 0")),
	}
	for range 20 {
		for _, b := range list {
			if !impl.BothValid(b) {
				checkNoRuns(t, b, true, "a phase that is none")
				continue
			}
			checkAllRuns(t, b, false)
			checkAllRuns(t, b, true)
		}
	}
}
