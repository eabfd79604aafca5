package tests

import (
	"math"
	"regexp"
	"strings"
	"testing"

	"loop.example/cellcollector/impl"
)

func TestLimitsOfHeaps(t *testing.T) {
	if impl.None != -1 || impl.MaxCells != 8 || impl.MaxRoots != 3 {
		t.Errorf("None, MaxCells, MaxRoots = %d, %d, %d", impl.None, impl.MaxCells, impl.MaxRoots)
	}
}

func TestNewHeap(t *testing.T) {
	sizes := []int{math.MinInt, -8, -1, 0, 1, 2, 3, 4, 5, 6, 7, 8, 9, 100, math.MaxInt}
	for _, cells := range sizes {
		for _, roots := range sizes {
			h, ok := impl.NewHeap(cells, roots)
			if cells < 1 || cells > 8 || roots < 1 || roots > 3 {
				if ok || !isZeroHeap(h) {
					t.Errorf("NewHeap(%d, %d) = %v, %v", cells, roots, h, ok)
				}
				continue
			}
			want := impl.Heap{Left: nones(cells), Right: nones(cells), Roots: nones(roots)}
			if !ok || !equalHeaps(h, want) || !impl.HeapValid(h) {
				t.Errorf("NewHeap(%d, %d) = %v, %v", cells, roots, h, ok)
			}
			checkOwnMemory(t, "NewHeap", heapLists(h)...)
		}
	}
}

func TestHeapValid(t *testing.T) {
	for _, h := range someHeaps(t) {
		if !impl.HeapValid(h) {
			t.Errorf("HeapValid(%v) = false", h)
		}
	}
	for reason, h := range badHeaps() {
		if impl.HeapValid(h) {
			t.Errorf("HeapValid accepts %s: %v", reason, h)
		}
	}
}

// TestHeapValidPointers puts every number near the limits in the place of every pointer.
func TestHeapValidPointers(t *testing.T) {
	for cells := 1; cells <= 8; cells++ {
		for _, to := range []int{math.MinInt, -2, -1, 0, 1, cells - 1, cells, cells + 1, 8, 9, math.MaxInt} {
			want := to >= -1 && to < cells
			for at := range cells {
				left := impl.Heap{Left: nones(cells), Right: nones(cells), Roots: nones(3)}
				left.Left[at] = to
				right := impl.Heap{Left: nones(cells), Right: nones(cells), Roots: nones(3)}
				right.Right[at] = to
				if impl.HeapValid(left) != want || impl.HeapValid(right) != want {
					t.Errorf("%d cells: HeapValid with the pointer %d at %d is not %v", cells, to, at, want)
				}
			}
			for at := range 3 {
				h := impl.Heap{Left: nones(cells), Right: nones(cells), Roots: nones(3)}
				h.Roots[at] = to
				if impl.HeapValid(h) != want {
					t.Errorf("%d cells: HeapValid with the root %d at %d is not %v", cells, to, at, want)
				}
			}
		}
	}
}

func TestHeapSame(t *testing.T) {
	heaps := someHeaps(t)
	for _, h := range badHeaps() {
		heaps = append(heaps, h)
	}
	for i, a := range heaps {
		for j, b := range heaps {
			want := i == j || equalHeaps(a, b)
			if got := impl.HeapSame(a, cloneHeap(b)); got != want {
				t.Errorf("HeapSame(%v, %v) = %v", a, b, got)
			}
		}
	}
	if !impl.HeapSame(impl.Heap{}, impl.Heap{Left: []int{}, Right: []int{}, Roots: []int{}}) {
		t.Error("HeapSame tells nil slices from empty ones")
	}
}

func TestHeapSameFields(t *testing.T) {
	h := impl.Heap{Left: []int{5, 6}, Right: []int{7}, Roots: []int{8, 9, 10, 11}}
	for _, other := range []impl.Heap{
		{Left: []int{5, 5}, Right: []int{7}, Roots: []int{8, 9, 10, 11}},
		{Left: []int{5}, Right: []int{7}, Roots: []int{8, 9, 10, 11}},
		{Left: []int{5, 6}, Right: []int{8}, Roots: []int{8, 9, 10, 11}},
		{Left: []int{5, 6}, Roots: []int{8, 9, 10, 11}},
		{Left: []int{5, 6}, Right: []int{7}, Roots: []int{8, 9, 10, 12}},
		{Left: []int{5, 6}, Right: []int{7}, Roots: []int{8, 9, 10}},
		{Left: []int{7}, Right: []int{5, 6}, Roots: []int{8, 9, 10, 11}},
	} {
		if impl.HeapSame(h, other) || impl.HeapSame(other, h) {
			t.Errorf("HeapSame does not tell %v from %v", h, other)
		}
	}
	if !impl.HeapSame(h, cloneHeap(h)) {
		t.Error("HeapSame does not accept an invalid heap")
	}
}

// putters are the three functions that change a pointer, each with the slice that it changes.
var putters = []struct {
	name string
	put  func(impl.Heap, int, int) (impl.Heap, bool)
	of   func(impl.Heap) []int
}{
	{"PutLeft", impl.PutLeft, func(h impl.Heap) []int { return h.Left }},
	{"PutRight", impl.PutRight, func(h impl.Heap) []int { return h.Right }},
	{"PutRoot", impl.PutRoot, func(h impl.Heap) []int { return h.Roots }},
}

func TestPut(t *testing.T) {
	numbers := []int{math.MinInt, -3, -2, -1, 0, 1, 2, 3, 4, 5, 6, 7, 8, 9, math.MaxInt}
	for _, p := range putters {
		for _, h := range someHeaps(t) {
			for _, at := range numbers {
				for _, to := range numbers {
					got, ok := p.put(h, at, to)
					if at < 0 || at >= len(p.of(h)) || to < -1 || to >= len(h.Left) {
						if ok || !isZeroHeap(got) {
							t.Errorf("%s(%v, %d, %d) = %v, %v", p.name, h, at, to, got, ok)
						}
						continue
					}
					want := cloneHeap(h)
					p.of(want)[at] = to
					if !ok || !equalHeaps(got, want) || !impl.HeapValid(got) {
						t.Errorf("%s(%v, %d, %d) = %v, %v", p.name, h, at, to, got, ok)
					}
				}
			}
		}
	}
}

func TestPutIntoBadHeap(t *testing.T) {
	for _, p := range putters {
		for reason, h := range badHeaps() {
			for at := -1; at < 4; at++ {
				for to := -1; to < 3; to++ {
					if got, ok := p.put(h, at, to); ok || !isZeroHeap(got) {
						t.Errorf("%s accepts %s: %v, %v", p.name, reason, got, ok)
					}
				}
			}
		}
	}
}

func TestPutOwnMemory(t *testing.T) {
	for _, p := range putters {
		for _, h := range someHeaps(t) {
			argument := roomyHeap(h)
			got, ok := p.put(argument, 0, 0)
			if !ok {
				t.Fatalf("%s(%v, 0, 0) returns false", p.name, h)
			}
			checkOwnMemory(t, p.name, heapLists(got)...)
			if !isRoomyHeapOf(argument, h) {
				t.Errorf("%s(%v, 0, 0) changes its argument, or shares memory with it", p.name, h)
			}
		}
	}
}

func TestCountPointers(t *testing.T) {
	for text, want := range map[string]int{
		"-- / -": 0, "-- / 0": 1, "0- / -": 1, "-0 / -": 1, "00 / 0": 3, "00 / 0 0 0": 5,
		"1- -- 0- / 0": 3, "12 2- -- / - 2 -": 4, "-- -- -- / - - 2": 1,
		"-- -- -- -- -- -- -- -- / - - -": 0, "-- -- -- -- -- -- -- 7- / - - -": 1,
		"-- -- -- -- -- -- -- -7 / 7": 2, "00 11 22 33 44 55 66 77 / 0 1 7": 19,
	} {
		if got := impl.CountPointers(mustParse(t, text)); got != want {
			t.Errorf("CountPointers(%q) = %d, not %d", text, got, want)
		}
	}
	for reason, h := range badHeaps() {
		if got := impl.CountPointers(h); got != 0 {
			t.Errorf("CountPointers of a heap with %s = %d", reason, got)
		}
	}
}

func TestFormatHeap(t *testing.T) {
	for _, c := range []struct {
		heap impl.Heap
		text string
	}{
		{impl.Heap{Left: []int{1, -1, 0}, Right: []int{-1, -1, -1}, Roots: []int{0}}, "1- -- 0- / 0"},
		{impl.Heap{Left: []int{0}, Right: []int{-1}, Roots: []int{-1}}, "0- / -"},
		{impl.Heap{Left: []int{-1}, Right: []int{0}, Roots: []int{0, -1, 0}}, "-0 / 0 - 0"},
		{impl.Heap{Left: []int{-1}, Right: []int{-1}, Roots: []int{-1}}, "-- / -"},
		{impl.Heap{Left: []int{-1, 2, -1}, Right: []int{-1, -1, 0}, Roots: []int{1}}, "-- 2- -0 / 1"},
		{impl.Heap{Left: []int{7, 6, 5, 4, 3, 2, 1, 0}, Right: []int{0, 1, 2, 3, 4, 5, 6, 7}, Roots: []int{7, -1, 3}}, "70 61 52 43 34 25 16 07 / 7 - 3"},
	} {
		if got := impl.FormatHeap(c.heap); got != c.text {
			t.Errorf("FormatHeap(%v) = %q, not %q", c.heap, got, c.text)
		}
		if got, ok := impl.ParseHeap(c.text); !ok || !equalHeaps(got, c.heap) {
			t.Errorf("ParseHeap(%q) = %v, %v", c.text, got, ok)
		}
	}
	for reason, h := range badHeaps() {
		if got := impl.FormatHeap(h); got != "" {
			t.Errorf("FormatHeap of a heap with %s = %q", reason, got)
		}
	}
}

// TestRoundTrip goes through all heaps of one and two cells.
func TestRoundTrip(t *testing.T) {
	texts := map[string]bool{}
	count := 0
	for cells := 1; cells <= 2; cells++ {
		for roots := 1; roots <= 3; roots++ {
			everyHeap(cells, roots, func(h impl.Heap) {
				text := impl.FormatHeap(h)
				got, ok := impl.ParseHeap(text)
				if !ok || !equalHeaps(got, h) {
					t.Fatalf("ParseHeap(%q) = %v, %v, not %v", text, got, ok, h)
				}
				texts[text] = true
				count++
			})
		}
	}
	if len(texts) != count {
		t.Errorf("%d heaps have %d texts", count, len(texts))
	}
}

var heapForm = regexp.MustCompile(`\A((?:[-0-7]{2} ){1,8})/((?: [-0-7]){1,3})\z`)

// isHeapText says by a regular expression what a text of a heap is.
func isHeapText(s string) bool {
	parts := heapForm.FindStringSubmatch(s)
	if parts == nil {
		return false
	}
	cells := len(parts[1]) / 3
	for _, letter := range parts[1] + parts[2] {
		if letter >= '0' && int(letter-'0') >= cells {
			return false
		}
	}
	return true
}

func checkParse(t *testing.T, s string) {
	t.Helper()
	h, ok := impl.ParseHeap(s)
	if want := isHeapText(s); ok != want {
		t.Fatalf("ParseHeap(%q) = %v, %v", s, h, ok)
	}
	if ok && (!impl.HeapValid(h) || impl.FormatHeap(h) != s) || !ok && !isZeroHeap(h) {
		t.Fatalf("ParseHeap(%q) = %v, %v", s, h, ok)
	}
}

// TestParseNear changes texts of heaps at every place by every byte, and takes bytes out.
func TestParseNear(t *testing.T) {
	for _, h := range someHeaps(t) {
		text := impl.FormatHeap(h)
		checkParse(t, text)
		for at := 0; at <= len(text); at++ {
			checkParse(t, text[:at])
			checkParse(t, text[at:])
			for letter := range 256 {
				checkParse(t, text[:at]+string([]byte{byte(letter)})+text[at:])
				if at < len(text) {
					checkParse(t, text[:at]+string([]byte{byte(letter)})+text[at+1:])
				}
			}
			if at < len(text) {
				checkParse(t, text[:at]+text[at+1:])
			}
		}
	}
}

// TestParseShort goes through all texts of up to eight of the bytes of which texts consist.
func TestParseShort(t *testing.T) {
	level := []string{""}
	for range 8 {
		var next []string
		for _, s := range level {
			for _, letter := range "-01/ " {
				next = append(next, s+string(letter))
			}
		}
		for _, s := range next {
			checkParse(t, s)
		}
		level = next
	}
}

func TestParseInvalid(t *testing.T) {
	for _, s := range []string{
		"", " ", "/", "/ 0", " / 0", "1- / 0", "-- / ", "-- /", "--  / 0", "-- / 0 / 0", "-- -/ 0", "-- / 1", "-- 0",
		"-- / - - - -", "8- / 0", "-8 / 0", "-- / 8", "9- / 0", "-- -- -- -- -- -- -- -- -- / -", "8- -- -- -- -- -- -- -- / -",
		"-- -- -- -- -- -- -- -- / 8", "-- / 0\n", "\n-- / 0", " -- / 0", "-- / 0 ", "--\t/ 0", "--/ 0", "-- /0", "-- / -1", "-1 / 0",
		"-- -- / 2", "2- -- / -", "-- -2 / -", "- / 0", "--- / 0", "-- / 00", "-- / --", "a- / 0", "-- / a", "-- / +", "−− / 0", "-- / 0\x00",
		"-- / \xff", "\xff\xff / 0", "٠- / 0", strings.Repeat("-- ", 9) + "/ 0", strings.Repeat("-- ", 100000) + "/ 0",
		"-- /" + strings.Repeat(" -", 100000), strings.Repeat("-", 100000), strings.Repeat(" ", 100000),
	} {
		if isHeapText(s) {
			t.Fatalf("%.40q is a text of a heap", s)
		}
		checkParse(t, s)
	}
}

func TestParseOwnMemory(t *testing.T) {
	for _, h := range someHeaps(t) {
		text := impl.FormatHeap(h)
		first := mustParse(t, text)
		checkOwnMemory(t, "ParseHeap", heapLists(first)...)
		if second := mustParse(t, text); !equalHeaps(second, h) {
			t.Errorf("ParseHeap(%q) shares memory from call to call", text)
		}
	}
}

// TestReadersChangeNothing holds for the functions that return no heap.
func TestReadersChangeNothing(t *testing.T) {
	for what, h := range goodAndBadHeaps(t) {
		argument := roomyHeap(h)
		impl.HeapValid(argument)
		impl.HeapSame(argument, argument)
		impl.CountPointers(argument)
		impl.FormatHeap(argument)
		for _, p := range putters {
			p.put(argument, 0, 0)
			p.put(argument, 9, 9)
		}
		if !isRoomyHeapOf(argument, h) {
			t.Errorf("%s: a function changes its argument", what)
		}
	}
}
