package tests

import (
	"math"
	"math/rand/v2"
	"slices"
	"strconv"
	"strings"
	"testing"

	"loop.example/cellcollector/impl"
)

// opWords are the words of the document's table, by their Kind.
var opWords = []string{"", "new", "copy", "left", "right", "putleft", "putright", "clear"}

func op(kind, a, b int) impl.Op {
	return impl.Op{Kind: kind, A: a, B: b}
}

// alone reports whether operations of this kind have no root B.
func alone(kind int) bool {
	return kind == 1 || kind == 7
}

// validOps returns all operations that are valid for so many roots.
func validOps(roots int) []impl.Op {
	var list []impl.Op
	for kind := 1; kind <= 7; kind++ {
		for a := range roots {
			for b := range roots {
				if b == 0 || !alone(kind) {
					list = append(list, op(kind, a, b))
				}
			}
		}
	}
	return list
}

// badOps returns operations that are valid for no number of roots, each for one reason.
func badOps() map[string]impl.Op {
	list := map[string]impl.Op{"the zero value": {}}
	for _, number := range []int{math.MinInt, -2, -1, 3, 4, 1 << 32, 1<<32 + 1, 1<<8 + 1, math.MaxInt} {
		for kind := 1; kind <= 7; kind++ {
			text := opWords[kind] + " " + strconv.Itoa(number)
			list[text] = op(kind, number, 0)
			list[text+" as B"] = op(kind, 0, number)
		}
	}
	for _, kind := range []int{math.MinInt, -7, -1, 8, 9, 1<<8 + 1, 1<<32 + 1, 1<<32 + 7, math.MaxInt} {
		list["the kind "+strconv.Itoa(kind)] = op(kind, 0, 0)
	}
	for _, kind := range []int{1, 7} {
		list[opWords[kind]+" with B 1"] = op(kind, 0, 1)
		list[opWords[kind]+" with B 2"] = op(kind, 2, 2)
	}
	return list
}

// opText is the document's FormatOp, for a valid operation.
func opText(o impl.Op) string {
	text := opWords[o.Kind] + " " + strconv.Itoa(o.A)
	if !alone(o.Kind) {
		text += " " + strconv.Itoa(o.B)
	}
	return text
}

func opsText(list []impl.Op) string {
	var texts []string
	for _, o := range list {
		texts = append(texts, opText(o))
	}
	return strings.Join(texts, ", ")
}

// opsByText returns all operations that have a text, by it.
func opsByText() map[string]impl.Op {
	list := map[string]impl.Op{}
	for _, o := range validOps(3) {
		list[opText(o)] = o
	}
	return list
}

func mustOps(t *testing.T, text string) []impl.Op {
	t.Helper()
	list, ok := impl.ParseOps(text)
	if !ok {
		t.Fatalf("ParseOps(%q) returns false", text)
	}
	return list
}

// done returns the store after an operation as the document's table tells it, and how it ends.
func done(s impl.Store, o impl.Op) (impl.Store, int) {
	h := cloneHeap(s.Heap)
	free := slices.Clone(s.Free)
	a := h.Roots[o.A]
	b := h.Roots[o.B]
	switch {
	case o.Kind == 1 && len(free) == 0:
		return store(h, free...), 1
	case (o.Kind == 3 || o.Kind == 4) && b == -1, (o.Kind == 5 || o.Kind == 6) && a == -1:
		return store(h, free...), 2
	}
	switch o.Kind {
	case 1:
		h.Roots[o.A] = free[0]
		free = free[1:]
	case 2:
		h.Roots[o.A] = b
	case 3:
		h.Roots[o.A] = h.Left[b]
	case 4:
		h.Roots[o.A] = h.Right[b]
	case 5:
		h.Left[a] = b
	case 6:
		h.Right[a] = b
	case 7:
		h.Roots[o.A] = -1
	}
	return store(h, free...), 0
}

// target is the document's TargetOf, for a valid store and a valid operation.
func target(s impl.Store, o impl.Op) int {
	if (o.Kind == 5 || o.Kind == 6) && s.Heap.Roots[o.A] != -1 {
		return s.Heap.Roots[o.B]
	}
	return -1
}

// checkOp compares what an operation does with the document's words; it is promise 5 as well.
func checkOp(t *testing.T, s impl.Store, o impl.Op) {
	t.Helper()
	want, ends := done(s, o)
	got, ended, ok := impl.RunOp(s, o)
	if !ok || ended != ends || !equalStores(got, want) {
		t.Fatalf("%v: RunOp(%v) = %v, %d, %v, not %v, %d", s, o, got, ended, ok, want, ends)
	}
	if !impl.StoreValid(got) {
		t.Fatalf("%v: RunOp(%v) = %v, which is not valid", s, o, got)
	}
	if ended != 0 && !equalStores(got, s) {
		t.Fatalf("%v: RunOp(%v) = %v, %d, though nothing was executed", s, o, got, ended)
	}
	if got := impl.TargetOf(s, o); got != target(s, o) {
		t.Fatalf("%v: TargetOf(%v) = %d", s, o, got)
	}
}

// checkOps compares what operations do with the document's words; it is promise 5 as well.
func checkOps(t *testing.T, s impl.Store, list []impl.Op) {
	t.Helper()
	want := s
	count := 0
	for _, o := range list {
		next, ends := done(want, o)
		if ends != 0 {
			break
		}
		want = next
		count++
	}
	got, executed, ok := impl.RunOps(s, list)
	if !ok || executed != count || !equalStores(got, want) || !impl.StoreValid(got) {
		t.Fatalf("%v: RunOps(%q) = %v, %d, %v, not %v, %d", s, opsText(list), got, executed, ok, want, count)
	}
}

func TestOpNumbers(t *testing.T) {
	kinds := []int{impl.OpNew, impl.OpCopy, impl.OpLeft, impl.OpRight, impl.OpPutLeft, impl.OpPutRight, impl.OpClear}
	if !slices.Equal(kinds, []int{1, 2, 3, 4, 5, 6, 7}) {
		t.Errorf("the kinds are %v", kinds)
	}
	if impl.DoneOk != 0 || impl.DoneFull != 1 || impl.DoneNone != 2 || impl.MaxOps != 12 {
		t.Errorf("DoneOk, DoneFull, DoneNone, MaxOps = %d, %d, %d, %d", impl.DoneOk, impl.DoneFull, impl.DoneNone, impl.MaxOps)
	}
}

func TestOpValid(t *testing.T) {
	for roots := -2; roots <= 6; roots++ {
		valid := validOps(max(0, min(roots, 3)))
		for kind := -2; kind <= 10; kind++ {
			for a := -2; a <= 6; a++ {
				for b := -2; b <= 6; b++ {
					o := op(kind, a, b)
					if got := impl.OpValid(o, roots); got != slices.Contains(valid, o) {
						t.Errorf("OpValid(%v, %d) = %v", o, roots, got)
					}
				}
			}
		}
	}
	for _, o := range validOps(3) {
		if !impl.OpValid(o, math.MaxInt) || !impl.OpValid(o, 1<<32) {
			t.Errorf("OpValid(%v) = false for the greatest number of roots", o)
		}
		if impl.OpValid(o, math.MinInt) || impl.OpValid(o, -1<<32) {
			t.Errorf("OpValid(%v) = true for the least number of roots", o)
		}
	}
}

func TestBadOps(t *testing.T) {
	for reason, o := range badOps() {
		for _, roots := range []int{math.MinInt, 0, 1, 2, 3, 4, math.MaxInt} {
			if impl.OpValid(o, roots) {
				t.Errorf("%s: OpValid(%v, %d) = true", reason, o, roots)
			}
		}
		if got := impl.FormatOp(o); got != "" {
			t.Errorf("%s: FormatOp(%v) = %q", reason, o, got)
		}
	}
}

func TestOpTexts(t *testing.T) {
	texts := opsByText()
	if len(texts) != 51 {
		t.Fatalf("there are %d texts", len(texts))
	}
	for text, o := range texts {
		if got := impl.FormatOp(o); got != text {
			t.Errorf("FormatOp(%v) = %q, not %q", o, got, text)
		}
		if got, ok := impl.ParseOp(text); !ok || got != o {
			t.Errorf("ParseOp(%q) = %v, %v", text, got, ok)
		}
	}
	for _, c := range []struct {
		op   impl.Op
		text string
	}{
		{op(1, 0, 0), "new 0"}, {op(2, 0, 1), "copy 0 1"}, {op(3, 1, 0), "left 1 0"}, {op(4, 2, 2), "right 2 2"},
		{op(5, 0, 0), "putleft 0 0"}, {op(6, 1, 2), "putright 1 2"}, {op(7, 2, 0), "clear 2"},
	} {
		if got := impl.FormatOp(c.op); got != c.text {
			t.Errorf("FormatOp(%v) = %q, not %q", c.op, got, c.text)
		}
	}
}

// everyChange calls see with each text that differs from this one by one byte, which is changed, added or missing.
func everyChange(text string, see func(string)) {
	for at := range len(text) + 1 {
		for letter := range 256 {
			see(text[:at] + string([]byte{byte(letter)}) + text[at:])
			if at < len(text) {
				see(text[:at] + string([]byte{byte(letter)}) + text[at+1:])
			}
		}
		if at < len(text) {
			see(text[:at] + text[at+1:])
		}
	}
}

// everyText calls see with each text of at most so many parts.
func everyText(parts []string, most int, text string, see func(string)) {
	see(text)
	for _, part := range parts {
		if most > 0 {
			everyText(parts, most-1, text+part, see)
		}
	}
}

func checkParseOp(t *testing.T, text string, texts map[string]impl.Op) {
	t.Helper()
	want, wants := texts[text]
	if got, ok := impl.ParseOp(text); ok != wants || got != want {
		t.Fatalf("ParseOp(%q) = %v, %v", text, got, ok)
	}
}

func TestParseOpOfOtherTexts(t *testing.T) {
	texts := opsByText()
	for _, text := range []string{
		"", " ", ",", "0", "new", "new ", "newt 0", "ne 0", "new0", "New 0", "NEW 0", "new 0 ", " new 0", "new  0", "new\t0", "new\n0",
		"new 0\n", "new 0\r", "new 0\x00", "new\x000", "new\u00a00", "new \uff10", "new \u0660", "\ufeffnew 0", "new 0\xff", "\xffnew 0",
		"new 3", "new 8", "new 00", "new 01", "new 10", "new 0.", "new 0x0", "new 0b0", "new 0e0", "new 1_0", "new +0", "new +1", "new -0", "new -1", "new - 1",
		"new 256", "new 4294967296", "new 18446744073709551616", "new -18446744073709551615", "new a", "new /", "new :", "new root",
		"new 0 0", "new 0 1", "clear 1 0", "clear 1 1", "copy", "copy ", "copy 0", "copy 0 ", "copy 0  1", "copy 0 3", "copy 3 0", "copy 0 1 2", "copy 0 1 0",
		"copy 01", "copy 0,1", "copy 0, 1", "copy 0-1", "copy 0 -1", "copy 0 +1", "copy 0 01", "copy 00 1", "copy 0 1,", ",copy 0 1", "copy, 0 1",
		"put 0 1", "put left 0 1", "putLeft 0 1", "put-left 0 1", "putnew 0", "leftput 0 1", "leftt 0 1", "read 0 1", "jump 0", "drop 0", "free 0", "alloc 0",
		"1 0", "1 0 0", "5 0 1", "new 0, new 1", "new 0new 0", "new 0 new 1", "(new 0)", "\"new 0\"", "new 0;", "new 0 # a cell",
		strings.Repeat("new 0", 2000), "new " + strings.Repeat("0", 2000), strings.Repeat(" ", 2000),
	} {
		if got, ok := impl.ParseOp(text); ok || got != (impl.Op{}) {
			t.Errorf("ParseOp(%q) = %v, %v", text, got, ok)
		}
	}
	for text := range texts {
		everyChange(text, func(other string) { checkParseOp(t, other, texts) })
	}
	everyText([]string{"new", "copy", "putleft", "clear", " ", "0", "2", "3", ","}, 5, "", func(text string) { checkParseOp(t, text, texts) })
}

func TestOpsOfSmallStores(t *testing.T) {
	for _, size := range [][2]int{{1, 1}, {1, 2}, {1, 3}, {2, 1}, {2, 2}, {2, 3}, {3, 1}} {
		list := validOps(size[1])
		everyHeap(size[0], size[1], func(h impl.Heap) {
			everyFree(looseCells(h), nil, func(free []int) {
				for _, o := range list {
					checkOp(t, store(h, free...), o)
				}
			})
		})
	}
}

func TestOpsOfAllSizes(t *testing.T) {
	for _, s := range mixedStores(5000) {
		for _, o := range validOps(len(s.Heap.Roots)) {
			checkOp(t, s, o)
		}
	}
}

func TestTwoOpsOfSmallStores(t *testing.T) {
	for _, size := range [][2]int{{1, 1}, {1, 2}, {2, 1}} {
		list := validOps(size[1])
		everyHeap(size[0], size[1], func(h impl.Heap) {
			everyFree(looseCells(h), nil, func(free []int) {
				s := store(h, free...)
				for _, first := range list {
					checkOps(t, s, []impl.Op{first})
					for _, second := range list {
						checkOps(t, s, []impl.Op{first, second})
					}
				}
			})
		})
	}
}

// mixedOps returns rows of operations that are valid for so many roots, the same in each run.
func mixedOps(count, roots int) [][]impl.Op {
	random := rand.New(rand.NewPCG(7, uint64(roots)))
	valid := validOps(roots)
	list := make([][]impl.Op, count)
	for i := range list {
		for range random.IntN(13) {
			list[i] = append(list[i], valid[random.IntN(len(valid))])
		}
	}
	return list
}

func TestProgramsOfAllSizes(t *testing.T) {
	var programs [4][][]impl.Op
	for roots := 1; roots <= 3; roots++ {
		programs[roots] = mixedOps(20000, roots)
	}
	for i, s := range mixedStores(20000) {
		roots := len(s.Heap.Roots)
		checkOps(t, s, programs[roots][i])
		empty, _ := impl.NewStore(len(s.Heap.Left), roots)
		checkOps(t, empty, programs[roots][i])
	}
}

func TestRunOp(t *testing.T) {
	for _, c := range []struct {
		what  string
		text  string
		free  []int
		op    string
		want  string
		ended int
	}{
		{"a new cell", "-- -- / -", []int{1, 0}, "new 0", "-- -- / 1 free 0", 0},
		{"a new cell, and the old one is leaked", "0- -- / 0", []int{1}, "new 0", "0- -- / 1 free", 0},
		{"no free cell", "-- / -", nil, "new 0", "-- / - free", 1},
		{"no free cell, and a root keeps its cell", "-- 0- / 1 0", nil, "new 0", "-- 0- / 1 0 free", 1},
		{"a root is copied", "-- -- / 0 1", nil, "copy 0 1", "-- -- / 1 1 free", 0},
		{"a root is copied to the one before", "-- -- / 0 1", nil, "copy 1 0", "-- -- / 0 0 free", 0},
		{"a root that points to nothing is copied", "-- -- / 0 -", nil, "copy 0 1", "-- -- / - - free", 0},
		{"a root is copied to itself", "-- -- / 1", nil, "copy 0 0", "-- -- / 1 free", 0},
		{"a left pointer is read", "12 -- -- / 0 -", nil, "left 1 0", "12 -- -- / 0 1 free", 0},
		{"a right pointer is read", "12 -- -- / 0 -", nil, "right 1 0", "12 -- -- / 0 2 free", 0},
		{"a pointer of the cell of the same root is read", "1- -- / 0", nil, "left 0 0", "1- -- / 1 free", 0},
		{"a left pointer to nothing is read", "-1 -- / 0 1", nil, "left 1 0", "-1 -- / 0 - free", 0},
		{"a right pointer to nothing is read", "1- -- / 0 1", nil, "right 1 0", "1- -- / 0 - free", 0},
		{"a left pointer is read where there is nothing", "1- -- / 0 -", nil, "left 0 1", "1- -- / 0 - free", 2},
		{"a right pointer is read where there is nothing", "-1 -- / 0 -", nil, "right 0 1", "-1 -- / 0 - free", 2},
		{"a left pointer is put", "-- -- / 0 1", nil, "putleft 0 1", "1- -- / 0 1 free", 0},
		{"a right pointer is put", "-- -- / 0 1", nil, "putright 0 1", "-1 -- / 0 1 free", 0},
		{"a left pointer is put over another one", "12 -- -- / 0 2", nil, "putleft 0 1", "22 -- -- / 0 2 free", 0},
		{"a cell is put into itself on the left", "-- -- / - 1", nil, "putleft 1 1", "-- 1- / - 1 free", 0},
		{"a cell is put into itself on the right", "0- / 0", nil, "putright 0 0", "00 / 0 free", 0},
		{"a cell is put into itself by two roots", "-- / 0 0", nil, "putleft 0 1", "0- / 0 0 free", 0},
		{"nothing is put on the left", "11 -- / 0 -", nil, "putleft 0 1", "-1 -- / 0 - free", 0},
		{"nothing is put on the right", "11 -- / 0 -", nil, "putright 0 1", "1- -- / 0 - free", 0},
		{"a left pointer is put where there is nothing", "-- -- / - 1", nil, "putleft 0 1", "-- -- / - 1 free", 2},
		{"a right pointer is put where there is nothing", "-- -- / - 1", nil, "putright 0 1", "-- -- / - 1 free", 2},
		{"nothing is put where there is nothing", "-- / -", nil, "putleft 0 0", "-- / - free", 2},
		{"a root is cleared", "0- / 0 0", nil, "clear 0", "0- / - 0 free", 0},
		{"a root that points to nothing is cleared", "-- / -", []int{0}, "clear 0", "-- / - free 0", 0},
		{"the last root of eight cells", "77 -- -- -- -- -- -- -- / 0 - 1", []int{6, 5}, "right 2 0", "77 -- -- -- -- -- -- -- / 0 - 7 free 6 5", 0},
	} {
		o, parsed := impl.ParseOp(c.op)
		got, ended, ok := impl.RunOp(store(mustParse(t, c.text), c.free...), o)
		if !parsed || !ok || ended != c.ended || impl.FormatStore(got) != c.want {
			t.Errorf("%s: RunOp(%q) = %q, %d, %v", c.what, c.op, impl.FormatStore(got), ended, ok)
		}
	}
}

func TestTargetOf(t *testing.T) {
	for _, c := range []struct {
		what string
		text string
		op   impl.Op
		want int
	}{
		{"a left pointer", "-- -- / 0 1", op(5, 0, 1), 1},
		{"a right pointer", "-- -- / 0 1", op(6, 1, 0), 0},
		{"what is there already", "1- -- / 0 1", op(5, 0, 1), 1},
		{"a cell into itself", "-- -- / 1", op(6, 0, 0), 1},
		{"nothing into a cell", "11 -- / 0 -", op(5, 0, 1), -1},
		{"a cell into nothing", "-- -- / - 1", op(5, 0, 1), -1},
		{"a cell into nothing, on the right", "-- -- / - 0", op(6, 0, 1), -1},
		{"nothing into nothing", "-- / -", op(6, 0, 0), -1},
		{"a new cell", "-- / 0", op(1, 0, 0), -1},
		{"a root", "-- -- / 0 1", op(2, 0, 1), -1},
		{"a left pointer that is read", "1- -- / 0 1", op(3, 0, 0), -1},
		{"a right pointer that is read", "-1 -- / 0 1", op(4, 0, 0), -1},
		{"a root that is cleared", "-- / 0", op(7, 0, 0), -1},
		{"no such root A", "-- -- / 0 1", op(5, 2, 1), -1},
		{"no such root B", "-- -- / 0 1", op(5, 0, 2), -1},
	} {
		if got := impl.TargetOf(store(mustParse(t, c.text)), c.op); got != c.want {
			t.Errorf("%s: TargetOf = %d", c.what, got)
		}
	}
}

func TestRunOps(t *testing.T) {
	for _, c := range []struct {
		what  string
		cells int
		roots int
		ops   string
		want  string
		count int
	}{
		{"no operations", 2, 1, "", "-- -- / - free 0 1", 0},
		{"the example of the document", 3, 2, "new 0, new 1, putleft 0 1, clear 1", "1- -- -- / 0 - free 2", 4},
		{"no free cell after one", 1, 2, "new 0, new 1, clear 0", "-- / 0 - free", 1},
		{"no free cell at the end", 2, 1, "new 0, new 0, new 0", "-- -- / 1 free", 2},
		{"a root that points to nothing at once", 2, 2, "putleft 0 1, new 0", "-- -- / - - free 0 1", 0},
		{"a root that points to nothing later", 2, 2, "new 0, clear 0, left 1 0, new 1", "-- -- / - - free 1", 2},
		{"a pointer to nothing is read, and then read from", 1, 2, "new 0, left 1 0, left 0 1, clear 0", "-- / 0 - free", 2},
		{"only the first end counts", 2, 2, "new 0, right 0 1, new 1, left 0 1", "-- -- / 0 - free 1", 1},
		{"a cell that is put into itself, and lost", 1, 1, "new 0, putleft 0 0, putright 0 0, clear 0", "00 / - free", 4},
		{"a circle of two", 2, 2, "new 0, new 1, putleft 0 1, putleft 1 0, clear 0, left 1 1", "1- 0- / - 0 free", 6},
		{"a list, from its end", 3, 2, "new 0, new 1, putright 1 0, copy 0 1, new 1, putright 1 0, copy 0 1, clear 1", "-- -0 -1 / 2 - free", 8},
		{"eight cells", 8, 3, "new 0, new 0, new 0, new 0, new 0, new 0, new 0, new 2", "-- -- -- -- -- -- -- -- / 6 - 7 free", 8},
	} {
		s, _ := impl.NewStore(c.cells, c.roots)
		got, count, ok := impl.RunOps(s, mustOps(t, c.ops))
		if !ok || count != c.count || impl.FormatStore(got) != c.want {
			t.Errorf("%s: RunOps(%q) = %q, %d, %v", c.what, c.ops, impl.FormatStore(got), count, ok)
		}
	}
}

func TestMaxOps(t *testing.T) {
	s, _ := impl.NewStore(2, 3)
	for _, o := range []impl.Op{op(7, 2, 0), op(1, 0, 0), op(5, 0, 0)} {
		for count := range 31 {
			list := slices.Repeat([]impl.Op{o}, count)
			fits := count <= 12
			if fits {
				checkOps(t, s, list)
			} else if got, executed, ok := impl.RunOps(s, list); ok || executed != 0 || !isZeroStore(got) {
				t.Errorf("RunOps of %d operations = %v, %d, %v", count, got, executed, ok)
			}
			text := opsText(list)
			want := ""
			if fits {
				want = text
			}
			if got := impl.FormatOps(list); got != want {
				t.Errorf("FormatOps of %d operations = %q", count, got)
			}
			got, ok := impl.ParseOps(text)
			if ok != fits || fits && !slices.Equal(got, list) || !fits && len(got) != 0 {
				t.Errorf("ParseOps of %d operations = %v, %v", count, got, ok)
			}
		}
	}
	many := slices.Repeat([]impl.Op{op(2, 0, 0)}, 100000)
	if got, executed, ok := impl.RunOps(s, many); ok || executed != 0 || !isZeroStore(got) {
		t.Errorf("RunOps of very many operations = %v, %d, %v", got, executed, ok)
	}
	if got, ok := impl.ParseOps(opsText(many)); ok || len(got) != 0 || impl.FormatOps(many) != "" {
		t.Errorf("ParseOps of very many operations = %v, %v", got, ok)
	}
}

// TestMaxRoots has the numbers of roots on both sides of each limit.
func TestMaxRoots(t *testing.T) {
	for roots := 1; roots <= 3; roots++ {
		s, _ := impl.NewStore(2, roots)
		valid := validOps(roots)
		for _, o := range validOps(3) {
			_, _, ran := impl.RunOp(s, o)
			_, _, ranAll := impl.RunOps(s, []impl.Op{o})
			fits := slices.Contains(valid, o)
			if ran != fits || ranAll != fits {
				t.Errorf("%d roots: RunOp and RunOps of %q return %v, %v", roots, opText(o), ran, ranAll)
			}
		}
	}
}

// checkNoOp checks all functions that take a store and an operation, where they return zero values.
func checkNoOp(t *testing.T, what string, s impl.Store, o impl.Op) {
	t.Helper()
	if got, ended, ok := impl.RunOp(s, o); ok || ended != 0 || !isZeroStore(got) {
		t.Errorf("%s: RunOp(%v, %v) = %v, %d, %v", what, s, o, got, ended, ok)
	}
	if got, executed, ok := impl.RunOps(s, []impl.Op{o}); ok || executed != 0 || !isZeroStore(got) {
		t.Errorf("%s: RunOps(%v, %v) = %v, %d, %v", what, s, o, got, executed, ok)
	}
	if got := impl.TargetOf(s, o); got != -1 {
		t.Errorf("%s: TargetOf(%v, %v) = %d", what, s, o, got)
	}
}

func TestOpsOfBadStores(t *testing.T) {
	for reason, s := range badStores() {
		for _, o := range append(validOps(3), impl.Op{}) {
			checkNoOp(t, reason, s, o)
		}
		if got, executed, ok := impl.RunOps(s, nil); ok || executed != 0 || !isZeroStore(got) {
			t.Errorf("%s: RunOps of no operations = %v, %d, %v", reason, got, executed, ok)
		}
	}
}

func TestBadOpsOfStores(t *testing.T) {
	for _, h := range someHeaps(t) {
		s := store(h, looseCells(h)...)
		roots := len(h.Roots)
		for reason, o := range badOps() {
			checkNoOp(t, reason, s, o)
		}
		for _, o := range validOps(3) {
			if o.A >= roots || o.B >= roots {
				checkNoOp(t, "no such root", s, o)
			}
		}
	}
}

// TestOneBadOp has an operation that is not valid at each place, before and after one that ends.
func TestOneBadOp(t *testing.T) {
	s, _ := impl.NewStore(1, 2)
	good := []impl.Op{op(1, 0, 0), op(5, 0, 0), op(1, 0, 0), op(3, 0, 1), op(7, 0, 0)}
	bad := badOps()
	bad["a root that the store does not have"] = op(2, 0, 2)
	for reason, o := range bad {
		for at := range len(good) + 1 {
			list := slices.Insert(slices.Clone(good), at, o)
			if got, executed, ok := impl.RunOps(s, list); ok || executed != 0 || !isZeroStore(got) {
				t.Errorf("%s at %d: RunOps = %v, %d, %v", reason, at, got, executed, ok)
			}
			if o != op(2, 0, 2) && impl.FormatOps(list) != "" {
				t.Errorf("%s at %d: FormatOps = %q", reason, at, impl.FormatOps(list))
			}
		}
	}
}

// opsIn returns the operations whose text is this one, by cutting it at a comma and a space.
func opsIn(text string, texts map[string]impl.Op) ([]impl.Op, bool) {
	if text == "" {
		return nil, true
	}
	var list []impl.Op
	for _, part := range strings.Split(text, ", ") {
		o, ok := texts[part]
		if !ok {
			return nil, false
		}
		list = append(list, o)
	}
	return list, len(list) <= 12
}

func checkParseOps(t *testing.T, text string, texts map[string]impl.Op) {
	t.Helper()
	want, wants := opsIn(text, texts)
	got, ok := impl.ParseOps(text)
	if ok != wants || wants && !slices.Equal(got, want) || !wants && len(got) != 0 {
		t.Fatalf("ParseOps(%q) = %v, %v", text, got, ok)
	}
	if ok && impl.FormatOps(got) != text {
		t.Fatalf("FormatOps of ParseOps(%q) = %q", text, impl.FormatOps(got))
	}
}

func TestOpsTexts(t *testing.T) {
	texts := opsByText()
	if got := impl.FormatOps(nil); got != "" {
		t.Errorf("FormatOps of no operations = %q", got)
	}
	if got := impl.FormatOps([]impl.Op{op(1, 0, 0), op(1, 1, 0), op(5, 0, 1), op(7, 1, 0)}); got != "new 0, new 1, putleft 0 1, clear 1" {
		t.Errorf("FormatOps = %q", got)
	}
	if got, ok := impl.ParseOps(""); !ok || len(got) != 0 {
		t.Errorf("ParseOps of the empty text = %v, %v", got, ok)
	}
	for _, list := range mixedOps(5000, 3) {
		text := opsText(list)
		if got := impl.FormatOps(list); got != text {
			t.Fatalf("FormatOps(%v) = %q", list, got)
		}
		checkParseOps(t, text, texts)
	}
}

func TestParseOpsOfOtherTexts(t *testing.T) {
	texts := opsByText()
	for _, text := range []string{
		" ", ",", ", ", ",,", ", ,", "new", "jump 0", "new 0,", "new 0, ", "new 0,  ", ", new 0", ",new 0", " new 0", "new 0 ", "new 0 , new 1", "new 0,new 1",
		"new 0,  new 1", "new 0,, new 1", "new 0, , new 1", "new 0; new 1", "new 0 new 1", "new 0\n", "new 0\nnew 1", "new 0,\nnew 1", "new 0,\tnew 1",
		"new 0,\u00a0new 1", "new 0\uff0c new 1", "new 0, new 1, ", "new 0, new 1,", "new 0, new 1 ", "new 0, new 3", "new 3, new 0", "new 0, new 00", "new 0, new +1",
		"new 0, new -1", "new 0, clear 0 0", "copy 0, 1", "copy 0, new 1", "new 0, copy 0", "new 0, putleft", "new 0, New 1", "none", "-", "new 0, new 1\x00", "\xff", "new 0\xff, new 1",
		"new 0,\xffnew 1", "new 0, \xff", "\x00", strings.Repeat(", ", 2000), strings.Repeat(",", 2000), strings.Repeat("new 0, ", 12), strings.Repeat("new 0, ", 12) + "new 0",
	} {
		if got, ok := impl.ParseOps(text); ok || len(got) != 0 {
			t.Errorf("ParseOps(%q) = %v, %v", text, got, ok)
		}
	}
	for _, text := range []string{"new 0", "clear 2, copy 0 1", "putright 0 1, left 2 2, new 1", strings.Repeat("new 0, ", 11) + "new 1"} {
		everyChange(text, func(other string) { checkParseOps(t, other, texts) })
	}
	everyText([]string{"new 0", "copy 1 2", ", ", ",", " ", "3", "0"}, 6, "", func(text string) { checkParseOps(t, text, texts) })
}

// roomyOps returns the list with unused capacity, which is filled with operations that are not valid.
func roomyOps(list []impl.Op) []impl.Op {
	return append(slices.Clip(slices.Clone(list)), slices.Repeat([]impl.Op{op(spare, spare, spare)}, 3)...)[:len(list)]
}

func isRoomyOpsOf(list, want []impl.Op) bool {
	return slices.Equal(list[:len(list)+3], roomyOps(want)[:len(want)+3])
}

func TestProgramsChangeNothing(t *testing.T) {
	programs := append(mixedOps(20, 1), nil, []impl.Op{op(1, 0, 0), op(5, 0, 0), op(1, 0, 0)}, []impl.Op{op(3, 0, 0)}, []impl.Op{{}})
	for what, s := range storesToChange(t) {
		argument := roomyStore(s)
		var lists [][]int
		for _, o := range append(validOps(3), impl.Op{}) {
			impl.TargetOf(argument, o)
			once, _, _ := impl.RunOp(argument, o)
			twice, _, _ := impl.RunOp(argument, o)
			lists = slices.Concat(lists, storeLists(once), storeLists(twice))
		}
		for _, program := range programs {
			list := roomyOps(program)
			end, _, _ := impl.RunOps(argument, list)
			again, _, _ := impl.RunOps(argument, list)
			lists = slices.Concat(lists, storeLists(end), storeLists(again))
			impl.FormatOps(list)
			if !isRoomyOpsOf(list, program) {
				t.Errorf("%s: a function changes the operations", what)
			}
		}
		checkOwnMemory(t, what, lists...)
		if !isRoomyStoreOf(argument, s) {
			t.Errorf("%s: a function changes its argument, or shares memory with it", what)
		}
	}
}

func TestParsedOpsAreNew(t *testing.T) {
	for _, text := range []string{"new 0", "new 0, new 1, putleft 0 1", strings.Repeat("clear 1, ", 11) + "clear 1"} {
		first := mustOps(t, text)
		second := mustOps(t, text)
		for i := range first[:cap(first)] {
			first[:cap(first)][i] = op(spare, spare, spare)
		}
		if impl.FormatOps(second) != text || impl.FormatOps(mustOps(t, text)) != text {
			t.Errorf("two results of ParseOps(%q) share memory", text)
		}
	}
}
