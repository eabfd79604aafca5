package impl

import (
	"slices"
	"strings"
)

// Heap has cells with two pointers each, and roots.
type Heap struct {
	Left  []int
	Right []int
	Roots []int
}

// Limits of heaps, and the pointer to nothing.
const (
	None     = -1
	MaxCells = 8
	MaxRoots = 3
)

// NewHeap returns a heap whose pointers all point to nothing.
func NewHeap(cells int, roots int) (Heap, bool) {
	if !sizesValid(cells, roots) {
		return Heap{}, false
	}
	return Heap{Left: nonePointers(cells), Right: nonePointers(cells), Roots: nonePointers(roots)}, true
}

// HeapValid reports whether a heap is valid.
func HeapValid(h Heap) bool {
	cells := len(h.Left)
	if len(h.Right) != cells || !sizesValid(cells, len(h.Roots)) {
		return false
	}
	return pointersValid(h.Left, cells) && pointersValid(h.Right, cells) && pointersValid(h.Roots, cells)
}

// HeapSame reports whether two heaps are equal.
func HeapSame(a Heap, b Heap) bool {
	return slices.Equal(a.Left, b.Left) && slices.Equal(a.Right, b.Right) && slices.Equal(a.Roots, b.Roots)
}

// PutLeft changes the left pointer of a cell.
func PutLeft(h Heap, cell int, to int) (Heap, bool) {
	if !canPut(h, h.Left, cell, to) {
		return Heap{}, false
	}
	changed := copyOfHeap(h)
	changed.Left[cell] = to
	return changed, true
}

// PutRight changes the right pointer of a cell.
func PutRight(h Heap, cell int, to int) (Heap, bool) {
	if !canPut(h, h.Right, cell, to) {
		return Heap{}, false
	}
	changed := copyOfHeap(h)
	changed.Right[cell] = to
	return changed, true
}

// PutRoot changes a root.
func PutRoot(h Heap, root int, to int) (Heap, bool) {
	if !canPut(h, h.Roots, root, to) {
		return Heap{}, false
	}
	changed := copyOfHeap(h)
	changed.Roots[root] = to
	return changed, true
}

// CountPointers returns how many pointers point to something.
func CountPointers(h Heap) int {
	if !HeapValid(h) {
		return 0
	}
	return countNotNone(h.Left) + countNotNone(h.Right) + countNotNone(h.Roots)
}

// FormatHeap returns the text of a heap.
func FormatHeap(h Heap) string {
	if !HeapValid(h) {
		return ""
	}
	var text strings.Builder
	for cell := range h.Left {
		text.WriteByte(pointerLetter(h.Left[cell]))
		text.WriteByte(pointerLetter(h.Right[cell]))
		text.WriteByte(' ')
	}
	text.WriteByte('/')
	for _, root := range h.Roots {
		text.WriteByte(' ')
		text.WriteByte(pointerLetter(root))
	}
	return text.String()
}

// ParseHeap parses a heap.
func ParseHeap(s string) (Heap, bool) {
	reader := newHeapReader(s)
	if !reader.readCells() || !reader.readRoots() || !reader.complete() {
		return Heap{}, false
	}
	return reader.heap(), true
}

func sizesValid(cells int, roots int) bool {
	return cells >= 1 && cells <= MaxCells && roots >= 1 && roots <= MaxRoots
}

func pointerValid(pointer int, cells int) bool {
	return pointer == None || pointer >= 0 && pointer < cells
}

func pointersValid(pointers []int, cells int) bool {
	for _, pointer := range pointers {
		if !pointerValid(pointer, cells) {
			return false
		}
	}
	return true
}

// canPut takes pointers, the ones of h among which one is to be changed.
func canPut(h Heap, pointers []int, at int, to int) bool {
	return HeapValid(h) && hasPlace(pointers, at) && pointerValid(to, len(h.Left))
}

func hasPlace(list []int, at int) bool {
	return at >= 0 && at < len(list)
}

func nonePointers(count int) []int {
	pointers := make([]int, count)
	for i := range pointers {
		pointers[i] = None
	}
	return pointers
}

func countNotNone(pointers []int) int {
	count := 0
	for _, pointer := range pointers {
		if pointer != None {
			count++
		}
	}
	return count
}

func copyOfInts(list []int) []int {
	copied := make([]int, len(list))
	copy(copied, list)
	return copied
}

func copyOfHeap(h Heap) Heap {
	return Heap{Left: copyOfInts(h.Left), Right: copyOfInts(h.Right), Roots: copyOfInts(h.Roots)}
}

// pointerLetter is one byte for every pointer, because MaxCells is less than ten.
func pointerLetter(pointer int) byte {
	if pointer == None {
		return '-'
	}
	return byte('0' + pointer)
}

// A cellNode is a cell while a heap is read.
type cellNode struct {
	number int
	left   *cellNode
	right  *cellNode
}

// numberOrNone gives a node that is nil, the pointer to nothing, its number too.
func (n *cellNode) numberOrNone() int {
	if n == nil {
		return None
	}
	return n.number
}

// A heapReader has nodes for as many cells as there can be, because a pointer
// may be read before it is known how many cells there are.
type heapReader struct {
	text    string
	at      int
	nodes   [MaxCells]cellNode
	pointed [MaxCells]bool
	cells   int
	roots   [MaxRoots]*cellNode
	rooted  int
}

func newHeapReader(s string) *heapReader {
	reader := &heapReader{text: s}
	for number := range reader.nodes {
		reader.nodes[number].number = number
	}
	return reader
}

// readLetter moves behind the letter if it is the next one, and only then.
func (r *heapReader) readLetter(letter byte) bool {
	if r.at >= len(r.text) || r.text[r.at] != letter {
		return false
	}
	r.at++
	return true
}

// readPointer marks the node that is pointed at, so that complete can tell
// whether it is a cell of the heap.
func (r *heapReader) readPointer() (*cellNode, bool) {
	if r.readLetter('-') {
		return nil, true
	}
	for number := range r.nodes {
		if r.readLetter(pointerLetter(number)) {
			r.pointed[number] = true
			return &r.nodes[number], true
		}
	}
	return nil, false
}

// readCells reads up to the slash, and past it.
func (r *heapReader) readCells() bool {
	for !r.readLetter('/') {
		if r.cells == MaxCells || !r.readCell(&r.nodes[r.cells]) {
			return false
		}
		r.cells++
	}
	return true
}

func (r *heapReader) readCell(node *cellNode) bool {
	var leftRead, rightRead bool
	node.left, leftRead = r.readPointer()
	node.right, rightRead = r.readPointer()
	return leftRead && rightRead && r.readLetter(' ')
}

// readRoots reads up to the end of the text.
func (r *heapReader) readRoots() bool {
	for r.at < len(r.text) {
		if r.rooted == MaxRoots || !r.readLetter(' ') {
			return false
		}
		root, read := r.readPointer()
		if !read {
			return false
		}
		r.roots[r.rooted] = root
		r.rooted++
	}
	return true
}

func (r *heapReader) complete() bool {
	if !sizesValid(r.cells, r.rooted) {
		return false
	}
	for _, beyond := range r.pointed[r.cells:] {
		if beyond {
			return false
		}
	}
	return true
}

func (r *heapReader) heap() Heap {
	h := Heap{Left: make([]int, r.cells), Right: make([]int, r.cells), Roots: make([]int, r.rooted)}
	for cell := range h.Left {
		h.Left[cell] = r.nodes[cell].left.numberOrNone()
		h.Right[cell] = r.nodes[cell].right.numberOrNone()
	}
	for i := range h.Roots {
		h.Roots[i] = r.roots[i].numberOrNone()
	}
	return h
}
