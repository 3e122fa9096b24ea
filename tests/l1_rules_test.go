package tests

import (
	"math"
	"reflect"
	"testing"

	"loop.example/spool/impl"
)

// The rules of chapter 1 once more, word by word and without any care for speed.

func slowRule(h impl.Heap) int {
	for i, holds := range []func(h impl.Heap) bool{slow1, slow2, slow3, slow4, slow5, slow6, slow7, slow8} {
		if !holds(h) {
			return i + 1
		}
	}
	return 0
}

func slow1(h impl.Heap) bool {
	if h.Room < 1 || h.Room > 4000 || len(h.Regs) != 16 {
		return false
	}
	if len(h.Cells) > 2*h.Room || len(h.Gray) > len(h.Cells) {
		return false
	}
	for _, n := range []int{h.Born, h.Rounds, h.Forced} {
		if n < 0 || n > 1000000000 {
			return false
		}
	}
	if h.Per < 0 || h.Per > 64 || h.Start < 0 || h.Start > 4000 || h.Phase < 0 || h.Phase > 6 {
		return false
	}
	return h.Hand >= 0 && h.Hand <= len(h.Cells) && h.Sub >= 0 && h.Sub <= 200
}

func slow2(h impl.Heap) bool {
	for i, c := range h.Cells {
		bare := c.Kind == 0 && c.Weak == 0 && c.Last == 0 && c.Born == 0 && c.Color == 0 && len(c.Pairs) == 0
		switch c.State {
		case 0:
			if !bare || c.To != 0 {
				return false
			}
		case 1:
			if !slowUsed(h, i) {
				return false
			}
		case 2:
			if !bare || !slowMoved(h, i) {
				return false
			}
		default:
			return false
		}
	}
	return true
}

func slowUsed(h impl.Heap, i int) bool {
	c := h.Cells[i]
	if c.Kind < 0 || c.Kind > 255 || c.Weak < 0 || c.Weak > 3 || c.Last < 0 || c.Last > 3 {
		return false
	}
	if c.Born < 1 || c.Born > h.Born || c.Color < 0 || c.Color > 2 || c.To != 0 || len(c.Pairs) > 200 {
		return false
	}
	for j, d := range h.Cells {
		if j != i && d.State == 1 && d.Born == c.Born {
			return false
		}
	}
	return true
}

func slowMoved(h impl.Heap, i int) bool {
	c := h.Cells[i]
	if h.Phase != 4 && h.Phase != 5 && h.Phase != 6 || c.To < 0 || c.To >= i || h.Cells[c.To].State != 1 {
		return false
	}
	for j, d := range h.Cells {
		if j != i && d.State == 2 && d.To == c.To {
			return false
		}
		if h.Phase == 4 && d.State == 0 && j < c.To {
			return false
		}
	}
	return true
}

func slow3(h impl.Heap) bool {
	sum := 0
	for _, c := range h.Cells {
		if c.State == 1 {
			sum += 1 + len(c.Pairs)
		}
	}
	return h.Used == sum && h.Used <= h.Room
}

func slowFormed(h impl.Heap, w impl.Word) bool {
	return w.Kind == 0 && w.Num == 0 && w.At == 0 ||
		w.Kind == 1 && w.At == 0 ||
		w.Kind == 2 && w.Num == 0 && w.At >= 0 && w.At < len(h.Cells)
}

func slowDoomed(h impl.Heap, i int) bool {
	return h.Phase == 3 && h.Cells[i].State == 1 && h.Cells[i].Color == 0 && i >= h.Hand
}

func slow4(h impl.Heap) bool {
	sound := func(w impl.Word) bool {
		return w.Kind != 2 || h.Cells[w.At].State == 1 && !slowDoomed(h, w.At)
	}
	for _, w := range h.Regs {
		if !slowFormed(h, w) || !sound(w) {
			return false
		}
	}
	for i, c := range h.Cells {
		if slowDoomed(h, i) && (c.Last == 1 || c.Last == 2) {
			return false
		}
		for j, p := range c.Pairs {
			unmended := h.Phase == 4 || h.Phase == 5 && !(i < h.Hand || i == h.Hand && j < h.Sub)
			for _, w := range []impl.Word{p.Key, p.Val} {
				if !slowFormed(h, w) {
					return false
				}
				toMoved := unmended && w.Kind == 2 && h.Cells[w.At].State == 2
				if !slowDoomed(h, i) && !sound(w) && !toMoved {
					return false
				}
			}
		}
	}
	return true
}

func slow5(h impl.Heap) bool {
	marking := h.Phase == 1 || h.Phase == 2
	for i, c := range h.Cells {
		times := 0
		for _, g := range h.Gray {
			if g == i {
				times++
			}
		}
		if marking && (c.Color == 1) != (times == 1) || times > 1 || !marking && c.Color == 1 {
			return false
		}
		if c.Color == 2 && !marking && (h.Phase != 3 || i < h.Hand) {
			return false
		}
	}
	for _, g := range h.Gray {
		if !marking || g < 0 || g >= len(h.Cells) {
			return false
		}
	}
	return true
}

func slow6(h impl.Heap) bool {
	switch h.Phase {
	case 0, 4:
		return h.Hand == 0 && h.Sub == 0
	case 2:
		if len(h.Gray) == 0 {
			return h.Hand == 0 && h.Sub == 0
		}
		return h.Hand == 0 && h.Sub <= len(h.Cells[h.Gray[0]].Pairs)
	case 5:
		if h.Hand < len(h.Cells) && h.Cells[h.Hand].State == 1 {
			return h.Sub <= len(h.Cells[h.Hand].Pairs)
		}
	}
	return h.Sub == 0
}

func slow7(h impl.Heap) bool {
	if h.Phase != 1 && h.Phase != 2 {
		return true
	}
	for i, c := range h.Cells {
		if c.Color == 0 && (c.Last == 1 || c.Last == 2) && (h.Phase == 2 || i < h.Hand) {
			return false
		}
		for j, p := range c.Pairs {
			gone := h.Phase == 2 && len(h.Gray) > 0 && h.Gray[0] == i && j < h.Sub
			for _, w := range []impl.Word{p.Key, p.Val} {
				if (c.Color == 2 || gone) && w.Kind == 2 && h.Cells[w.At].Color == 0 {
					return false
				}
			}
		}
	}
	return true
}

func slow8(h impl.Heap) bool {
	for i, c := range h.Cells {
		if h.Phase == 6 && i >= h.Hand && c.State == 2 {
			return false
		}
	}
	return true
}

func slowResolve(h impl.Heap, w impl.Word) impl.Word {
	if slowRule(h) != 0 || !slowFormed(h, w) {
		return impl.Word{}
	}
	if w.Kind == 2 {
		switch h.Cells[w.At].State {
		case 0:
			return impl.Word{}
		case 2:
			return impl.Word{Kind: 2, At: h.Cells[w.At].To}
		}
	}
	return w
}

// numbersOf goes through every number of a heap, however deep it lies.
func numbersOf(v reflect.Value, visit func(n reflect.Value)) {
	switch v.Kind() {
	case reflect.Int, reflect.Int64:
		visit(v)
	case reflect.Struct:
		for i := range v.NumField() {
			numbersOf(v.Field(i), visit)
		}
	case reflect.Slice:
		for i := range v.Len() {
			numbersOf(v.Index(i), visit)
		}
	}
}

func countNumbers(h impl.Heap) int {
	count := 0
	numbersOf(reflect.ValueOf(&h).Elem(), func(reflect.Value) { count++ })
	return count
}

// setNumber is a copy of the heap in which number k is another.
func setNumber(h impl.Heap, k int, value int64) impl.Heap {
	h = clone(h)
	i := 0
	numbersOf(reflect.ValueOf(&h).Elem(), func(n reflect.Value) {
		if i == k {
			n.SetInt(value)
		}
		i++
	})
	return h
}

// recounted has the Used and Gray that its cells ask for, so that later rules are come to.
func recounted(h impl.Heap) impl.Heap {
	h = clone(h)
	h.Used, h.Gray = 0, nil
	for i, c := range h.Cells {
		if c.State == impl.SUsed {
			h.Used += 1 + len(c.Pairs)
		}
		if c.Color == impl.CGray {
			h.Gray = append(h.Gray, i)
		}
	}
	return h
}

// against holds the program's answers against those of the slow rules, and counts them.
func against(t *testing.T, name string, h impl.Heap, seen *[9]int) {
	t.Helper()
	want := slowRule(h)
	seen[want]++
	if got := impl.HeapOk(h); got != want {
		t.Fatalf("%s: rule %d, want %d: %+v", name, got, want, h)
	}
	for _, w := range []impl.Word{num(3), at(-1), at(0), at(len(h.Cells) - 1), at(len(h.Cells))} {
		if got := impl.Resolve(h, w); got != slowResolve(h, w) {
			t.Fatalf("%s: %v leads to %v, want %v: %+v", name, w, got, slowResolve(h, w), h)
		}
	}
}

func wantAllSeen(t *testing.T, seen [9]int) {
	t.Helper()
	for rule, n := range seen {
		if n < 10 {
			t.Errorf("rule %d is answered %d times only", rule, n)
		}
	}
}

var telling = []int64{
	math.MinInt64, -1, 0, 1, 2, 3, 4, 5, 6, 7, 8, 16, 64, 65, 200, 201, 255, 256,
	4000, 4001, 1000000000, 1000000001, 1 << 32, math.MaxInt64,
}

func TestEachNumberSpoiled(t *testing.T) {
	var seen [9]int
	for _, s := range soundHeaps() {
		for k := range countNumbers(s.heap) {
			for _, value := range telling {
				h := setNumber(s.heap, k, value)
				against(t, s.name, h, &seen)
				against(t, s.name, recounted(h), &seen)
			}
		}
	}
	wantAllSeen(t, seen)
}

// dice gives the same numbers at every run.
type dice uint64

func (d *dice) below(n int) int {
	*d = *d*6364136223846793005 + 1442695040888963407
	return int(uint64(*d) >> 33 % uint64(n))
}

func TestSeveralNumbersSpoiled(t *testing.T) {
	var seen [9]int
	d := dice(1)
	all := soundHeaps()
	for range 60000 {
		s := all[d.below(len(all))]
		h := s.heap
		for range 1 + d.below(4) {
			h = setNumber(h, d.below(countNumbers(h)), int64(d.below(7)))
		}
		if d.below(3) > 0 {
			h = recounted(h)
		}
		against(t, s.name, h, &seen)
	}
	wantAllSeen(t, seen)
}

// thrown is a heap of a few cells of any kind; most are not far from sound.
func thrown(d *dice) impl.Heap {
	size := 1 + d.below(6)
	word := func() impl.Word {
		if d.below(3) == 0 {
			return num(int64(d.below(3)))
		}
		return at(d.below(size))
	}
	phase := d.below(7)
	var cells []impl.Cell
	for i := range size {
		c := used(1 + i)
		c.Last = d.below(4) * d.below(2)
		if phase >= impl.PRoots && phase <= impl.PSweep {
			c.Color = d.below(3)
		}
		for range d.below(4) {
			c.Pairs = append(c.Pairs, pair(word(), word()))
		}
		switch d.below(8) {
		case 0:
			c = free()
		case 1:
			c = moved(d.below(size))
		}
		cells = append(cells, c)
	}
	h := recounted(heapOf(phase, cells...))
	h.Room = 3 + d.below(20)
	h.Hand = d.below(size + 1)
	h.Sub = d.below(2) * d.below(4)
	h.Regs[d.below(impl.MaxRegs)] = word()
	return h
}

func TestThrownHeaps(t *testing.T) {
	var seen [9]int
	d := dice(2)
	for range 150000 {
		h := thrown(&d)
		if h.Phase == impl.PIdle || h.Phase == impl.PMark || h.Phase == impl.PMove {
			h.Hand *= d.below(2)
		}
		if h.Phase != impl.PMark && h.Phase != impl.PMend {
			h.Sub *= d.below(2)
		}
		if len(h.Gray) == 0 && h.Phase != impl.PRoots && h.Phase != impl.PMark && d.below(20) == 0 {
			h.Gray = []int{d.below(len(h.Cells))}
		}
		against(t, "thrown", h, &seen)
	}
	seen[1] += 10 // no limit is passed by these
	wantAllSeen(t, seen)
}
