package tests

import (
	"reflect"
	"testing"

	"loop.example/spool/impl"
)

// Chapter 2 once more, word by word and without any care for speed.

// slowLead is the place of the cell to which a word leads, -1 when it leads to none.
func slowLead(h impl.Heap, w impl.Word) int {
	if w.Kind != impl.WAt {
		return -1
	}
	if h.Cells[w.At].State == impl.SMoved {
		return h.Cells[w.At].To
	}
	return w.At
}

func slowReach(h impl.Heap) []bool {
	got := make([]bool, len(h.Cells))
	for _, w := range h.Regs {
		if place := slowLead(h, w); place >= 0 {
			got[place] = true
		}
	}
	for i, c := range h.Cells {
		if speaks(c) {
			got[i] = true
		}
	}
	slowSpread(h, got)
	return got
}

// slowSpread adds all to which these cells lead.
func slowSpread(h impl.Heap, got []bool) {
	for more := true; more; {
		more = false
		for i, c := range h.Cells {
			for _, p := range c.Pairs {
				for _, w := range []impl.Word{p.Key, p.Val} {
					place := slowLead(h, w)
					if got[i] && place >= 0 && !got[place] {
						got[place], more = true, true
					}
				}
			}
		}
	}
}

func slowHolds(h impl.Heap) []bool {
	got := make([]bool, len(h.Cells))
	for more := true; more; {
		more = false
		hold := func(place int) {
			if place >= 0 && !got[place] {
				got[place], more = true, true
			}
		}
		for _, w := range h.Regs {
			hold(slowLead(h, w))
		}
		for i, c := range h.Cells {
			if c.Last == impl.LDue {
				hold(i)
			}
			if !got[i] {
				continue
			}
			for _, p := range c.Pairs {
				key, val := slowLead(h, p.Key), slowLead(h, p.Val)
				if c.Weak == 0 || c.Weak == 2 {
					hold(key)
				}
				if (c.Weak == 0 || c.Weak == 1) && (key < 0 || got[key]) {
					hold(val)
				}
			}
		}
	}
	return got
}

func slowUnits(h impl.Heap, of []bool) int {
	units := 0
	for i, in := range of {
		if in {
			units += 1 + len(h.Cells[i].Pairs)
		}
	}
	return units
}

// slowRank counts the cells that speak and were made no later than this one.
func slowRank(h impl.Heap, c impl.Cell) int {
	rank := 0
	for _, other := range h.Cells {
		if speaks(c) && speaks(other) && other.Born <= c.Born {
			rank++
		}
	}
	return rank
}

// slowOrder is the places of the reached cells in the order in which they are met.
func slowOrder(h impl.Heap) []int {
	var order []int
	meet := func(place int) {
		for _, known := range order {
			if known == place {
				return
			}
		}
		if place >= 0 {
			order = append(order, place)
		}
	}
	for _, w := range h.Regs {
		meet(slowLead(h, w))
	}
	for rank := 1; rank <= len(h.Cells); rank++ {
		for i, c := range h.Cells {
			if slowRank(h, c) == rank {
				meet(i)
			}
		}
	}
	for k := 0; k < len(order); k++ {
		for _, p := range h.Cells[order[k]].Pairs {
			meet(slowLead(h, p.Key))
			meet(slowLead(h, p.Val))
		}
	}
	return order
}

func slowShape(h impl.Heap) impl.Graph {
	order := slowOrder(h)
	word := func(w impl.Word) impl.Word {
		for number, place := range order {
			if w.Kind == impl.WAt && place == slowLead(h, w) {
				return at(number)
			}
		}
		return w
	}
	var g impl.Graph
	for _, w := range h.Regs {
		g.Regs = append(g.Regs, word(w))
	}
	for _, place := range order {
		c := h.Cells[place]
		n := impl.Node{Kind: c.Kind, Weak: c.Weak, Last: c.Last, Rank: slowRank(h, c)}
		for _, p := range c.Pairs {
			n.Pairs = append(n.Pairs, pair(word(p.Key), word(p.Val)))
		}
		g.Nodes = append(g.Nodes, n)
	}
	return g
}

// plainGraph has nil for every empty list, as the document takes them for the same.
func plainGraph(g impl.Graph) impl.Graph {
	out := impl.Graph{Regs: append([]impl.Word(nil), g.Regs...)}
	for _, n := range g.Nodes {
		n.Pairs = append([]impl.Pair(nil), n.Pairs...)
		out.Nodes = append(out.Nodes, n)
	}
	return out
}

func sameGraph(a, b impl.Graph) bool {
	return reflect.DeepEqual(plainGraph(a), plainGraph(b))
}

func sameFlags(a, b []bool) bool {
	return len(a)+len(b) == 0 || reflect.DeepEqual(a, b)
}

// wantChapter2 holds every function of the chapter against its slow writing, on a sound heap.
func wantChapter2(t *testing.T, name string, h impl.Heap) {
	t.Helper()
	reach, holds := slowReach(h), slowHolds(h)
	if got := impl.Reach(h); !sameFlags(got, reach) {
		t.Fatalf("%s: Reach %v, want %v: %+v", name, got, reach, h)
	}
	if got := impl.Holds(h); !sameFlags(got, holds) {
		t.Fatalf("%s: Holds %v, want %v: %+v", name, got, holds, h)
	}
	if got, want := impl.Live(h), slowUnits(h, reach); got != want {
		t.Fatalf("%s: Live %d, want %d: %+v", name, got, want, h)
	}
	if got, want := impl.Counted(h), slowUnits(h, holds); got != want {
		t.Fatalf("%s: Counted %d, want %d: %+v", name, got, want, h)
	}
	if got, want := impl.Shape(h), slowShape(h); !sameGraph(got, want) {
		t.Fatalf("%s: Shape %+v, want %+v: %+v", name, got, want, h)
	}
}

// wantNothing is what every function of the chapter answers for a heap that is not sound.
func wantNothing(t *testing.T, name string, h impl.Heap) {
	t.Helper()
	if impl.HeapOk(h) == 0 {
		t.Fatalf("%s: the heap is sound", name)
	}
	if got := impl.Reach(h); len(got) != 0 {
		t.Errorf("%s: Reach %v", name, got)
	}
	if got := impl.Holds(h); len(got) != 0 {
		t.Errorf("%s: Holds %v", name, got)
	}
	if live, counted := impl.Live(h), impl.Counted(h); live != 0 || counted != 0 {
		t.Errorf("%s: Live %d, Counted %d", name, live, counted)
	}
	if got := impl.Shape(h); len(got.Regs) != 0 || len(got.Nodes) != 0 {
		t.Errorf("%s: Shape %+v", name, got)
	}
}

func TestChapter2InEachPhase(t *testing.T) {
	for _, s := range soundHeaps() {
		wantChapter2(t, s.name, s.heap)
	}
	d := dice(4)
	for phase := impl.PIdle; phase <= impl.PClose; phase++ {
		for range 4000 {
			h, _ := grown(&d, phase)
			wantChapter2(t, "grown", h)
		}
	}
}

func TestChapter2OfSpoiledHeaps(t *testing.T) {
	var sound, not int
	for _, s := range soundHeaps() {
		for k := range countNumbers(s.heap) {
			for _, value := range telling {
				h := setNumber(s.heap, k, value)
				if slowRule(h) == 0 {
					sound++
					wantChapter2(t, s.name, h)
				} else {
					not++
					wantNothing(t, s.name, h)
				}
			}
		}
	}
	if sound < 1000 || not < 1000 {
		t.Error(sound, "sound ones,", not, "others")
	}
}

func TestWhatIsHeldIsReached(t *testing.T) {
	d := dice(5)
	less := 0
	for i := range 10000 {
		h, _ := grown(&d, i%7)
		reach, holds := impl.Reach(h), impl.Holds(h)
		for place := range h.Cells {
			if holds[place] && !reach[place] {
				t.Fatalf("the cell at %d is held and not reached: %+v", place, h)
			}
			if reach[place] && !holds[place] {
				less++
			}
		}
		if impl.Counted(h) > impl.Live(h) {
			t.Fatalf("Counted is above Live: %+v", h)
		}
	}
	if less < 1000 {
		t.Error("only", less, "cells are reached and not held")
	}
}

// The collector and the places are not to be seen: colors, doomed cells, moved ones, pairs that are mended or not.
func TestSameShapeAtOtherPlaces(t *testing.T) {
	d := dice(6)
	for i := range 7000 {
		h, idle := grown(&d, i%7)
		want := impl.Shape(idle)
		if got := impl.Shape(h); !sameGraph(got, want) {
			t.Fatalf("Phase %d: Shape %+v, want %+v: %+v", h.Phase, got, want, h)
		}
		other := relaid(idle, d.shuffled(len(idle.Cells)))
		if impl.HeapOk(other) != 0 {
			t.Fatalf("not sound: %+v", other)
		}
		if got := impl.Shape(other); !sameGraph(got, want) {
			t.Fatalf("relaid: Shape %+v, want %+v: %+v", got, want, other)
		}
		if impl.Live(h) != impl.Live(other) || impl.Counted(h) != impl.Counted(other) {
			t.Fatalf("Live or Counted hangs on places: %+v", h)
		}
	}
}
