package tests

import (
	"testing"

	"loop.example/spool/impl"
)

// Sound heaps by dice: a heap in which nothing is going on is brought into each Phase by hand.

func (d *dice) shuffled(n int) []int {
	list := make([]int, n)
	for i := range list {
		j := d.below(i + 1)
		list[i] = list[j]
		list[j] = i
	}
	return list
}

// sketch is a heap in PIdle: used cells between free ones, with words that lead anywhere among them.
func sketch(d *dice) impl.Heap {
	size := 1 + d.below(10)
	births := d.shuffled(size + 3)
	cells := make([]impl.Cell, size)
	var places []int
	for i := range cells {
		if d.below(4) > 0 {
			cells[i] = used(1 + births[i])
			places = append(places, i)
		}
	}
	word := func() impl.Word {
		kind := d.below(6)
		switch {
		case kind == 0 || len(places) == 0:
			return none()
		case kind == 1:
			return num(int64(d.below(4)) - 1)
		}
		return at(places[d.below(len(places))])
	}
	for _, place := range places {
		c := &cells[place]
		c.Kind = d.below(5)
		c.Weak = d.below(2) * d.below(4)
		c.Last = d.below(2) * d.below(2) * d.below(4)
		for range d.below(4) {
			c.Pairs = append(c.Pairs, pair(word(), word()))
		}
	}
	h := heapOf(impl.PIdle, cells...)
	h.Born += d.below(3)
	for range d.below(3) {
		h.Regs[d.below(impl.MaxRegs)] = word()
	}
	return h
}

// grown is a sketch that has come into this Phase, and the same in PIdle.
func grown(d *dice, phase int) (impl.Heap, impl.Heap) {
	idle := sketch(d)
	h := clone(idle)
	switch phase {
	case impl.PRoots, impl.PMark:
		colorMarks(d, &h, phase)
	case impl.PSweep:
		colorSweep(d, &h)
	case impl.PMove, impl.PMend, impl.PClose:
		moveAbout(d, &h, phase)
	}
	return h, idle
}

func speaks(c impl.Cell) bool { return c.Last == impl.LWants || c.Last == impl.LDue }

// colorMarks throws the colors, and makes gray what would break rule 7 if it stayed white.
func colorMarks(d *dice, h *impl.Heap, phase int) {
	h.Phase = phase
	if phase == impl.PRoots {
		h.Hand = d.below(len(h.Cells) + 1)
	}
	colorUsed(d, h)
	for i, c := range h.Cells {
		if speaks(c) && c.Color == impl.CWhite && (phase == impl.PMark || i < h.Hand) {
			h.Cells[i].Color = impl.CGray
		}
		if c.Color == impl.CBlack {
			grayFrom(h, c.Pairs)
		}
	}
	for _, i := range d.shuffled(len(h.Cells)) {
		if h.Cells[i].Color == impl.CGray {
			h.Gray = append(h.Gray, i)
		}
	}
	if phase == impl.PMark && len(h.Gray) > 0 {
		pairs := h.Cells[h.Gray[0]].Pairs
		for h.Sub < len(pairs) && d.below(3) > 0 && !anyWhite(*h, pairs[h.Sub]) {
			h.Sub++
		}
	}
}

func colorUsed(d *dice, h *impl.Heap) {
	for i := range h.Cells {
		if h.Cells[i].State == impl.SUsed {
			h.Cells[i].Color = d.below(3)
		}
	}
}

func grayFrom(h *impl.Heap, pairs []impl.Pair) {
	for _, p := range pairs {
		for _, w := range []impl.Word{p.Key, p.Val} {
			if w.Kind == impl.WAt && h.Cells[w.At].Color == impl.CWhite {
				h.Cells[w.At].Color = impl.CGray
			}
		}
	}
}

func anyWhite(h impl.Heap, p impl.Pair) bool {
	for _, w := range []impl.Word{p.Key, p.Val} {
		if w.Kind == impl.WAt && h.Cells[w.At].Color == impl.CWhite {
			return true
		}
	}
	return false
}

// colorSweep dooms cells at Hand or above to which nothing else leads, and lets their words lead anywhere.
func colorSweep(d *dice, h *impl.Heap) {
	h.Phase = impl.PSweep
	h.Hand = d.below(len(h.Cells) + 1)
	kept := slowReach(*h)
	for i, c := range h.Cells {
		if c.State == impl.SUsed && (i < h.Hand || d.below(3) == 0) {
			kept[i] = true
		}
	}
	slowSpread(*h, kept)
	for i := range h.Cells {
		c := &h.Cells[i]
		if c.State == impl.SUsed && kept[i] && i >= h.Hand {
			c.Color = impl.CBlack
		}
		if kept[i] {
			continue
		}
		for j := range c.Pairs {
			if d.below(2) == 0 {
				c.Pairs[j] = pair(at(d.below(len(h.Cells))), at(d.below(len(h.Cells))))
			}
		}
	}
}

// moveAbout moves some cells or all, and mends and closes as far as the Phase asks. Behind PMove moved cells may lie in any way.
func moveAbout(d *dice, h *impl.Heap, phase int) {
	h.Phase = phase
	all := phase != impl.PMove && d.below(2) == 0
	for (all || d.below(4) > 0) && slowMove(h) {
	}
	for range d.below(5) {
		if phase != impl.PMove {
			strayMove(d, h)
		}
	}
	if phase == impl.PMend {
		h.Hand = d.below(len(h.Cells) + 1)
		if h.Hand < len(h.Cells) {
			h.Sub = d.below(len(h.Cells[h.Hand].Pairs) + 1)
		}
	}
	for i, c := range h.Cells {
		for j := range c.Pairs {
			if phase == impl.PClose || phase == impl.PMend && (i < h.Hand || i == h.Hand && j < h.Sub) {
				slowMend(*h, &c.Pairs[j])
			}
		}
	}
	if phase == impl.PClose {
		h.Hand = d.below(len(h.Cells) + 1)
		for i := h.Hand; i < len(h.Cells); i++ {
			if h.Cells[i].State == impl.SMoved {
				h.Cells[i] = free()
			}
		}
	}
}

// slowMove moves the last used cell to the first free place, if that lies below it.
func slowMove(h *impl.Heap) bool {
	least, greatest := len(h.Cells), -1
	for i, c := range h.Cells {
		if c.State == impl.SFree && least == len(h.Cells) {
			least = i
		}
		if c.State == impl.SUsed {
			greatest = i
		}
	}
	if least >= greatest {
		return false
	}
	slowCarry(h, greatest, least)
	return true
}

func slowCarry(h *impl.Heap, from, to int) {
	h.Cells[to], h.Cells[from] = h.Cells[from], moved(to)
	for i, w := range h.Regs {
		if w == at(from) {
			h.Regs[i] = at(to)
		}
	}
}

// strayMove moves some cell to some free place below it, but none that has moved before.
func strayMove(d *dice, h *impl.Heap) {
	from := d.below(len(h.Cells))
	to := d.below(from + 1)
	for _, c := range h.Cells {
		if c.State == impl.SMoved && c.To == from {
			return
		}
	}
	if h.Cells[from].State == impl.SUsed && h.Cells[to].State == impl.SFree {
		slowCarry(h, from, to)
	}
}

func slowMend(h impl.Heap, p *impl.Pair) {
	for _, w := range []*impl.Word{&p.Key, &p.Val} {
		if place := slowLead(h, *w); place >= 0 {
			*w = at(place)
		}
	}
}

// relaid is the heap, in PIdle, with each cell at another place.
func relaid(h impl.Heap, places []int) impl.Heap {
	there := func(w impl.Word) impl.Word {
		if w.Kind == impl.WAt {
			return at(places[w.At])
		}
		return w
	}
	out := clone(h)
	for i, w := range h.Regs {
		out.Regs[i] = there(w)
	}
	out.Cells = make([]impl.Cell, len(h.Cells))
	for i, c := range clone(h).Cells {
		for j, p := range c.Pairs {
			c.Pairs[j] = pair(there(p.Key), there(p.Val))
		}
		out.Cells[places[i]] = c
	}
	return out
}

func TestGrownHeapsAreSound(t *testing.T) {
	d := dice(3)
	for phase := impl.PIdle; phase <= impl.PClose; phase++ {
		doomed, left, fill := 0, 0, 0
		for range 2000 {
			h, _ := grown(&d, phase)
			if got, want := impl.HeapOk(h), slowRule(h); got != 0 || want != 0 || h.Phase != phase {
				t.Fatalf("rule %d, by the slow rules %d: %+v", got, want, h)
			}
			for i, c := range h.Cells {
				if slowDoomed(h, i) {
					doomed++
				}
				if c.State == impl.SMoved {
					left++
				}
				fill += len(c.Pairs)
			}
		}
		if (doomed > 100) != (phase == impl.PSweep) || (left > 100) != (phase >= impl.PMove) || fill < 1000 {
			t.Errorf("Phase %d: %d doomed cells, %d moved ones, %d pairs", phase, doomed, left, fill)
		}
	}
}
