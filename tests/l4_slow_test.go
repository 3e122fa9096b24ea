package tests

import (
	"testing"

	"loop.example/spool/impl"
)

// Chapter 4 once more, word by word and without any care for speed.

func slowSettle(h impl.Heap) impl.Settled {
	holds := slowHolds(h)
	lost := func(w impl.Word) bool {
		place := slowLead(h, w)
		return place >= 0 && !holds[place]
	}
	out := impl.Settled{Heap: clone(h)}
	for place, c := range h.Cells {
		if !holds[place] {
			continue
		}
		var stay []impl.Pair
		for i, p := range c.Pairs {
			if !((c.Weak == 1 || c.Weak == 3) && lost(p.Key) || (c.Weak == 2 || c.Weak == 3) && lost(p.Val)) {
				stay = append(stay, p)
				continue
			}
			out.Gone++
			out.Heap.Used--
			if slowGoing(h) == place && i < h.Sub {
				out.Heap.Sub--
			}
		}
		out.Heap.Cells[place].Pairs = stay
	}
	for place, c := range h.Cells {
		if !holds[place] && c.Last == impl.LWants {
			out.Heap.Cells[place].Last = impl.LDue
			out.Due++
		}
	}
	return out
}

// slowGoing is the place of the cell whose pairs the collector is going through, -1 when there is none.
func slowGoing(h impl.Heap) int {
	if h.Phase == impl.PMark && len(h.Gray) > 0 {
		return h.Gray[0]
	}
	if h.Phase == impl.PMend {
		return h.Hand
	}
	return -1
}

func slowNextDue(h impl.Heap) int {
	next := -1
	for place, c := range h.Cells {
		if c.Last == impl.LDue && (next < 0 || c.Born < h.Cells[next].Born) {
			next = place
		}
	}
	return next
}

// wantSettled holds both functions of the chapter against their slow writing, on a sound heap, and gives what Settle answers.
func wantSettled(t *testing.T, name string, h impl.Heap) impl.Settled {
	t.Helper()
	got, want := impl.Settle(h), slowSettle(h)
	if got.Gone != want.Gone || got.Due != want.Due || !sameHeap(got.Heap, want.Heap) {
		t.Fatalf("%s: Settle %+v, want %+v: %+v", name, got, want, h)
	}
	if rule := impl.HeapOk(got.Heap); rule != 0 || slowRule(got.Heap) != 0 {
		t.Fatalf("%s: not sound, rule %d: %+v", name, rule, got.Heap)
	}
	for _, of := range []impl.Heap{h, got.Heap} {
		if next, want := impl.NextDue(of), slowNextDue(of); next != want {
			t.Fatalf("%s: NextDue %d, want %d: %+v", name, next, want, of)
		}
	}
	return got
}

// wantQuiet settles over and over until nothing goes and nothing becomes due.
func wantQuiet(t *testing.T, name string, h impl.Heap) {
	t.Helper()
	most := h.Used
	for range most + 1 {
		s := wantSettled(t, name, h)
		if s.Gone+s.Due == 0 {
			if !sameHeap(s.Heap, h) {
				t.Fatalf("%s: nothing goes, nothing becomes due: %+v, was %+v", name, s.Heap, h)
			}
			return
		}
		h = s.Heap
	}
	t.Fatalf("%s: not settled behind %d times: %+v", name, most+1, h)
}

// wantNotSettled is what both functions of the chapter answer for a heap that is not sound.
func wantNotSettled(t *testing.T, name string, h impl.Heap) {
	t.Helper()
	if impl.HeapOk(h) == 0 {
		t.Fatalf("%s: the heap is sound", name)
	}
	s := impl.Settle(h)
	wantZeroHeap(t, name+": Settle", s.Heap)
	if s.Gone != 0 || s.Due != 0 {
		t.Errorf("%s: Gone %d, Due %d", name, s.Gone, s.Due)
	}
	if n := impl.NextDue(h); n != -1 {
		t.Errorf("%s: NextDue %d", name, n)
	}
}

// settlings counts what heaps of one Phase have shown, so that none of it stays out by chance.
type settlings struct {
	gone, below, past, due, doomed, moved, free int
}

func (n *settlings) add(h impl.Heap, s impl.Settled) {
	for place, c := range h.Cells {
		if slowDoomed(h, place) {
			n.doomed++
		}
		if c.State == impl.SMoved {
			n.moved++
		}
		if c.State == impl.SFree {
			n.free++
		}
	}
	n.gone += s.Gone
	n.due += s.Due
	n.below += h.Sub - s.Heap.Sub
	if s.Gone > 0 && h.Sub > 0 && s.Heap.Sub == h.Sub {
		n.past++
	}
}

func TestSettleInEachPhase(t *testing.T) {
	for _, s := range soundHeaps() {
		wantQuiet(t, s.name, s.heap)
	}
	d := dice(12)
	for phase := impl.PIdle; phase <= impl.PClose; phase++ {
		var n settlings
		for range 1500 {
			h, _ := grown(&d, phase)
			n.add(h, wantSettled(t, "grown", h))
			wantQuiet(t, "grown", h)
		}
		within := phase == impl.PMark || phase == impl.PMend
		if n.gone < 100 || n.due < 100 || n.free < 100 || (n.doomed > 100) != (phase == impl.PSweep) || (n.moved > 100) != (phase >= impl.PMove) {
			t.Errorf("Phase %d: %+v", phase, n)
		}
		if (n.below > 10) != within || (n.past > 10) != within || !within && n.below+n.past > 0 {
			t.Errorf("Phase %d: %+v", phase, n)
		}
	}
}

// Whatever the collector has done: the same pairs go, the same cells become due, and the rest of the round loses nothing.
func TestSettleWhateverTheCollectorDoes(t *testing.T) {
	d := dice(13)
	for i := range 7 * 200 {
		h, idle := grown(&d, i%7)
		got, want := impl.Settle(h), impl.Settle(idle)
		if got.Gone != want.Gone || got.Due != want.Due || !sameGraph(impl.Shape(got.Heap), impl.Shape(want.Heap)) {
			t.Fatalf("Phase %d: %+v, in PIdle %+v: %+v", h.Phase, got, want, h)
		}
		wantRounds(t, "settled", got.Heap)
		later := impl.Settle(impl.Step(h, d.below(60)).Heap)
		if later.Gone != want.Gone || later.Due != want.Due || !sameGraph(impl.Shape(later.Heap), impl.Shape(want.Heap)) {
			t.Fatalf("Phase %d, and some units behind it: %+v, in PIdle %+v: %+v", h.Phase, later, want, h)
		}
	}
}

// Settle ahead of each unit of a round, with a register let go of from time to time.
func TestSettleAheadOfEachUnit(t *testing.T) {
	d := dice(14)
	for i := range 7 * 40 {
		h, _ := grown(&d, i%7)
		for range impl.Step(h, impl.MaxStep).Units {
			if d.below(5) == 0 {
				h.Regs[d.below(impl.MaxRegs)] = none()
			}
			h = impl.Step(wantSettled(t, "a unit behind it", h).Heap, 1).Heap
			wantRule(t, "a unit behind Settle", h, 0)
		}
	}
}

// Sound heaps as no round leaves them.
func TestSettleOfThrownHeaps(t *testing.T) {
	var seen [7]int
	d := dice(15)
	for range 12000 {
		h := thrown(&d)
		if h.Phase == impl.PIdle || h.Phase == impl.PMark || h.Phase == impl.PMove {
			h.Hand = 0
		}
		if h.Phase != impl.PMark && h.Phase != impl.PMend {
			h.Sub = 0
		}
		if impl.HeapOk(h) == 0 {
			seen[h.Phase]++
			wantQuiet(t, "thrown", h)
		} else {
			wantNotSettled(t, "thrown", h)
		}
	}
	for phase, n := range seen {
		if n < 20 {
			t.Errorf("Phase %d: %d sound heaps only", phase, n)
		}
	}
}

func TestSettleOfSpoiledHeaps(t *testing.T) {
	var sound, not int
	for _, s := range soundHeaps() {
		for k := range countNumbers(s.heap) {
			for _, value := range telling {
				h := setNumber(s.heap, k, value)
				if slowRule(h) == 0 {
					sound++
					wantQuiet(t, s.name, h)
				} else {
					not++
					wantNotSettled(t, s.name, h)
				}
			}
		}
	}
	if sound < 1000 || not < 1000 {
		t.Error(sound, "sound ones,", not, "others")
	}
}
