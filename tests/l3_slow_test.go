package tests

import (
	"reflect"
	"testing"

	"loop.example/spool/impl"
)

// Chapter 3 once more, word by word and without any care for speed.

func slowShade(h *impl.Heap, place int) {
	if h.Phase != impl.PRoots && h.Phase != impl.PMark || place < 0 || h.Cells[place].Color != impl.CWhite {
		return
	}
	h.Cells[place].Color = impl.CGray
	h.Gray = append(h.Gray, place)
}

func slowTurn(h *impl.Heap, phase int) {
	h.Phase, h.Hand, h.Sub = phase, 0, 0
	if phase == impl.PClose {
		h.Hand = len(h.Cells)
	}
}

// slowUnit does a unit in the heap itself; a round is on.
func slowUnit(h *impl.Heap) {
	switch h.Phase {
	case impl.PRoots:
		slowRoots(h)
	case impl.PMark:
		slowMark(h)
	case impl.PSweep:
		slowSweep(h)
	case impl.PMove:
		if !slowMove(h) {
			slowTurn(h, impl.PMend)
		}
	case impl.PMend:
		slowMending(h)
	case impl.PClose:
		slowClose(h)
	}
}

func slowRoots(h *impl.Heap) {
	if h.Hand == len(h.Cells) {
		slowTurn(h, impl.PMark)
		return
	}
	if speaks(h.Cells[h.Hand]) {
		slowShade(h, h.Hand)
	}
	h.Hand++
}

func slowMark(h *impl.Heap) {
	if len(h.Gray) > 0 {
		c := &h.Cells[h.Gray[0]]
		if h.Sub < len(c.Pairs) {
			slowShade(h, slowLead(*h, c.Pairs[h.Sub].Key))
			slowShade(h, slowLead(*h, c.Pairs[h.Sub].Val))
			h.Sub++
			return
		}
		c.Color = impl.CBlack
		h.Gray = h.Gray[1:]
		h.Sub = 0
		return
	}
	for _, w := range h.Regs {
		slowShade(h, slowLead(*h, w))
	}
	if len(h.Gray) == 0 {
		slowTurn(h, impl.PSweep)
	}
}

func slowSweep(h *impl.Heap) {
	if h.Hand == len(h.Cells) {
		slowTurn(h, impl.PMove)
		return
	}
	c := &h.Cells[h.Hand]
	if c.State == impl.SUsed && c.Color == impl.CWhite {
		h.Used -= 1 + len(c.Pairs)
		*c = free()
	}
	c.Color = impl.CWhite
	h.Hand++
}

func slowMending(h *impl.Heap) {
	if h.Hand == len(h.Cells) {
		slowTurn(h, impl.PClose)
		return
	}
	pairs := h.Cells[h.Hand].Pairs
	if h.Sub < len(pairs) {
		slowMend(*h, &pairs[h.Sub])
		h.Sub++
		return
	}
	h.Hand++
	h.Sub = 0
}

func slowClose(h *impl.Heap) {
	if h.Hand == 0 {
		slowTurn(h, impl.PIdle)
		if h.Rounds < 1000000000 {
			h.Rounds++
		}
		return
	}
	h.Hand--
	if h.Cells[h.Hand].State == impl.SMoved {
		h.Cells[h.Hand] = free()
	}
	if h.Hand == len(h.Cells)-1 && h.Cells[h.Hand].State == impl.SFree {
		h.Cells = h.Cells[:h.Hand]
	}
}

func slowStep(h impl.Heap, n int) impl.Stepped {
	h = clone(h)
	if n > 0 && h.Phase == impl.PIdle {
		slowTurn(&h, impl.PRoots)
	}
	units := 0
	for units < n && h.Phase != impl.PIdle {
		slowUnit(&h)
		units++
	}
	return impl.Stepped{Heap: h, Units: units}
}

func slowLeft(h impl.Heap) int {
	if h.Phase == impl.PIdle {
		return 0
	}
	return slowStep(h, 1000000).Units
}

func slowRound(h impl.Heap) impl.Heap {
	if h.Phase != impl.PIdle {
		h = slowStep(h, 1000000).Heap
	}
	return slowStep(h, 1000000).Heap
}

// sameHeap takes an empty list and nil for the same.
func sameHeap(a, b impl.Heap) bool {
	return reflect.DeepEqual(clone(a), clone(b))
}

// looks is what can be seen of a sound heap.
type looks struct {
	graph   impl.Graph
	live    int
	counted int
}

func looksOf(h impl.Heap) looks {
	return looks{plainGraph(impl.Shape(h)), impl.Live(h), impl.Counted(h)}
}

// wantSeenTheSame holds promises P2 and P4 for a heap and what came of it.
func wantSeenTheSame(t *testing.T, name string, before looks, h impl.Heap) {
	t.Helper()
	if rule := impl.HeapOk(h); rule != 0 || slowRule(h) != 0 {
		t.Fatalf("%s: not sound, rule %d: %+v", name, rule, h)
	}
	if now := looksOf(h); !reflect.DeepEqual(now, before) {
		t.Fatalf("%s: looks like %+v, looked like %+v: %+v", name, now, before, h)
	}
}

// wantUnits goes through a round, or what is left of it, a unit at a time.
func wantUnits(t *testing.T, name string, h impl.Heap) {
	t.Helper()
	before := looksOf(h)
	left := slowStep(h, 1000000).Units
	got, want := h, h
	for done := 1; done <= left; done++ {
		want = slowStep(want, 1).Heap
		one, whole := impl.Step(got, 1), impl.Step(h, done)
		got = one.Heap
		if one.Units != 1 || whole.Units != done || !sameHeap(got, want) || !sameHeap(whole.Heap, want) {
			t.Fatalf("%s: behind %d units %+v, at one step %+v, want %+v", name, done, one, whole, want)
		}
		wantSeenTheSame(t, name, before, got)
		if n := impl.Left(got); n != left-done || (n == 0) != (got.Phase == impl.PIdle) {
			t.Fatalf("%s: behind %d of %d units %d are left", name, done, left, n)
		}
	}
}

// wantRounds holds the other answers of the chapter against their slow writing.
func wantRounds(t *testing.T, name string, h impl.Heap) {
	t.Helper()
	before := looksOf(h)
	round := impl.Round(h)
	if want := slowRound(h); !sameHeap(round, want) {
		t.Fatalf("%s: Round %+v, want %+v", name, round, want)
	}
	wantSeenTheSame(t, name, before, round)
	wantTidy(t, name, round)
	if got, want := impl.Left(h), slowLeft(h); got != want {
		t.Fatalf("%s: Left %d, want %d: %+v", name, got, want, h)
	}
	for _, n := range []int{0, 1, 2, 1000, impl.MaxStep} {
		if got, want := impl.Step(h, n), slowStep(h, n); got.Units != want.Units || !sameHeap(got.Heap, want.Heap) {
			t.Fatalf("%s: Step by %d %+v, want %+v", name, n, got, want)
		}
	}
	for place, c := range h.Cells {
		got, want := impl.Shade(h, place), clone(h)
		if c.State != impl.SUsed {
			wantZeroHeap(t, name, got)
			continue
		}
		slowShade(&want, place)
		if !sameHeap(got, want) {
			t.Fatalf("%s: Shade at %d %+v, want %+v", name, place, got, want)
		}
		wantSeenTheSame(t, name, before, got)
	}
}

// wantTidy is promise P6.
func wantTidy(t *testing.T, name string, h impl.Heap) {
	t.Helper()
	if h.Phase != impl.PIdle || h.Used != impl.Live(h) {
		t.Fatalf("%s: Phase %d, Used %d, Live %d", name, h.Phase, h.Used, impl.Live(h))
	}
	for place, reached := range impl.Reach(h) {
		if !reached || h.Cells[place].State != impl.SUsed {
			t.Fatalf("%s: the cell at %d is not used or not reached: %+v", name, place, h)
		}
	}
}

func wantZeroHeap(t *testing.T, name string, h impl.Heap) {
	t.Helper()
	if !sameHeap(h, impl.Heap{}) {
		t.Errorf("%s: %+v, want the zero value", name, h)
	}
}

// wantNoRound is what every function of the chapter answers for a heap that is not sound.
func wantNoRound(t *testing.T, name string, h impl.Heap) {
	t.Helper()
	if impl.HeapOk(h) == 0 {
		t.Fatalf("%s: the heap is sound", name)
	}
	for _, place := range []int{-1, 0, 1, len(h.Cells)} {
		wantZeroHeap(t, name+": Shade", impl.Shade(h, place))
	}
	for _, n := range []int{-1, 0, 1, impl.MaxStep} {
		s := impl.Step(h, n)
		wantZeroHeap(t, name+": Step", s.Heap)
		if s.Units != 0 {
			t.Errorf("%s: Step by %d did %d units", name, n, s.Units)
		}
	}
	if n := impl.Left(h); n != 0 {
		t.Errorf("%s: Left %d", name, n)
	}
	wantZeroHeap(t, name+": Round", impl.Round(h))
}

func TestRoundsUnitByUnit(t *testing.T) {
	for _, s := range soundHeaps() {
		wantUnits(t, s.name, s.heap)
	}
	d := dice(7)
	for i := range 7 * 60 {
		h, _ := grown(&d, i%7)
		wantUnits(t, "grown", h)
	}
}

func TestRoundsOfGrownHeaps(t *testing.T) {
	for _, s := range soundHeaps() {
		wantRounds(t, s.name, s.heap)
	}
	d := dice(8)
	for i := range 7 * 600 {
		h, _ := grown(&d, i%7)
		wantRounds(t, "grown", h)
	}
}

// Sound heaps as no round leaves them.
func TestRoundsOfThrownHeaps(t *testing.T) {
	var seen [7]int
	d := dice(11)
	for range 12000 {
		h := thrown(&d)
		if h.Phase == impl.PIdle || h.Phase == impl.PMark || h.Phase == impl.PMove {
			h.Hand = 0
		}
		if h.Phase != impl.PMark && h.Phase != impl.PMend {
			h.Sub = 0
		}
		if impl.HeapOk(h) == 0 {
			seen[h.Phase]++
			wantRounds(t, "thrown", h)
		}
	}
	for phase, n := range seen {
		if n < 20 {
			t.Errorf("Phase %d: %d sound heaps only", phase, n)
		}
	}
}

func TestRoundsOfSpoiledHeaps(t *testing.T) {
	var sound, not int
	for _, s := range soundHeaps() {
		for k := range countNumbers(s.heap) {
			for _, value := range telling {
				h := setNumber(s.heap, k, value)
				if slowRule(h) == 0 {
					sound++
					wantRounds(t, s.name, h)
				} else {
					not++
					wantNoRound(t, s.name, h)
				}
			}
		}
	}
	if sound < 1000 || not < 1000 {
		t.Error(sound, "sound ones,", not, "others")
	}
}

// Two steps of which the first does not end the round are one of their sum.
func TestTwoStepsAndTheirSum(t *testing.T) {
	d := dice(9)
	ended := 0
	for i := range 7 * 300 {
		h, _ := grown(&d, i%7)
		whole := slowStep(h, 1000000).Units
		a, b := d.below(whole), d.below(whole+3)
		first := impl.Step(h, a)
		second := impl.Step(first.Heap, b)
		sum := impl.Step(h, a+b)
		if first.Units != a || second.Units != min(b, whole-a) || sum.Units != min(a+b, whole) || !sameHeap(second.Heap, sum.Heap) {
			t.Fatalf("%d of %d units and %d more: %d and %d, of both %d: %+v", a, whole, b, first.Units, second.Units, sum.Units, h)
		}
		if a+b >= whole {
			ended++
		}
	}
	if ended < 300 || ended > 1800 {
		t.Error(ended, "sums end the round")
	}
}

// Left units end a round, one fewer does not.
func TestLeftEndsTheRound(t *testing.T) {
	d := dice(10)
	for i := range 7 * 300 {
		h, _ := grown(&d, i%7)
		left := impl.Left(h)
		if h.Phase == impl.PIdle {
			if left != 0 {
				t.Fatalf("%d units are left in PIdle", left)
			}
			continue
		}
		end, before := impl.Step(h, left), impl.Step(h, left-1)
		if end.Units != left || end.Heap.Phase != impl.PIdle || before.Units != left-1 || before.Heap.Phase == impl.PIdle {
			t.Fatalf("Left %d: behind them Phase %d, behind one fewer %d: %+v", left, end.Heap.Phase, before.Heap.Phase, h)
		}
		if impl.Left(before.Heap) != 1 || end.Heap.Rounds != h.Rounds+1 || before.Heap.Rounds != h.Rounds {
			t.Fatalf("Left %d: Rounds %d, behind them %d: %+v", left, h.Rounds, end.Heap.Rounds, h)
		}
	}
}
