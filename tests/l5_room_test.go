package tests

import (
	"reflect"
	"slices"
	"testing"

	"loop.example/spool/impl"
)

// newAt is what ANew does at that place, behind all cells when that is their number.
func newAt(a impl.Act, place, color int) func(h *impl.Heap) {
	return func(h *impl.Heap) {
		if place == len(h.Cells) {
			h.Cells = append(h.Cells, free())
		}
		h.Born++
		h.Used += 1 + a.C
		h.Cells[place] = impl.Cell{State: impl.SUsed, Kind: a.B, Born: h.Born, Color: color, Pairs: make([]impl.Pair, a.C)}
		h.Regs[a.A] = at(place)
	}
}

// phased is an idle heap whose cells are all led to, brought into a Phase with that Hand; false when the Phase does not allow it.
func phased(h impl.Heap, phase, hand int) (impl.Heap, bool) {
	h = clone(h)
	h.Phase, h.Hand = phase, hand
	for i := range h.Cells {
		if phase == impl.PSweep && i >= hand && h.Cells[i].State == impl.SUsed {
			h.Cells[i].Color = impl.CBlack
		}
	}
	return h, slowRule(h) == 0
}

// In each Phase, with Hand everywhere: at the least free place, or behind all cells.
func TestWhereNewCellsLie(t *testing.T) {
	var seen, black [7]int
	for mask := range 1 << 4 {
		idle := heapOf(impl.PIdle)
		least := 4
		for i := range 4 {
			if mask>>i&1 == 1 {
				idle.Cells = append(idle.Cells, free())
				least = min(least, i)
			} else {
				idle.Cells = append(idle.Cells, used(1+i, impl.Pair{}))
				idle.Regs[i] = at(i)
				idle.Used += 2
			}
		}
		idle.Born = 7
		for phase := impl.PIdle; phase <= impl.PClose; phase++ {
			for hand := range 5 {
				h, ok := phased(idle, phase, hand)
				if !ok {
					continue
				}
				color := impl.CWhite
				if phase == impl.PRoots || phase == impl.PMark || phase == impl.PSweep && least >= hand {
					color = impl.CBlack
					black[phase]++
				}
				seen[phase]++
				for _, a := range []impl.Act{actOf(impl.ANew, 9, 0, 0), actOf(impl.ANew, 0, 255, 3), actOf(impl.ANew, 15, 8, 200)} {
					checkActing(t, []acting{{"a new cell", h, a, says(0), newAt(a, least, color)}})
				}
			}
		}
	}
	if seen != [7]int{16, 80, 16, 80, 16, 80, 80} || black[impl.PSweep] < 30 || black[impl.PSweep] > 60 {
		t.Error(seen, black)
	}
}

// Beside cells that have moved, are gray or doomed; over a register that held a number, nothing, or the only way to a cell.
func TestNewCellsBesideOthers(t *testing.T) {
	marking := func(name string) impl.Heap { return heapNamed(t, name) }
	a := actOf(impl.ANew, 3, 17, 2)
	swept := heapNamed(t, "sweep, midway")
	checkActing(t, []acting{
		{"roots", marking("roots, midway"), a, says(0), newAt(a, 1, impl.CBlack)},
		{"roots, ended", marking("roots, ended"), a, says(0), newAt(a, 1, impl.CBlack)},
		{"mark", marking("mark, midway"), a, says(0), newAt(a, 2, impl.CBlack)},
		{"mark, no free cell", marking("mark, Gray empty"), a, says(0), newAt(a, 2, impl.CBlack)},
		{"sweep, below Hand", swept, a, says(0), newAt(a, 1, impl.CWhite)},
		{"sweep, at Hand and past doomed ones", with(swept, func(h *impl.Heap) { h.Cells[1], h.Used = used(8), h.Used+1; h.Born = 8 }), a, says(0), newAt(a, 6, impl.CBlack)},
		{"sweep, no free cell", marking("sweep, begun"), a, says(0), newAt(a, 2, impl.CBlack)},
		{"sweep, at its end", marking("sweep, ended"), a, says(0), newAt(a, 1, impl.CWhite)},
		{"move", marking("move, midway"), a, says(0), newAt(a, 3, impl.CWhite)},
		{"move, no free cell", heapOf(impl.PMove, used(1), moved(0)), a, says(0), newAt(a, 2, impl.CWhite)},
		{"mend", marking("mend, midway"), a, says(0), newAt(a, 3, impl.CWhite)},
		{"mend, at its end, no free cell", atHand(2, heapOf(impl.PMend, used(1), moved(0))), a, says(0), newAt(a, 2, impl.CWhite)},
		{"close, no free cell", marking("close, begun"), a, says(0), newAt(a, 4, impl.CWhite)},
		{"close, past Hand", marking("close, midway"), a, says(0), newAt(a, 3, impl.CWhite)},
		{"no cells", impl.Fresh(3), a, says(0), newAt(a, 0, impl.CWhite)},
	})
	h := led([]int{0}, used(1), used(2))
	h.Regs[2] = num(4)
	for _, r := range []int{0, 1, 2, 15} {
		a := actOf(impl.ANew, r, 1, 1)
		checkActing(t, []acting{{"over a register", h, a, says(0), newAt(a, 2, impl.CWhite)}})
	}
}

// The number of Born grows by one at each making; at MaxCount a cell is refused at once, and no round is forced.
func TestBornAtItsEnd(t *testing.T) {
	a := actOf(impl.ANew, 2, 0, 0)
	for _, s := range soundHeaps() {
		if s.heap.Room < 2 {
			continue
		}
		most := with(s.heap, func(h *impl.Heap) { h.Born, h.Per = impl.MaxCount, 5 })
		full := with(most, func(h *impl.Heap) { h.Room = max(h.Used, (len(h.Cells)+1)/2) })
		for _, c := range []int{0, 1, 200} {
			checkActing(t, []acting{
				{s.name + ", with room", most, actOf(impl.ANew, 0, 0, c), code(impl.NotRoom), asItWas},
				{s.name + ", full", full, actOf(impl.ANew, 0, 0, c), code(impl.NotRoom), asItWas},
			})
		}
		got := impl.Do(with(s.heap, func(h *impl.Heap) { h.Born = impl.MaxCount - 1 }), a)
		if got.Ans != says(0) || got.Heap.Born != impl.MaxCount || got.Heap.Cells[got.Heap.Regs[2].At].Born != impl.MaxCount {
			t.Errorf("%s: %+v", s.name, got)
		}
		if again := impl.Do(got.Heap, a); again.Ans != code(impl.NotRoom) || !sameHeap(again.Heap, got.Heap) {
			t.Errorf("%s: %+v", s.name, again)
		}
	}
	h := led([]int{0}, used(1))
	h.Born = impl.MaxCount
	checkActing(t, []acting{{"pairs come all the same", h, actOf(impl.AGrow, 0, 0, 2), says(0), func(h *impl.Heap) {
		h.Cells[0].Pairs, h.Used = make([]impl.Pair, 2), 3
	}}})
}

// scarce has 5 units in use, of which 3 are reached by register 1 and 2 by nothing, in this Phase; register 2 leads to the same cell.
func scarce(phase, room int) impl.Heap {
	h := heapOf(phase, used(1, impl.Pair{}), kind(8, used(2, pair(at(1), num(1)), pair(num(2), none()))))
	h.Room, h.Regs[1], h.Regs[2] = room, at(1), at(1)
	if phase == impl.PSweep {
		h.Cells[1].Color = impl.CBlack
	}
	return h
}

// forced is what making room does ahead of the act.
func forced(then func(h *impl.Heap)) func(h *impl.Heap) {
	return func(h *impl.Heap) {
		h.Forced++
		*h = slowRound(*h)
		then(h)
	}
}

func TestRoomInEachPhase(t *testing.T) {
	pairs := func(place, n int) func(h *impl.Heap) {
		return func(h *impl.Heap) {
			h.Cells[place].Pairs = append(h.Cells[place].Pairs, make([]impl.Pair, n)...)
			h.Used += n
		}
	}
	for phase := impl.PIdle; phase <= impl.PClose; phase++ {
		color := impl.CWhite
		if phase >= impl.PRoots && phase <= impl.PSweep {
			color = impl.CBlack
		}
		for wants := 1; wants < 6; wants++ {
			made, grown := actOf(impl.ANew, 0, 6, wants-1), actOf(impl.AGrow, 1, 0, wants)
			list := []acting{
				{"as much as there is", scarce(phase, 5+wants), made, says(0), newAt(made, 2, color)},
				{"as much as there is", scarce(phase, 5+wants), grown, says(0), pairs(1, wants)},
				{"one unit less", scarce(phase, 4+wants), made, says(0), forced(newAt(made, 1, impl.CWhite))},
				{"one unit less, and the cell moves", scarce(phase, 4+wants), grown, says(0), forced(pairs(0, wants))},
			}
			if wants >= 2 {
				list = append(list,
					acting{"just what is given back", scarce(phase, 3+wants), made, says(0), forced(newAt(made, 1, impl.CWhite))},
					acting{"just what is given back", scarce(phase, 3+wants), grown, says(0), forced(pairs(0, wants))})
			}
			if wants >= 3 {
				list = append(list,
					acting{"one unit too few", scarce(phase, 2+wants), made, code(impl.NotRoom), forced(asItWas)},
					acting{"one unit too few", scarce(phase, 2+wants), grown, code(impl.NotRoom), forced(asItWas)})
			}
			checkActing(t, list)
		}
		checkActing(t, []acting{
			{"nothing wanted", scarce(phase, 5), actOf(impl.AGrow, 1, 0, 0), says(0), asItWas},
			{"one unit wanted", scarce(phase, 5), actOf(impl.ANew, 0, 6, 0), says(0), forced(newAt(actOf(impl.ANew, 0, 6, 0), 1, impl.CWhite))},
			{"far too few", scarce(phase, 5), actOf(impl.ANew, 0, 6, 200), code(impl.NotRoom), forced(asItWas)},
			{"far too few", scarce(phase, 5), actOf(impl.AGrow, 1, 0, 198), code(impl.NotRoom), forced(asItWas)},
		})
	}
}

// Behind a round all that is left is at other places, and Regs lead there; nothing of a refused act is done.
func TestWhatIsLeftWhenRoomWasMade(t *testing.T) {
	h := scarce(impl.PIdle, 5)
	got := impl.Do(h, actOf(impl.AGrow, 1, 0, 2))
	want := heapOf(impl.PIdle, kind(8, used(2, pair(at(0), num(1)), pair(num(2), none()), impl.Pair{}, impl.Pair{})))
	want.Room, want.Rounds, want.Forced = 5, 1, 1
	want.Regs[1], want.Regs[2] = at(0), at(0)
	if got.Ans != says(0) || !sameHeap(got.Heap, want) {
		t.Errorf("%+v, want %+v", got, want)
	}
	got = impl.Do(h, actOf(impl.AGrow, 2, 0, 3))
	want.Cells[0].Pairs, want.Used = want.Cells[0].Pairs[:2], 3
	if got.Ans != code(impl.NotRoom) || !sameHeap(got.Heap, want) {
		t.Errorf("%+v, want %+v", got, want)
	}
}

// What A held is a root as long as room is made, though the act would let go of it.
func TestWhatAHeldIsARoot(t *testing.T) {
	for phase := impl.PIdle; phase <= impl.PClose; phase++ {
		h := scarce(phase, 5)
		h.Regs[2] = none()
		checkActing(t, []acting{
			{"it would fit without A's cell", h, actOf(impl.ANew, 1, 0, 2), code(impl.NotRoom), forced(asItWas)},
			{"it fits beside A's cell", h, actOf(impl.ANew, 1, 0, 1), says(0), forced(newAt(actOf(impl.ANew, 1, 0, 1), 1, impl.CWhite))},
		})
		let := impl.Do(h, actOf(impl.ANil, 1, 0, 0)).Heap
		if got := impl.Do(let, actOf(impl.ANew, 1, 0, 2)); got.Ans != says(0) || got.Heap.Forced != 1 {
			t.Errorf("Phase %d: %+v", phase, got)
		}
	}
}

func TestForcedEachTime(t *testing.T) {
	h := scarce(impl.PMark, 5)
	for i := range 4 {
		h = impl.Do(h, actOf(impl.ANew, 0, 0, 4)).Heap
		if h.Forced != 1+i || h.Rounds != 2+i {
			t.Fatalf("%d times: %+v", 1+i, h)
		}
	}
	for _, was := range []int{impl.MaxCount - 2, impl.MaxCount - 1, impl.MaxCount} {
		for _, a := range []impl.Act{actOf(impl.ANew, 0, 0, 0), actOf(impl.ANew, 0, 0, 9), actOf(impl.AGrow, 1, 0, 1), actOf(impl.AGrow, 1, 0, 9)} {
			h := with(scarce(impl.PSweep, 5), func(h *impl.Heap) { h.Forced, h.Rounds = was, impl.MaxCount-1 })
			got := wantDone(t, "Forced at its end", h, a).Heap
			if got.Forced != min(was+1, impl.MaxCount) || got.Rounds != impl.MaxCount {
				t.Errorf("Forced %d, Rounds %d: %+v", got.Forced, got.Rounds, got)
			}
		}
	}
}

// Room is refused exactly when what is reached and what is wanted are above it.
func TestRefusedByWhatIsReached(t *testing.T) {
	d := dice(25)
	refused, made := 0, 0
	for i := range 7 * 150 {
		h, _ := grown(&d, i%7)
		h.Room = max(h.Used, (len(h.Cells)+1)/2)
		h.Regs[4] = none()
		for place, c := range h.Cells {
			if c.State == impl.SUsed && !slowDoomed(h, place) {
				h.Regs[4] = at(place)
			}
		}
		live := slowUnits(h, slowReach(h))
		for wants := 1; wants < 12; wants++ {
			acts := []impl.Act{actOf(impl.ANew, 0, 0, wants-1)}
			if h.Regs[4].Kind == impl.WAt {
				acts = append(acts, actOf(impl.AGrow, 4, 0, wants))
			}
			for _, a := range acts {
				got := wantDone(t, "scarce", h, a)
				if (got.Ans.Code == impl.NotRoom) != (live+wants > h.Room) {
					t.Fatalf("%+v: %+v, Live %d: %+v", a, got.Ans, live, h)
				}
				if got.Ans.Code == impl.NotRoom {
					refused++
				} else {
					made++
				}
			}
		}
	}
	if refused < 1000 || made < 1000 {
		t.Error(refused, "refused,", made, "made")
	}
}

// paced is what comes of a making by the pace: the same making without one, and then a step of Per * u units.
func paced(t *testing.T, h impl.Heap, a impl.Act) impl.Heap {
	t.Helper()
	got := impl.Do(with(h, func(h *impl.Heap) { h.Per = 0 }), a)
	if got.Ans != says(0) {
		t.Fatalf("%+v", got)
	}
	got.Heap.Per = h.Per
	units := h.Per * slowWants(a)
	if units == 0 || got.Heap.Phase == impl.PIdle && got.Heap.Used <= h.Start {
		return got.Heap
	}
	return impl.Step(got.Heap, units).Heap
}

func TestPaceInEachPhase(t *testing.T) {
	begun, ended := 0, 0
	for _, s := range soundHeaps() {
		if s.heap.Room < 2 {
			continue
		}
		h := clone(s.heap)
		for place, c := range h.Cells {
			if c.State == impl.SUsed && !slowDoomed(h, place) {
				h.Regs[6] = at(place)
			}
		}
		wantRule(t, s.name, h, 0)
		for _, a := range []impl.Act{actOf(impl.ANew, 2, 0, 0), actOf(impl.ANew, 2, 0, 2), actOf(impl.AGrow, 6, 0, 0), actOf(impl.AGrow, 6, 0, 1), actOf(impl.AGrow, 6, 0, 4)} {
			for _, per := range []int{0, 1, 2, 3, 9, 64} {
				for start := h.Used - 1; start < h.Used+7; start++ {
					h.Per, h.Start = per, max(0, start)
					got := wantDone(t, s.name, h, a)
					if !sameHeap(got.Heap, paced(t, h, a)) {
						t.Fatalf("%s: %+v with Per %d, Start %d: %+v", s.name, a, per, start, got)
					}
					if h.Phase == impl.PIdle && got.Heap.Phase != impl.PIdle {
						begun++
					}
					if got.Heap.Rounds > h.Rounds {
						ended++
					}
				}
			}
		}
	}
	if begun < 20 || ended < 200 {
		t.Error(begun, "begun,", ended, "ended")
	}
}

// By hand: Used at Start and above it, u and Per, the end of a round within the units.
func TestPaceByHand(t *testing.T) {
	idle := func(per, start int) impl.Heap {
		h := led([]int{0}, used(1, impl.Pair{}, impl.Pair{}))
		h.Per, h.Start = per, start
		return h
	}
	grown := func(n int) func(h *impl.Heap) {
		return func(h *impl.Heap) {
			h.Cells[0].Pairs = make([]impl.Pair, 2+n)
			h.Used += n
		}
	}
	roots := func(n, hand int) func(h *impl.Heap) {
		return both(grown(n), func(h *impl.Heap) { h.Phase, h.Hand = impl.PRoots, hand })
	}
	one := actOf(impl.AGrow, 0, 0, 1)
	marking := func(n int) func(h *impl.Heap) {
		return both(grown(n), func(h *impl.Heap) {
			h.Phase, h.Gray = impl.PMark, []int{0}
			h.Cells[0].Color = impl.CGray
		})
	}
	cell := actOf(impl.ANew, 1, 0, 0)
	checkActing(t, []acting{
		{"Used at Start", idle(1, 4), one, says(0), grown(1)},
		{"Used above Start", idle(1, 3), one, says(0), roots(1, 1)},
		{"Start far below", idle(1, 0), one, says(0), roots(1, 1)},
		{"Start far above", idle(64, 4000), one, says(0), grown(1)},
		{"no Per", idle(0, 0), one, says(0), grown(1)},
		{"nothing made", idle(64, 0), actOf(impl.AGrow, 0, 0, 0), says(0), grown(0)},
		{"two units", idle(2, 3), one, says(0), both(roots(1, 0), func(h *impl.Heap) { h.Phase = impl.PMark })},
		{"three units", idle(3, 3), one, says(0), marking(1)},
		{"three units by three pairs", idle(1, 3), actOf(impl.AGrow, 0, 0, 3), says(0), marking(3)},
		{"a cell is one unit", idle(1, 3), cell, says(0), both(newAt(cell, 1, impl.CWhite), func(h *impl.Heap) { h.Phase, h.Hand = impl.PRoots, 1 })},
		{"a cell of two units", idle(1, 3), actOf(impl.ANew, 1, 0, 1), says(0), both(newAt(actOf(impl.ANew, 1, 0, 1), 1, impl.CWhite), func(h *impl.Heap) { h.Phase, h.Hand = impl.PRoots, 2 })},
		{"other acts", idle(64, 0), actOf(impl.ACut, 0, 0, 0), says(0), func(h *impl.Heap) { h.Cells[0].Pairs, h.Used = nil, 1 }},
	})
	closing := atHand(1, heapOf(impl.PClose, used(1)))
	closing.Regs[0] = at(0)
	closing.Per, closing.Start = 64, 0
	got := impl.Do(closing, one)
	if got.Heap.Phase != impl.PIdle || got.Heap.Rounds != 1 {
		t.Errorf("a round that ends within the units: %+v", got)
	}
	slack := with(closing, func(h *impl.Heap) { h.Per, h.Start = 1, 4000 })
	if got := impl.Do(slack, one).Heap; got.Phase != impl.PClose || got.Hand != 0 {
		t.Errorf("a round that is on goes on below Start: %+v", got)
	}
}

// No pace behind a making that is refused, nor in the round that it forced.
func TestNoPaceBehindRefusals(t *testing.T) {
	for phase := impl.PIdle; phase <= impl.PClose; phase++ {
		h := scarce(phase, 5)
		h.Per, h.Start = 64, 0
		checkActing(t, []acting{
			{"no room for a cell", h, actOf(impl.ANew, 0, 0, 2), code(impl.NotRoom), forced(asItWas)},
			{"no room for pairs", h, actOf(impl.AGrow, 1, 0, 3), code(impl.NotRoom), forced(asItWas)},
			{"too long", h, actOf(impl.AGrow, 1, 0, 199), code(impl.TooLong), asItWas},
			{"no cell", h, actOf(impl.AGrow, 5, 0, 1), code(impl.NotCell), asItWas},
			{"none", h, actOf(impl.ANew, 0, 0, 201), code(impl.NotAct), asItWas},
		})
		h.Per = 1
		got := impl.Do(h, actOf(impl.ANew, 0, 0, 0)).Heap
		if got.Phase != impl.PRoots || got.Hand != 1 || got.Forced != 1 {
			t.Errorf("Phase %d: behind a forced round the pace begins one: %+v", phase, got)
		}
	}
}

// The cell that the collector is going through is cut below, at and above Sub; others leave Sub as it is.
func TestCutsOfTheCellThatIsGoneThrough(t *testing.T) {
	for _, phase := range []int{impl.PMark, impl.PMend} {
		for sub := range 5 {
			for stay := range 7 {
				h := going(phase, sub, 0)
				h.Regs[2] = at(2)
				cut := func(place, sub int) func(h *impl.Heap) {
					return func(h *impl.Heap) {
						n := min(stay, len(h.Cells[place].Pairs))
						h.Used -= len(h.Cells[place].Pairs) - n
						h.Cells[place].Pairs = h.Cells[place].Pairs[:n]
						h.Sub = sub
					}
				}
				checkActing(t, []acting{
					{"the cell", h, actOf(impl.ACut, 2, 0, stay), says(0), cut(2, min(sub, stay))},
					{"another one", h, actOf(impl.ACut, 1, 0, stay), says(0), cut(0, sub)},
					{"it grows", h, actOf(impl.AGrow, 2, 0, stay), says(0), func(h *impl.Heap) {
						h.Cells[2].Pairs = append(h.Cells[2].Pairs, make([]impl.Pair, stay)...)
						h.Used += stay
					}},
				})
			}
		}
	}
	roots := with(going(impl.PMark, 0, 0), func(h *impl.Heap) { h.Phase, h.Hand, h.Regs[2] = impl.PRoots, 2, at(2) })
	got := impl.Do(roots, actOf(impl.ACut, 2, 0, 1)).Heap
	if !slices.Equal(got.Gray, roots.Gray) || got.Hand != 2 || got.Sub != 0 || len(got.Cells[2].Pairs) != 1 {
		t.Errorf("%+v", got)
	}
}

// What is cut off is gone: pairs that come later are of nothing.
func TestPairsThatComeBehindACut(t *testing.T) {
	h := desk()
	h = impl.Do(h, actOf(impl.ACut, 0, 0, 1)).Heap
	h = impl.Do(h, actOf(impl.AGrow, 0, 0, 2)).Heap
	if want := []impl.Pair{pair(num(5), at(1)), {}, {}}; !slices.Equal(h.Cells[0].Pairs, want) || h.Used != desk().Used {
		t.Errorf("%+v", h)
	}
}

// Heaps as great as the rules allow.
func TestDoOnGreatHeaps(t *testing.T) {
	full := crowded(impl.PMend)
	full.Hand = 2 * impl.MaxRoom
	full.Born--
	full.Cells[0].Born = 1
	wantGreatDone(t, "crowded", full, actOf(impl.ANew, 1, 2, 200), 1+201)
	wantGreatDone(t, "crowded", full, actOf(impl.AGrow, 0, 0, 200), 1+200)
	for i := range impl.MaxRoom {
		full.Cells[i].Last = impl.LWants
	}
	wantGreatDone(t, "crowded, all wanted", full, actOf(impl.ANew, 1, 2, 0), -1)
	wantGreatDone(t, "crowded, all wanted", full, actOf(impl.AGrow, 0, 0, 1), -1)
	near := crowded(impl.PMove)
	near.Born, near.Used = impl.MaxCount-2, impl.MaxRoom-1
	near.Cells = slices.Delete(near.Cells, impl.MaxRoom-1, impl.MaxRoom+1)
	near.Cells[0].Born, near.Cells[1].Born = 1, 2
	near.Regs[0] = at(0)
	near.Per, near.Start = 64, 0
	wantGreatDone(t, "no free cell", near, actOf(impl.ANew, 1, 2, 0), impl.MaxRoom)
	long := heapOf(impl.PMark)
	for i := range impl.MaxRoom - 1 {
		long.Cells = append(long.Cells, colored(impl.CGray, used(1+i)))
		long.Gray = append(long.Gray, i)
	}
	long = withRoom(long)
	long.Regs[3] = at(7)
	long.Per = 64
	wantGreatDone(t, "all gray", long, actOf(impl.ANew, 1, 2, 0), impl.MaxRoom)
	for _, a := range []impl.Act{actOf(impl.ALive, 0, 0, 0), actOf(impl.ACount, 0, 0, 0), actOf(impl.ASettle, 0, 0, 0), actOf(impl.ADue, 0, 0, 0), actOf(impl.AStep, 0, 0, 100000), actOf(impl.ARound, 0, 0, 0)} {
		for _, h := range []impl.Heap{full, near, long} {
			if got := impl.Do(h, a); got.Ans.Code != 0 || impl.HeapOk(got.Heap) != 0 {
				t.Errorf("%+v: %+v", a, got.Ans)
			}
		}
	}
}

// wantGreatDone asks for Used behind the act, -1 when it is refused.
func wantGreatDone(t *testing.T, name string, h impl.Heap, a impl.Act, used int) {
	t.Helper()
	wantRule(t, name, h, 0)
	got, want := impl.Do(h, a), slowDo(h, a)
	if got.Ans != want.Ans || !sameHeap(got.Heap, want.Heap) || impl.HeapOk(got.Heap) != 0 {
		t.Errorf("%s: %+v: %+v, rule %d, %d cells, want %+v, %d cells", name, a, got.Ans, impl.HeapOk(got.Heap), len(got.Heap.Cells), want.Ans, len(want.Heap.Cells))
	}
	if used < 0 && got.Ans != code(impl.NotRoom) || used >= 0 && (got.Ans != says(0) || got.Heap.Used != used) {
		t.Errorf("%s: %+v: %+v, Used %d", name, a, got.Ans, got.Heap.Used)
	}
}

// busyHeaps are heaps of each Phase with registers that lead to cells, room that is scarce, and a pace.
func busyHeaps() []named {
	list := soundHeaps()
	d := dice(26)
	for phase := impl.PIdle; phase <= impl.PClose; phase++ {
		for range 12 {
			h, idle := grown(&d, phase)
			laden(&d, &h, &idle)
			list = append(list, named{"laden", h})
		}
	}
	return list
}

// actsOfAll has some acts of each Op, and some that are none.
func actsOfAll() []impl.Act {
	var list []impl.Act
	d := dice(27)
	for op := -1; op <= impl.ARound+1; op++ {
		for range 5 {
			list = append(list, throwAct(&d, op))
		}
	}
	return list
}

func TestChapter5LeavesArguments(t *testing.T) {
	for _, s := range busyHeaps() {
		h, look := padded(s.heap)
		before := look()
		for _, a := range actsOfAll() {
			first, again := impl.Do(h, a), impl.Do(h, a)
			if first.Ans != again.Ans || !sameHeap(first.Heap, again.Heap) {
				t.Errorf("%s: %+v: the same argument, another answer", s.name, a)
			}
			spoiled := h
			spoiled.Used++
			impl.Do(spoiled, a)
			if !reflect.DeepEqual(look(), before) {
				t.Fatalf("%s: %+v: the argument was changed", s.name, a)
			}
		}
	}
}

// What is written into one list of an answer is seen neither in its other lists nor in the argument.
func TestDoSharesNothing(t *testing.T) {
	for _, s := range busyHeaps() {
		h, look := padded(s.heap)
		before := look()
		for _, a := range actsOfAll() {
			got := impl.Do(h, a).Heap
			for i := range got.Cells {
				kept := clone(got)
				scribble(got.Cells[i].Pairs, pair(num(123), num(123)))
				now := clone(got)
				now.Cells[i].Pairs, kept.Cells[i].Pairs = nil, nil
				if !sameHeap(now, kept) {
					t.Fatalf("%s: %+v: lists of the answer share memory", s.name, a)
				}
			}
			scribble(got.Gray, 123)
			scribble(got.Regs, num(123))
			scribble(got.Cells, moved(123))
			if !reflect.DeepEqual(look(), before) {
				t.Fatalf("%s: %+v: the answer shares memory with the argument", s.name, a)
			}
		}
	}
}
