package tests

import (
	"math"
	"reflect"
	"slices"
	"testing"

	"loop.example/spool/impl"
)

// One unit of work: a heap, and all that differs behind it.
type unit struct {
	name   string
	heap   impl.Heap
	behind func(h *impl.Heap)
}

func checkUnits(t *testing.T, list []unit) {
	t.Helper()
	for _, u := range list {
		wantRule(t, u.name, u.heap, 0)
		want := clone(u.heap)
		u.behind(&want)
		got := impl.Step(u.heap, 1)
		if got.Units != 1 || !sameHeap(got.Heap, want) {
			t.Errorf("%s: %d units, behind them\n%+v, want\n%+v", u.name, got.Units, got.Heap, want)
		}
		wantRule(t, u.name+", behind the unit", got.Heap, 0)
	}
}

// with is the heap after a change that sets up a case.
func with(h impl.Heap, change func(h *impl.Heap)) impl.Heap {
	h = clone(h)
	change(&h)
	return h
}

func atHand(hand int, h impl.Heap) impl.Heap {
	h.Hand = hand
	return h
}

func handTo(hand int) func(h *impl.Heap) {
	return func(h *impl.Heap) { h.Hand = hand }
}

// phaseTo is what the last unit of a Phase does.
func phaseTo(phase, hand int) func(h *impl.Heap) {
	return func(h *impl.Heap) { h.Phase, h.Hand, h.Sub = phase, hand, 0 }
}

// grayed is what becomes of cells that are shaded in this order behind those in Gray, and then the change.
func grayed(then func(h *impl.Heap), places ...int) func(h *impl.Heap) {
	return func(h *impl.Heap) {
		for _, place := range places {
			h.Cells[place].Color = impl.CGray
			h.Gray = append(h.Gray, place)
		}
		then(h)
	}
}

func TestUnitsOfRoots(t *testing.T) {
	five := heapOf(impl.PRoots,
		withLast(impl.LWants, used(5, pair(at(1), at(4)))),
		used(2),
		withLast(impl.LDue, used(3)),
		withLast(impl.LTold, used(4)),
		withLast(impl.LWants, used(1)),
	)
	five.Regs[0], five.Regs[9] = at(1), at(3)
	shaded := with(five, func(h *impl.Heap) {
		h.Cells[0].Color, h.Cells[2].Color, h.Cells[4].Color = impl.CGray, impl.CBlack, impl.CGray
		h.Gray = []int{4, 0}
	})
	idle := with(five, func(h *impl.Heap) { h.Phase = impl.PIdle })
	checkUnits(t, []unit{
		{"one that wants, at the beginning", five, grayed(handTo(1), 0)},
		{"one that wants nothing, and a register", atHand(1, with(five, grayed(handTo(1), 0))), handTo(2)},
		{"one that is due, behind another", atHand(2, with(five, grayed(handTo(2), 0))), grayed(handTo(3), 2)},
		{"one that was told", atHand(3, with(five, grayed(handTo(3), 0, 2))), handTo(4)},
		{"the last, behind two", atHand(4, with(five, grayed(handTo(4), 0, 2))), grayed(handTo(5), 4)},
		{"the end, with Gray", atHand(5, with(five, grayed(handTo(5), 2, 0, 4))), phaseTo(impl.PMark, 0)},
		{"one that is gray", shaded, handTo(1)},
		{"one that is black", atHand(2, shaded), handTo(3)},
		{"the last one, gray", atHand(4, shaded), handTo(5)},
		{"the end", atHand(5, shaded), phaseTo(impl.PMark, 0)},
		{"a free cell", heapOf(impl.PRoots, free(), used(1)), handTo(1)},
		{"no cells", heapOf(impl.PRoots), phaseTo(impl.PMark, 0)},
		{"the round is begun", idle, grayed(func(h *impl.Heap) { h.Phase, h.Hand = impl.PRoots, 1 }, 0)},
		{"the round is begun, without cells", impl.Fresh(7), phaseTo(impl.PMark, 0)},
	})
}

func TestUnitsOfMarkInPairs(t *testing.T) {
	// The cell at 2 is the first in Gray, the one at 0 the second.
	marking := func(pairs ...impl.Pair) impl.Heap {
		h := heapOf(impl.PMark,
			colored(impl.CGray, used(1, pair(at(3), at(4)))),
			colored(impl.CBlack, used(2, pair(at(0), at(2)))),
			colored(impl.CGray, used(3, pairs...)),
			used(4),
			used(5, pair(at(3), at(5))),
			used(6),
		)
		h.Gray = []int{2, 0}
		h.Regs[0] = at(5)
		return h
	}
	sub := func(n int) func(h *impl.Heap) { return func(h *impl.Heap) { h.Sub = n } }
	black := func(h *impl.Heap) {
		h.Cells[2].Color = impl.CBlack
		h.Gray = h.Gray[1:]
		h.Sub = 0
	}
	late := marking(impl.Pair{}, pair(num(3), num(4)), pair(at(5), at(3)))
	checkUnits(t, []unit{
		{"Key ahead of Val", marking(pair(at(4), at(3))), grayed(sub(1), 4, 3)},
		{"Val", marking(pair(none(), at(3))), grayed(sub(1), 3)},
		{"Key", marking(pair(at(4), num(3))), grayed(sub(1), 4)},
		{"both the same", marking(pair(at(5), at(5))), grayed(sub(1), 5)},
		{"itself", marking(pair(at(2), at(2))), sub(1)},
		{"gray and black", marking(pair(at(0), at(1))), sub(1)},
		{"black and white", marking(pair(at(1), at(3))), grayed(sub(1), 3)},
		{"nothing", marking(impl.Pair{}), sub(1)},
		{"numbers like places", marking(pair(num(3), num(4))), sub(1)},
		{"only one pair a unit", late, sub(1)},
		{"in the midst", with(late, sub(1)), sub(2)},
		{"the last pair", with(late, sub(2)), grayed(sub(3), 5, 3)},
		{"behind the last pair", with(late, grayed(sub(3), 5, 3)), black},
		{"without pairs", marking(), black},
		{"weak ones like others", with(marking(pair(at(4), at(3))), func(h *impl.Heap) { h.Cells[2].Weak = 3 }), grayed(sub(1), 4, 3)},
	})
	alone := heapOf(impl.PMark, colored(impl.CGray, used(1)))
	alone.Gray = []int{0}
	checkUnits(t, []unit{{"the last in Gray", alone, func(h *impl.Heap) { h.Gray, h.Cells[0].Color = nil, impl.CBlack }}})
}

func TestUnitsOfMarkInRegisters(t *testing.T) {
	h := heapOf(impl.PMark,
		used(1, pair(at(4), at(4))),
		colored(impl.CBlack, used(2)),
		used(3),
		free(),
		used(4),
	)
	regs := func(list map[int]impl.Word) impl.Heap {
		return with(h, func(h *impl.Heap) {
			for i, w := range list {
				h.Regs[i] = w
			}
		})
	}
	nothing := func(h *impl.Heap) {}
	checkUnits(t, []unit{
		{"in order", regs(map[int]impl.Word{0: at(4), 3: num(2), 5: at(0), 15: at(2)}), grayed(nothing, 4, 0, 2)},
		{"two lead to one", regs(map[int]impl.Word{1: at(2), 2: at(0), 14: at(2)}), grayed(nothing, 2, 0)},
		{"a black one and a white one", regs(map[int]impl.Word{0: at(1), 1: at(4)}), grayed(nothing, 4)},
		{"a black one", regs(map[int]impl.Word{0: at(1), 15: at(1)}), phaseTo(impl.PSweep, 0)},
		{"numbers like places", regs(map[int]impl.Word{0: num(0), 1: num(2)}), phaseTo(impl.PSweep, 0)},
		{"nothing", h, phaseTo(impl.PSweep, 0)},
		{"no cells", heapOf(impl.PMark), phaseTo(impl.PSweep, 0)},
	})
}

// What comes into a register behind a look is found by the next look.
func TestRegistersAreLookedAtAgain(t *testing.T) {
	h := heapOf(impl.PMark, used(1), used(2, pair(at(2), none())), used(3))
	for _, place := range []int{0, 1} {
		h.Regs[4] = at(place)
		h = impl.Step(h, 1).Heap
		if h.Phase != impl.PMark || !slices.Equal(h.Gray, []int{place}) {
			t.Fatalf("%+v", h)
		}
		units := 1 + len(h.Cells[place].Pairs)
		h = impl.Step(h, units).Heap
		if place == 1 {
			if !slices.Equal(h.Gray, []int{2}) {
				t.Fatalf("%+v", h)
			}
			h = impl.Step(h, 1).Heap
		}
		if h.Phase != impl.PMark || len(h.Gray) != 0 {
			t.Fatalf("%+v", h)
		}
	}
	h = impl.Step(h, 1).Heap
	if h.Phase != impl.PSweep || h.Cells[0].Color != impl.CBlack || h.Cells[2].Color != impl.CBlack {
		t.Fatalf("%+v", h)
	}
}

func TestUnitsOfSweep(t *testing.T) {
	h := heapOf(impl.PSweep,
		colored(impl.CBlack, withLast(impl.LWants, used(1, pair(at(3), none())))),
		withLast(impl.LTold, used(2, pair(at(2), at(4)), pair(at(1), at(0)), impl.Pair{})),
		free(),
		colored(impl.CBlack, used(3, pair(at(0), at(3)))),
		used(4),
	)
	h.Regs[0] = at(3)
	freed := func(place, units int) func(h *impl.Heap) {
		return func(h *impl.Heap) {
			h.Cells[place] = free()
			h.Used -= units
			h.Hand++
		}
	}
	white := func(place int) func(h *impl.Heap) {
		return func(h *impl.Heap) {
			h.Cells[place].Color = impl.CWhite
			h.Hand++
		}
	}
	first := with(h, white(0))
	second := with(first, freed(1, 4))
	fourth := with(atHand(3, second), white(3))
	last := with(fourth, freed(4, 1))
	kept := atHand(2, heapOf(impl.PSweep, used(1), used(2, pair(at(0), none())), colored(impl.CBlack, used(3))))
	checkUnits(t, []unit{
		{"a black one at the beginning", h, white(0)},
		{"a white one with pairs", first, freed(1, 4)},
		{"a free one", second, handTo(3)},
		{"a black one in the midst", atHand(3, second), white(3)},
		{"the last, white", fourth, freed(4, 1)},
		{"the last, black", kept, white(2)},
		{"the end", last, phaseTo(impl.PMove, 0)},
		{"the end, white ones below Hand stay", with(kept, white(2)), phaseTo(impl.PMove, 0)},
		{"no cells", heapOf(impl.PSweep), phaseTo(impl.PMove, 0)},
		{"the only one", heapOf(impl.PSweep, used(1)), freed(0, 1)},
	})
}

func TestUnitsOfMove(t *testing.T) {
	wide := withLast(impl.LDue, weak(2, kind(9, used(4, pair(at(5), at(0)), pair(num(5), at(5))))))
	h := heapOf(impl.PMove, used(1, pair(at(5), at(2))), free(), used(2, pair(none(), at(5))), free(), used(3), wide, free())
	h.Regs[0], h.Regs[1], h.Regs[2], h.Regs[15] = at(0), at(5), num(5), at(5)
	moveTo := func(from, to int) func(h *impl.Heap) {
		return func(h *impl.Heap) {
			h.Cells[to] = h.Cells[from]
			h.Cells[from] = moved(to)
			for i, w := range h.Regs {
				if w == at(from) {
					h.Regs[i] = at(to)
				}
			}
		}
	}
	first := with(h, moveTo(5, 1))
	if first.Regs[1] != at(1) || first.Regs[15] != at(1) || first.Regs[2] != num(5) || first.Cells[1].Pairs[0].Key != at(5) {
		t.Fatal("the case is not what it seems")
	}
	second := with(first, moveTo(4, 3))
	end := phaseTo(impl.PMend, 0)
	checkUnits(t, []unit{
		{"the least free place and the greatest used one", h, moveTo(5, 1)},
		{"the next ones", first, moveTo(4, 3)},
		{"the free one is above all used ones", second, end},
		{"none is free", heapOf(impl.PMove, used(1), used(2)), end},
		{"none is free, some have moved", heapOf(impl.PMove, used(1), used(2), moved(0), moved(1)), end},
		{"none is used", heapOf(impl.PMove, free(), free()), end},
		{"free behind used", heapOf(impl.PMove, used(1), free()), end},
		{"used behind free", heapOf(impl.PMove, free(), used(1)), moveTo(1, 0)},
		{"used between free", heapOf(impl.PMove, free(), used(1), free()), moveTo(1, 0)},
		{"no cells", heapOf(impl.PMove), end},
	})
}

// Each cell takes all that it has along, and its old place is left with nothing but To.
func TestWhatMoves(t *testing.T) {
	c := withLast(impl.LTold, weak(3, kind(impl.MaxKind, used(8, pair(at(1), num(7)), impl.Pair{}))))
	h := heapOf(impl.PMove, free(), c)
	got := impl.Step(h, 1).Heap
	if !reflect.DeepEqual(got.Cells[0], c) || !sameHeap(impl.Heap{Cells: got.Cells[1:]}, impl.Heap{Cells: []impl.Cell{moved(0)}}) || got.Used != 3 {
		t.Errorf("%+v", got.Cells)
	}
}

// A sweep leaves what moving finds, in one step or in many.
func TestMovesBehindASweep(t *testing.T) {
	h := heapOf(impl.PSweep, used(1), colored(impl.CBlack, used(2)), used(3), used(4), colored(impl.CBlack, used(5)), colored(impl.CBlack, used(6)), used(7))
	h.Regs[0], h.Regs[1], h.Regs[2] = at(1), at(4), at(5)
	want := heapOf(impl.PMend, used(6), used(2), used(5), free(), moved(2), moved(0), free())
	want.Born = 7
	want.Regs[0], want.Regs[1], want.Regs[2] = at(1), at(2), at(0)
	for cut := range 12 {
		got := impl.Step(impl.Step(h, cut).Heap, 11-cut).Heap
		if !sameHeap(got, want) {
			t.Errorf("cut at %d: %+v", cut, got)
		}
	}
}

func TestUnitsOfMend(t *testing.T) {
	h := heapOf(impl.PMend,
		used(1, pair(at(5), at(6)), pair(at(1), num(5)), pair(at(5), at(5))),
		used(2),
		free(),
		used(3, pair(none(), at(6)), pair(at(6), at(3))),
		used(4),
		moved(1),
		moved(4),
	)
	h.Regs[0] = num(5)
	mended := func(place, i int, p impl.Pair) func(h *impl.Heap) {
		return func(h *impl.Heap) {
			h.Cells[place].Pairs[i] = p
			h.Sub++
		}
	}
	next := func(h *impl.Heap) { h.Hand, h.Sub = h.Hand+1, 0 }
	first := with(h, mended(0, 0, pair(at(1), at(4))))
	second := with(first, func(h *impl.Heap) { h.Sub = 2 })
	third := with(second, mended(0, 2, pair(at(1), at(1))))
	midway := with(atHand(3, third), func(h *impl.Heap) { h.Sub = 0 })
	ended := with(atHand(7, midway), func(h *impl.Heap) {
		h.Cells[3].Pairs[0].Val, h.Cells[3].Pairs[1].Key = at(4), at(4)
	})
	checkUnits(t, []unit{
		{"both words at the beginning", h, mended(0, 0, pair(at(1), at(4)))},
		{"a word that stays, and a number like a moved one's place", first, mended(0, 1, pair(at(1), num(5)))},
		{"the last pair", second, mended(0, 2, pair(at(1), at(1)))},
		{"behind the last pair", third, next},
		{"a cell without pairs", with(third, next), next},
		{"a free cell", with(with(third, next), next), next},
		{"a Val in the midst", midway, mended(3, 0, pair(none(), at(4)))},
		{"a Key in the midst", with(midway, mended(3, 0, pair(none(), at(4)))), mended(3, 1, pair(at(4), at(3)))},
		{"a moved cell", atHand(5, ended), next},
		{"the last cell", atHand(6, ended), next},
		{"the end", ended, phaseTo(impl.PClose, 7)},
		{"no cells", heapOf(impl.PMend), phaseTo(impl.PClose, 0)},
		{"none has moved", heapOf(impl.PMend, used(1, pair(at(0), at(0)))), func(h *impl.Heap) { h.Sub = 1 }},
	})
}

func TestUnitsOfClose(t *testing.T) {
	h := heapOf(impl.PClose, used(1), moved(0), used(2, pair(at(0), at(3))), used(3), free(), moved(2), free())
	h.Regs[0] = at(3)
	dropped := func(h *impl.Heap) {
		h.Hand--
		h.Cells = h.Cells[:h.Hand]
	}
	freed := func(h *impl.Heap) {
		h.Hand--
		h.Cells[h.Hand] = free()
	}
	ended := func(rounds int) func(h *impl.Heap) {
		return func(h *impl.Heap) { h.Phase, h.Rounds = impl.PIdle, rounds }
	}
	counts := func(rounds int) impl.Heap {
		h := heapOf(impl.PClose, used(1), free(), used(2))
		h.Rounds = rounds
		return h
	}
	six := with(atHand(7, h), dropped)
	four := with(with(six, dropped), dropped)
	checkUnits(t, []unit{
		{"the last, free", atHand(7, h), dropped},
		{"the last, moved", six, dropped},
		{"the last once more", with(six, dropped), dropped},
		{"the last, used", four, handTo(3)},
		{"used in the midst", atHand(3, four), handTo(2)},
		{"moved in the midst", atHand(2, four), freed},
		{"free in the midst", atHand(2, with(four, func(h *impl.Heap) { h.Cells[1] = free() })), handTo(1)},
		{"moved, with a free one behind it", atHand(2, heapOf(impl.PClose, used(1), moved(0), free())), freed},
		{"free, with a free one behind it", atHand(2, heapOf(impl.PClose, used(1), free(), free())), handTo(1)},
		{"the first", atHand(1, heapOf(impl.PClose, used(1), free())), handTo(0)},
		{"the first and only one, free", atHand(1, heapOf(impl.PClose, free())), dropped},
		{"the end", counts(0), ended(1)},
		{"the end, later", counts(41), ended(42)},
		{"the end before MaxCount", counts(impl.MaxCount - 1), ended(impl.MaxCount)},
		{"the end at MaxCount", counts(impl.MaxCount), ended(impl.MaxCount)},
		{"no cells", heapOf(impl.PClose), ended(1)},
	})
}

// The units of a whole round, by Phase: as many as the document counts, and none for its beginning.
func TestHowManyUnits(t *testing.T) {
	h := led([]int{3}, used(1), used(2), free(), used(3, pair(at(4), num(1)), impl.Pair{}), withLast(impl.LWants, used(4)), used(5))
	want := []int{0, 6 + 1, 1 + 1 + 3 + 1, 6 + 1, 2 + 1, 2 + 6 + 1, 6 + 1}
	got, all, sum := make([]int, 7), 0, 0
	for now := h; all == 0 || now.Phase != impl.PIdle; all++ {
		got[max(now.Phase, impl.PRoots)]++
		now = impl.Step(now, 1).Heap
	}
	for _, n := range want {
		sum += n
	}
	if !slices.Equal(got, want) || all != sum || impl.Step(h, impl.MaxStep).Units != sum {
		t.Errorf("units by Phase %v, want %v; in all %d, want %d", got, want, all, sum)
	}
}

// In each Phase: the places of a white cell, a gray one, a black one, a free one, a moved one, where there are such.
func TestShadeInEachPhase(t *testing.T) {
	for _, of := range []struct {
		name                            string
		white, gray, black, free, moved int
	}{
		{"idle, full", 0, -1, -1, 2, -1},
		{"roots, begun", 1, -1, -1, 2, -1},
		{"roots, midway", 3, 4, 2, 1, -1},
		{"roots, ended", -1, 3, 2, 1, -1},
		{"mark, midway", 0, 1, 3, 2, -1},
		{"mark, Gray empty", 1, -1, 0, -1, -1},
		{"sweep, begun", 1, -1, 0, -1, -1},
		{"sweep, midway", 3, -1, 4, 1, -1},
		{"move, begun", 1, -1, -1, 0, -1},
		{"move, midway", 4, -1, -1, 3, 5},
		{"mend, midway", 1, -1, -1, 3, 4},
		{"close, begun", 0, -1, -1, -1, 2},
		{"close, midway", 1, -1, -1, 3, 2},
	} {
		h := heapNamed(t, of.name)
		for _, place := range []int{of.white, of.gray, of.black} {
			if place < 0 {
				continue
			}
			want := clone(h)
			if place == of.white && (h.Phase == impl.PRoots || h.Phase == impl.PMark) {
				want.Cells[place].Color = impl.CGray
				want.Gray = append(want.Gray, place)
			}
			if got := impl.Shade(h, place); !sameHeap(got, want) || h.Cells[place].State != impl.SUsed {
				t.Errorf("%s: Shade at %d: %+v, want %+v", of.name, place, got, want)
			}
		}
		for _, place := range []int{of.free, of.moved, -1, len(h.Cells), math.MinInt, math.MaxInt} {
			wantZeroHeap(t, of.name, impl.Shade(h, place))
		}
	}
	wantZeroHeap(t, "no cells", impl.Shade(impl.Fresh(3), 0))
}

// A shaded cell and what it leads to outlast the round that is on, and no longer.
func TestShadedCellsLiveOn(t *testing.T) {
	h := led([]int{2}, used(1, pair(at(1), none())), used(2), used(3))
	for _, units := range []int{1, 4, 5, 6} {
		on := impl.Step(h, units).Heap
		end := impl.Step(impl.Shade(on, 0), impl.MaxStep).Heap
		if len(end.Cells) != 3 || end.Used != 4 {
			t.Errorf("shaded behind %d units: %+v", units, end)
		}
		if end = impl.Step(end, impl.MaxStep).Heap; len(end.Cells) != 1 || end.Used != 1 {
			t.Errorf("behind the next round: %+v", end)
		}
		if end = impl.Step(on, impl.MaxStep).Heap; len(end.Cells) != 1 {
			t.Errorf("not shaded behind %d units: %+v", units, end)
		}
	}
}

func TestStepInAndOutOfRange(t *testing.T) {
	for _, s := range soundHeaps() {
		if got := impl.Step(s.heap, 0); got.Units != 0 || !sameHeap(got.Heap, s.heap) {
			t.Errorf("%s: by 0: %+v", s.name, got)
		}
		one, all := impl.Step(s.heap, 1), impl.Step(s.heap, impl.MaxStep)
		if one.Units != 1 || one.Heap.Phase == impl.PIdle != (all.Units == 1) {
			t.Errorf("%s: by 1: %+v", s.name, one)
		}
		if all.Heap.Phase != impl.PIdle || all.Heap.Rounds != s.heap.Rounds+1 || all.Units < 1 {
			t.Errorf("%s: by MaxStep: %+v", s.name, all)
		}
		if left := impl.Left(s.heap); (left == 0) != (s.heap.Phase == impl.PIdle) || left != 0 && left != all.Units {
			t.Errorf("%s: Left %d, units %d", s.name, left, all.Units)
		}
		for _, n := range []int{-1, impl.MaxStep + 1, math.MinInt, math.MaxInt} {
			got := impl.Step(s.heap, n)
			wantZeroHeap(t, s.name, got.Heap)
			if got.Units != 0 {
				t.Errorf("%s: by %d: %d units", s.name, n, got.Units)
			}
		}
	}
}

// The step ends where the round does, and the next one begins a new round.
func TestTheRoundEndsInsideTheStep(t *testing.T) {
	h := heapNamed(t, "idle, full")
	whole := impl.Step(h, impl.MaxStep)
	for over := range 5 {
		got := impl.Step(h, whole.Units+over)
		if got.Units != whole.Units || !sameHeap(got.Heap, whole.Heap) || got.Heap.Rounds != 7 {
			t.Errorf("%d units over: %+v", over, got)
		}
	}
	next := impl.Step(whole.Heap, 1)
	if next.Units != 1 || next.Heap.Phase != impl.PRoots || next.Heap.Hand != 1 || next.Heap.Rounds != 7 {
		t.Errorf("%+v", next)
	}
	empty := impl.Fresh(1)
	if got := impl.Step(empty, impl.MaxStep); got.Units != 6 || got.Heap.Rounds != 1 {
		t.Errorf("no cells: %+v", got)
	}
}

func TestRoundFromEachPhase(t *testing.T) {
	for _, s := range soundHeaps() {
		got := impl.Round(s.heap)
		rounds := s.heap.Rounds + 1
		if s.heap.Phase != impl.PIdle {
			rounds++
		}
		if got.Rounds != rounds || !sameHeap(got, slowRound(s.heap)) {
			t.Errorf("%s: %+v", s.name, got)
		}
		wantTidy(t, s.name, got)
		wantSeenTheSame(t, s.name, looksOf(s.heap), got)
	}
	h := heapNamed(t, "idle, full")
	want := heapOf(impl.PIdle, h.Cells[0], h.Cells[1], h.Cells[4], h.Cells[3])
	want = with(want, func(h *impl.Heap) {
		h.Cells[0].Pairs[1].Key = at(2)
		h.Born, h.Per, h.Start, h.Rounds, h.Forced = 9, 3, 50, 7, 7
		h.Regs[0], h.Regs[7], h.Regs[15] = at(0), num(-5), at(2)
	})
	if got := impl.Round(h); !sameHeap(got, want) {
		t.Errorf("%+v, want %+v", got, want)
	}
}

func TestRoundsStayAtMaxCount(t *testing.T) {
	for start, want := range map[int]int{impl.MaxCount - 2: impl.MaxCount, impl.MaxCount - 1: impl.MaxCount, impl.MaxCount: impl.MaxCount} {
		h := clone(heapNamed(t, "mark, midway"))
		h.Rounds = start
		if got := impl.Round(h); got.Rounds != want || impl.HeapOk(got) != 0 {
			t.Errorf("Rounds %d from %d", got.Rounds, start)
		}
	}
}

// What a round that is on has marked or left is freed by the whole one behind it.
func TestTwoRoundsInOne(t *testing.T) {
	h := heapOf(impl.PSweep, used(1), colored(impl.CBlack, used(2)), used(3, pair(at(0), at(0))))
	h.Hand = 1
	if got := impl.Round(h); len(got.Cells) != 0 || got.Used != 0 || got.Rounds != 2 {
		t.Errorf("%+v", got)
	}
	if got := impl.Step(h, impl.MaxStep).Heap; len(got.Cells) != 2 || got.Used != 2 || got.Rounds != 1 {
		t.Errorf("%+v", got)
	}
}

func TestChapter3WhereTheHeapIsNotSound(t *testing.T) {
	for rule, h := range spoiledByRule(t) {
		wantRule(t, "spoiled", h, rule)
		wantNoRound(t, "spoiled", h)
	}
	wantNoRound(t, "zero value", impl.Heap{})
	wantNoRound(t, "a word that is far off", heapWithWord(at(1<<60)))
	wantNoRound(t, "a million cells", impl.Heap{Room: 4000, Regs: make([]impl.Word, impl.MaxRegs), Cells: make([]impl.Cell, 1000000)})
}

// spoiledByRule has for each rule a heap that breaks it first.
func spoiledByRule(t *testing.T) map[int]impl.Heap {
	t.Helper()
	base := heapNamed(t, "mark, midway")
	return map[int]impl.Heap{
		1: with(base, func(h *impl.Heap) { h.Regs = h.Regs[1:] }),
		2: with(base, func(h *impl.Heap) { h.Cells[0].Born = 4 }),
		3: with(base, func(h *impl.Heap) { h.Used-- }),
		4: with(base, func(h *impl.Heap) { h.Regs[0] = at(2) }),
		5: with(base, func(h *impl.Heap) { h.Gray = nil }),
		6: with(base, func(h *impl.Heap) { h.Sub = 3 }),
		7: with(base, func(h *impl.Heap) { h.Cells[3].Pairs[0].Val = at(0) }),
		8: with(heapNamed(t, "close, begun"), func(h *impl.Heap) { h.Hand = 3 }),
	}
}

// As many cells as there can be, all in Gray, all reached or none, with their moved ones behind them.
func TestGreatRounds(t *testing.T) {
	h := crowded(impl.PMove)
	wantGreat(t, "moved ones", h, 4000, 1)
	h = withRoom(heapOf(impl.PMark, make([]impl.Cell, 2*impl.MaxRoom)...))
	h.Born = impl.MaxRoom
	for i := range impl.MaxRoom {
		h.Cells[2*i+1] = colored(impl.CGray, used(impl.MaxRoom-i))
		h.Gray = append(h.Gray, 2*i+1)
	}
	h.Used = impl.MaxRoom
	h.Regs[3] = at(2*impl.MaxRoom - 1)
	wantGreat(t, "all gray", h, 4000, 1)
	for i := range h.Cells {
		if h.Cells[i].State == impl.SUsed {
			h.Cells[i].Last = impl.LWants
		}
	}
	wantGreat(t, "all gray, and reached", h, 4000, 4000)
	half := heapOf(impl.PIdle, make([]impl.Cell, 6000)...)
	for place := 1; place < 6000; place += 3 {
		next := at((place + 3) % 6000)
		half.Cells[place] = used(1+place, pair(next, next))
	}
	half = withRoom(half)
	half.Regs[7] = at(1)
	wantGreat(t, "a ring of cells", half, 4000, 4000)
}

// wantGreat goes some way through the round that is on, to its end, and then does a whole one.
func wantGreat(t *testing.T, name string, h impl.Heap, used, live int) {
	t.Helper()
	wantRule(t, name, h, 0)
	before := looksOf(h)
	for _, n := range []int{0, 1, 2, 3999, 4000, 12000, impl.MaxStep} {
		if got, want := impl.Step(h, n), slowStep(h, n); got.Units != want.Units || !sameHeap(got.Heap, want.Heap) {
			t.Fatalf("%s: behind %d units %d cells, want %d", name, n, len(got.Heap.Cells), len(want.Heap.Cells))
		}
	}
	got := impl.Round(h)
	if h.Used != used || got.Used != live || before.live != live {
		t.Errorf("%s: Used %d, behind Round %d, Live %d", name, h.Used, got.Used, before.live)
	}
	wantTidy(t, name, got)
	wantSeenTheSame(t, name, before, got)
}

// answers of the chapter for a sound heap, each by itself.
func heapsOf(h impl.Heap) []impl.Heap {
	list := []impl.Heap{impl.Round(h)}
	for _, n := range []int{0, 1, 2, 5, 9, impl.MaxStep} {
		list = append(list, impl.Step(h, n).Heap)
	}
	for place := range h.Cells {
		list = append(list, impl.Shade(h, place))
	}
	return list
}

func TestChapter3LeavesArguments(t *testing.T) {
	for _, s := range soundHeaps() {
		h, look := padded(s.heap)
		before := look()
		first := heapsOf(h)
		left := impl.Left(h)
		for i, again := range heapsOf(h) {
			if !sameHeap(first[i], again) {
				t.Errorf("%s: the same argument, another answer", s.name)
			}
		}
		spoiled := h
		spoiled.Used++
		wantNoRound(t, s.name, spoiled)
		if left != impl.Left(h) || !reflect.DeepEqual(look(), before) {
			t.Errorf("%s: the argument was changed", s.name)
		}
	}
}

// scribble writes into a list to the end of its memory.
func scribble[T any](list []T, mark T) {
	list = list[:cap(list)]
	for i := range list {
		list[i] = mark
	}
}

// What is written into one list of an answer is seen neither in its other lists nor in the argument.
func TestChapter3SharesNothing(t *testing.T) {
	for _, s := range soundHeaps() {
		h, look := padded(s.heap)
		before := look()
		for _, got := range heapsOf(h) {
			for i := range got.Cells {
				kept := clone(got)
				scribble(got.Cells[i].Pairs, pair(num(123), num(123)))
				now := clone(got)
				now.Cells[i].Pairs, kept.Cells[i].Pairs = nil, nil
				if !sameHeap(now, kept) {
					t.Errorf("%s: lists of the answer share memory", s.name)
				}
			}
			scribble(got.Gray, 123)
			scribble(got.Regs, num(123))
			scribble(got.Cells, moved(123))
		}
		if !reflect.DeepEqual(look(), before) {
			t.Errorf("%s: the answer shares memory with the argument", s.name)
		}
	}
}
