package tests

import "loop.example/spool/impl"

func none() impl.Word { return impl.Word{} }

func num(n int64) impl.Word { return impl.Word{Kind: impl.WNum, Num: n} }

func at(place int) impl.Word { return impl.Word{Kind: impl.WAt, At: place} }

func pair(key, val impl.Word) impl.Pair { return impl.Pair{Key: key, Val: val} }

// used is a white cell with that Born and these pairs.
func used(born int, pairs ...impl.Pair) impl.Cell {
	return impl.Cell{State: impl.SUsed, Born: born, Pairs: pairs}
}

func colored(color int, c impl.Cell) impl.Cell {
	c.Color = color
	return c
}

func withLast(last int, c impl.Cell) impl.Cell {
	c.Last = last
	return c
}

func free() impl.Cell { return impl.Cell{} }

func moved(to int) impl.Cell { return impl.Cell{State: impl.SMoved, To: to} }

// heapOf is a heap with room to spare around these cells; Used and Born are counted from them.
func heapOf(phase int, cells ...impl.Cell) impl.Heap {
	h := impl.Heap{Room: 1000, Phase: phase, Regs: make([]impl.Word, impl.MaxRegs), Cells: cells}
	for _, c := range cells {
		if c.State == impl.SUsed {
			h.Used += 1 + len(c.Pairs)
			h.Born = max(h.Born, c.Born)
		}
	}
	return h
}

func clone(h impl.Heap) impl.Heap {
	h.Regs = append([]impl.Word(nil), h.Regs...)
	h.Gray = append([]int(nil), h.Gray...)
	h.Cells = append([]impl.Cell(nil), h.Cells...)
	for i := range h.Cells {
		h.Cells[i].Pairs = append([]impl.Pair(nil), h.Cells[i].Pairs...)
	}
	return h
}

type named struct {
	name string
	heap impl.Heap
}

// soundHeaps has several sound heaps of each Phase: at its beginning, midway, at its end.
func soundHeaps() []named {
	var all []named
	all = append(all, idleHeaps()...)
	all = append(all, rootsHeaps()...)
	all = append(all, markHeaps()...)
	all = append(all, sweepHeaps()...)
	all = append(all, moveHeaps()...)
	all = append(all, mendHeaps()...)
	return append(all, closeHeaps()...)
}

func idleHeaps() []named {
	full := heapOf(impl.PIdle,
		used(3, pair(num(7), at(1)), pair(at(2), none())),
		withLast(impl.LTold, used(1)),
		free(),
		withLast(impl.LWants, used(5, pair(at(0), at(3)))),
		withLast(impl.LDue, used(4, pair(num(-1), num(1<<62)))),
	)
	full.Cells[0].Pairs[1].Key = at(4)
	full.Cells[1].Weak = 3
	full.Cells[3].Kind = impl.MaxKind
	full.Born = 9
	full.Regs[0] = at(0)
	full.Regs[7] = num(-5)
	full.Regs[15] = at(4)
	full.Per, full.Start, full.Rounds, full.Forced = 3, 50, 6, 7
	return []named{{"idle, empty", impl.Fresh(1)}, {"idle, full", full}}
}

func rootsHeaps() []named {
	begun := heapOf(impl.PRoots,
		withLast(impl.LWants, used(1, pair(at(1), none()))),
		used(2),
		free(),
	)
	begun.Regs[1] = at(1)
	midway := heapOf(impl.PRoots,
		withLast(impl.LDue, colored(impl.CGray, used(1, pair(at(3), none())))),
		free(),
		withLast(impl.LWants, colored(impl.CBlack, used(6, pair(at(0), at(2))))),
		withLast(impl.LWants, used(3)),
		colored(impl.CGray, used(4)),
	)
	midway.Hand = 3
	midway.Gray = []int{4, 0}
	midway.Regs[0] = at(3)
	ended := clone(midway)
	ended.Cells[3].Color = impl.CGray
	ended.Gray = []int{4, 0, 3}
	ended.Hand = 5
	return []named{{"roots, begun", begun}, {"roots, midway", midway}, {"roots, ended", ended}}
}

func markHeaps() []named {
	midway := heapOf(impl.PMark,
		used(1, pair(at(1), at(0))),
		colored(impl.CGray, used(2, pair(at(3), num(4)), pair(at(0), at(4)))),
		free(),
		withLast(impl.LWants, colored(impl.CBlack, used(3, pair(at(1), at(3))))),
		withLast(impl.LDue, colored(impl.CGray, used(4, pair(at(0), none())))),
	)
	midway.Gray = []int{1, 4}
	midway.Sub = 1
	midway.Regs[2] = at(0)
	drained := heapOf(impl.PMark, colored(impl.CBlack, used(1)), used(2, pair(at(0), at(1))))
	drained.Regs[3] = at(1)
	return []named{{"mark, midway", midway}, {"mark, Gray empty", drained}}
}

// In the second heap the cell at 3 is doomed, and its words lead to a free cell, a new one and doomed ones.
func sweepHeaps() []named {
	begun := heapOf(impl.PSweep, colored(impl.CBlack, used(1)), used(2, pair(at(0), at(1))))
	begun.Regs[0] = at(0)
	midway := heapOf(impl.PSweep,
		withLast(impl.LWants, used(1, pair(at(4), at(0)))),
		free(),
		used(7),
		withLast(impl.LTold, used(2, pair(at(1), at(2)), pair(at(3), at(5)), pair(at(6), at(4)))),
		withLast(impl.LDue, colored(impl.CBlack, used(3, pair(at(0), at(2))))),
		used(4),
		free(),
	)
	midway.Hand = 3
	midway.Regs[0], midway.Regs[1] = at(2), at(4)
	ended := heapOf(impl.PSweep, used(1, pair(at(2), none())), free(), used(2))
	ended.Hand = 3
	return []named{{"sweep, begun", begun}, {"sweep, midway", midway}, {"sweep, ended", ended}}
}

func moveHeaps() []named {
	begun := heapOf(impl.PMove, free(), used(1, pair(at(1), num(1))), free())
	begun.Regs[0] = at(1)
	midway := heapOf(impl.PMove,
		used(5, pair(at(6), at(1))),
		withLast(impl.LWants, used(2, pair(at(5), at(0)))),
		used(3),
		free(),
		used(4, pair(at(2), num(9))),
		moved(2),
		moved(0),
	)
	midway.Regs[0], midway.Regs[9] = at(0), at(4)
	return []named{{"move, begun", begun}, {"move, midway", midway}}
}

func mendHeaps() []named {
	midway := heapOf(impl.PMend,
		used(5, pair(at(0), at(1))),
		used(2, pair(at(2), at(0)), pair(at(4), at(5))),
		withLast(impl.LDue, used(3, pair(at(1), at(4)))),
		free(),
		moved(2),
		moved(0),
		free(),
	)
	midway.Hand = 1
	midway.Sub = 1
	midway.Regs[4] = at(2)
	ended := clone(midway)
	ended.Cells[1].Pairs[1] = pair(at(2), at(0))
	ended.Cells[2].Pairs[0] = pair(at(1), at(2))
	ended.Hand, ended.Sub = 7, 0
	return []named{{"mend, midway", midway}, {"mend, ended", ended}}
}

func closeHeaps() []named {
	begun := heapOf(impl.PClose, used(1, pair(at(1), num(0))), used(2), moved(1), moved(0))
	begun.Hand = 4
	begun.Regs[0] = at(0)
	midway := clone(begun)
	midway.Cells[3] = free()
	midway.Hand = 3
	ended := heapOf(impl.PClose, used(1), free(), used(2))
	return []named{{"close, begun", begun}, {"close, midway", midway}, {"close, ended", ended}}
}
