package tests

import (
	"math"
	"reflect"
	"testing"

	"loop.example/spool/impl"
)

func wantRule(t *testing.T, name string, h impl.Heap, want int) {
	t.Helper()
	if got := impl.HeapOk(h); got != want {
		t.Errorf("%s: rule %d, want %d", name, got, want)
	}
}

func heapNamed(t *testing.T, name string) impl.Heap {
	t.Helper()
	for _, s := range soundHeaps() {
		if s.name == name {
			return s.heap
		}
	}
	t.Fatalf("no heap %q", name)
	return impl.Heap{}
}

func TestSoundInEachPhase(t *testing.T) {
	var seen [7]int
	for _, s := range soundHeaps() {
		wantRule(t, s.name, s.heap, 0)
		seen[s.heap.Phase]++
	}
	for phase, n := range seen {
		if n == 0 {
			t.Errorf("no sound heap in Phase %d", phase)
		}
	}
}

func TestZeroHeapIsNotSound(t *testing.T) {
	wantRule(t, "zero value", impl.Heap{}, 1)
}

type spoiling struct {
	name  string
	of    string
	spoil func(h *impl.Heap)
	want  int
}

func checkSpoilings(t *testing.T, list []spoiling) {
	t.Helper()
	for _, s := range list {
		h := clone(heapNamed(t, s.of))
		s.spoil(&h)
		wantRule(t, s.of+": "+s.name, h, s.want)
	}
}

func TestLimitsOfTheHeap(t *testing.T) {
	field := func(h *impl.Heap, name string) *int {
		return reflect.ValueOf(h).Elem().FieldByName(name).Addr().Interface().(*int)
	}
	for _, c := range []struct {
		name      string
		low, high int
	}{
		{"Room", 1, impl.MaxRoom},
		{"Born", 0, impl.MaxCount},
		{"Rounds", 0, impl.MaxCount},
		{"Forced", 0, impl.MaxCount},
		{"Per", 0, impl.MaxPer},
		{"Start", 0, impl.MaxRoom},
	} {
		for _, v := range []struct{ value, want int }{
			{c.low, 0}, {c.high, 0}, {c.low - 1, 1}, {c.high + 1, 1}, {math.MinInt, 1}, {math.MaxInt, 1},
		} {
			h := impl.Fresh(4)
			*field(&h, c.name) = v.value
			wantRule(t, c.name, h, v.want)
		}
	}
	for _, phase := range []int{-1, 7, math.MinInt, math.MaxInt} {
		h := impl.Fresh(4)
		h.Phase = phase
		wantRule(t, "Phase", h, 1)
	}
	for _, regs := range []int{0, 15, 17} {
		h := impl.Fresh(4)
		h.Regs = make([]impl.Word, regs)
		wantRule(t, "Regs", h, 1)
	}
}

func TestLimitsOfHandAndSub(t *testing.T) {
	for _, phase := range []int{impl.PRoots, impl.PSweep, impl.PMend, impl.PClose} {
		for hand, want := range map[int]int{-1: 1, 0: 0, 3: 0, 4: 1, math.MinInt: 1, math.MaxInt: 1} {
			h := heapOf(phase, free(), used(1), free())
			h.Hand = hand
			wantRule(t, "Hand", h, want)
		}
	}
	for sub, want := range map[int]int{-1: 1, 0: 0, 199: 0, 200: 0, 201: 1, math.MinInt: 1, math.MaxInt: 1} {
		wide := used(1, make([]impl.Pair, 200)...)
		h := heapOf(impl.PMark, colored(impl.CGray, wide))
		h.Gray = []int{0}
		h.Sub = sub
		wantRule(t, "Sub in PMark", h, want)
		h = heapOf(impl.PMend, wide)
		h.Sub = sub
		wantRule(t, "Sub in PMend", h, want)
	}
}

func TestLimitsOfCellsAndGray(t *testing.T) {
	h := heapOf(impl.PIdle, used(1), free(), free(), used(2))
	h.Room = 2
	wantRule(t, "2 * Room cells", h, 0)
	h.Cells = append(h.Cells, free())
	wantRule(t, "a cell too many", h, 1)

	h = heapOf(impl.PMark, colored(impl.CGray, used(1)), colored(impl.CGray, used(2)))
	h.Gray = []int{1, 0}
	wantRule(t, "as many in Gray as cells", h, 0)
	h.Gray = []int{1, 0, 0}
	wantRule(t, "one more in Gray than cells", h, 1)
	h = impl.Fresh(1)
	h.Gray = []int{0}
	wantRule(t, "Gray without cells", h, 1)
}

func TestLimitsOfUsedCells(t *testing.T) {
	for _, c := range []struct {
		name string
		set  func(c *impl.Cell, v int)
		high int
	}{
		{"Kind", func(c *impl.Cell, v int) { c.Kind = v }, impl.MaxKind},
		{"Weak", func(c *impl.Cell, v int) { c.Weak = v }, 3},
		{"Last", func(c *impl.Cell, v int) { c.Last = v }, 3},
		{"Color", func(c *impl.Cell, v int) { c.Color = v }, 2},
		{"Born", func(c *impl.Cell, v int) { c.Born = v }, 30},
		{"To", func(c *impl.Cell, v int) { c.To = v }, 0},
	} {
		low := 0
		if c.name == "Born" {
			low = 1
		}
		for _, v := range []struct{ value, want int }{
			{low, 0}, {c.high, 0}, {low - 1, 2}, {c.high + 1, 2}, {math.MinInt, 2}, {math.MaxInt, 2},
		} {
			h := heapOf(impl.PMark, colored(impl.CBlack, used(7)))
			h.Born = 30
			c.set(&h.Cells[0], v.value)
			wantRule(t, c.name, h, v.want)
		}
	}
	for pairs, want := range map[int]int{0: 0, 199: 0, 200: 0, 201: 2} {
		wantRule(t, "Pairs", heapOf(impl.PIdle, used(1, make([]impl.Pair, pairs)...)), want)
	}
}

func TestRule2(t *testing.T) {
	free1 := func(set func(c *impl.Cell)) func(h *impl.Heap) {
		return func(h *impl.Heap) { set(&h.Cells[2]) }
	}
	moved1 := func(set func(c *impl.Cell)) func(h *impl.Heap) {
		return func(h *impl.Heap) { set(&h.Cells[5]) }
	}
	fields := []struct {
		name string
		set  func(c *impl.Cell)
	}{
		{"Kind", func(c *impl.Cell) { c.Kind = 1 }},
		{"Weak", func(c *impl.Cell) { c.Weak = 1 }},
		{"Last", func(c *impl.Cell) { c.Last = 1 }},
		{"Born", func(c *impl.Cell) { c.Born = 1 }},
		{"Color", func(c *impl.Cell) { c.Color = 1 }},
		{"Pairs", func(c *impl.Cell) { c.Pairs = make([]impl.Pair, 1) }},
		{"State -1", func(c *impl.Cell) { c.State = -1 }},
		{"State 3", func(c *impl.Cell) { c.State = 3 }},
	}
	var list []spoiling
	for _, f := range fields {
		list = append(list,
			spoiling{"free with " + f.name, "idle, full", free1(f.set), 2},
			spoiling{"moved with " + f.name, "move, midway", moved1(f.set), 2})
	}
	list = append(list, spoiling{"free with To", "idle, full", free1(func(c *impl.Cell) { c.To = 1 }), 2})
	list = append(list, spoiling{"free with empty Pairs", "idle, full", free1(func(c *impl.Cell) { c.Pairs = []impl.Pair{} }), 0})
	list = append(list, spoiling{"moved with empty Pairs", "move, midway", moved1(func(c *impl.Cell) { c.Pairs = []impl.Pair{} }), 0})
	for to, want := range map[int]int{-1: 2, 0: 2, 1: 0, 2: 0, 3: 2, 4: 2, 5: 2, 6: 2, 7: 2, math.MinInt: 2, math.MaxInt: 2} {
		list = append(list, spoiling{"To", "move, midway", moved1(func(c *impl.Cell) { c.To = to }), want})
	}
	list = append(list,
		spoiling{"same Born, neighbours", "idle, full", func(h *impl.Heap) { h.Cells[1].Born = 3 }, 2},
		spoiling{"same Born, apart", "idle, full", func(h *impl.Heap) { h.Cells[4].Born = 3 }, 2},
		spoiling{"the heap's Born below a cell's", "idle, full", func(h *impl.Heap) { h.Born = 4 }, 2},
		spoiling{"the heap's Born that of a cell", "idle, full", func(h *impl.Heap) { h.Born = 5 }, 0},
	)
	checkSpoilings(t, list)
}

func TestMovedCellsByPhase(t *testing.T) {
	for phase := impl.PIdle; phase <= impl.PClose; phase++ {
		h := heapOf(phase, used(1), moved(0))
		if phase == impl.PSweep || phase == impl.PClose {
			h.Hand = 2
		}
		want := 0
		if phase < impl.PMove {
			want = 2
		}
		wantRule(t, "a moved cell", h, want)
	}
}

func TestFreeCellsBelowTo(t *testing.T) {
	for phase, want := range map[int]int{impl.PMove: 2, impl.PMend: 0, impl.PClose: 0} {
		below := heapOf(phase, used(1), free(), used(2), moved(2))
		above := heapOf(phase, used(1), used(2), free(), moved(1))
		if phase == impl.PClose {
			below.Hand, above.Hand = 4, 4
		}
		wantRule(t, "free below To", below, want)
		wantRule(t, "free above To", above, 0)
	}
	h := heapOf(impl.PMove, free(), used(1), moved(1), free())
	wantRule(t, "the least of two free ones below To", h, 2)
	h = heapOf(impl.PMove, used(1), free(), used(2), moved(0), moved(2))
	wantRule(t, "free below the To of the last moved one", h, 2)
	h = heapOf(impl.PMove, used(1), free(), used(2), moved(2), moved(0))
	wantRule(t, "free below the To of the first moved one", h, 2)
}

func TestRule3(t *testing.T) {
	full := func(room int) impl.Heap {
		h := heapOf(impl.PMend, used(1, make([]impl.Pair, 2)...), free(), used(2), moved(0))
		h.Room = room
		return h
	}
	wantRule(t, "Used is Room", full(4), 0)
	wantRule(t, "Used above Room", full(3), 3)
	for _, wrong := range []int{-4, 0, 3, 5, math.MinInt, math.MaxInt} {
		h := full(10)
		h.Used = wrong
		wantRule(t, "Used is not the sum", h, 3)
	}
	h := full(4)
	h.Cells = append(h.Cells, used(3))
	h.Born = 3
	wantRule(t, "the sum above Room, Used not", h, 3)
}

// A word is wrong alone, in a register or a pair, in a doomed cell or another.
func TestWordsNotFormed(t *testing.T) {
	for _, c := range []struct {
		w    impl.Word
		want int
	}{
		{impl.Word{}, 0},
		{impl.Word{Num: 1}, 4},
		{impl.Word{At: 1}, 4},
		{num(0), 0},
		{num(math.MinInt64), 0},
		{num(math.MaxInt64), 0},
		{impl.Word{Kind: impl.WNum, At: 1}, 4},
		{impl.Word{Kind: impl.WNum, Num: 1, At: -1}, 4},
		{at(0), 0},
		{at(4), 0},
		{at(7), 4},
		{at(-1), 4},
		{at(math.MaxInt), 4},
		{at(math.MinInt), 4},
		{impl.Word{Kind: impl.WAt, Num: 1}, 4},
		{impl.Word{Kind: 3}, 4},
		{impl.Word{Kind: -1}, 4},
		{impl.Word{Kind: math.MaxInt, Num: 1, At: 1}, 4},
	} {
		for reg := range impl.MaxRegs {
			h := clone(heapNamed(t, "sweep, midway"))
			h.Regs[reg] = c.w
			wantRule(t, "register", h, c.want)
		}
		for place := range 7 {
			h := heapNamed(t, "sweep, midway")
			for i := range h.Cells[place].Pairs {
				h = clone(h)
				h.Cells[place].Pairs[i] = pair(c.w, none())
				wantRule(t, "Key", h, c.want)
				h = clone(h)
				h.Cells[place].Pairs[i] = pair(none(), c.w)
				wantRule(t, "Val", h, c.want)
				h.Cells[place].Pairs[i] = impl.Pair{}
			}
		}
	}
}

func TestPlacesThatWordsHold(t *testing.T) {
	checkSpoilings(t, []spoiling{
		{"register to a free cell", "idle, full", func(h *impl.Heap) { h.Regs[3] = at(2) }, 4},
		{"last register to a free cell", "idle, full", func(h *impl.Heap) { h.Regs[15] = at(2) }, 4},
		{"Key to a free cell", "idle, full", func(h *impl.Heap) { h.Cells[4].Pairs[0].Key = at(2) }, 4},
		{"Val to a free cell", "idle, full", func(h *impl.Heap) { h.Cells[4].Pairs[0].Val = at(2) }, 4},
		{"register to the cell behind all", "idle, full", func(h *impl.Heap) { h.Regs[3] = at(5) }, 4},
		{"register to a moved cell", "move, midway", func(h *impl.Heap) { h.Regs[3] = at(5) }, 4},
		{"register to a moved cell", "mend, midway", func(h *impl.Heap) { h.Regs[3] = at(4) }, 4},
		{"register to a moved cell", "close, begun", func(h *impl.Heap) { h.Regs[3] = at(3) }, 4},
		{"Key to a moved cell", "close, begun", func(h *impl.Heap) { h.Cells[0].Pairs[0].Key = at(3) }, 4},
		{"Val to a moved cell", "close, begun", func(h *impl.Heap) { h.Cells[0].Pairs[0].Val = at(2) }, 4},
	})
	for phase := impl.PIdle; phase <= impl.PClose; phase++ {
		h := heapOf(phase, used(1, pair(num(1), at(1))), free())
		wantRule(t, "Val to a free cell", h, map[bool]int{true: 0, false: 4}[phase == impl.PSweep])
		h.Cells[0].Pairs[0].Val = none()
		h.Regs[0] = at(1)
		wantRule(t, "register to a free cell", h, 4)
	}
}

func TestDoomedCells(t *testing.T) {
	checkSpoilings(t, []spoiling{
		{"words to free cells", "sweep, midway", func(h *impl.Heap) { h.Cells[3].Pairs[0] = pair(at(1), at(6)) }, 0},
		{"words to a new cell", "sweep, midway", func(h *impl.Heap) { h.Cells[3].Pairs[0] = pair(at(2), at(4)) }, 0},
		{"words to doomed cells", "sweep, midway", func(h *impl.Heap) { h.Cells[3].Pairs[0] = pair(at(5), at(3)) }, 0},
		{"a word behind all cells", "sweep, midway", func(h *impl.Heap) { h.Cells[3].Pairs[2].Val = at(7) }, 4},
		{"a register to one", "sweep, midway", func(h *impl.Heap) { h.Regs[5] = at(3) }, 4},
		{"a black cell's Key to one", "sweep, midway", func(h *impl.Heap) { h.Cells[4].Pairs[0].Key = at(5) }, 4},
		{"a black cell's Val to one", "sweep, midway", func(h *impl.Heap) { h.Cells[4].Pairs[0].Val = at(5) }, 4},
		{"a swept cell's Key to one", "sweep, midway", func(h *impl.Heap) { h.Cells[0].Pairs[0].Key = at(3) }, 4},
		{"a swept cell's Val to a free one", "sweep, midway", func(h *impl.Heap) { h.Cells[0].Pairs[0].Val = at(1) }, 4},
		{"a black cell's Val to a free one", "sweep, midway", func(h *impl.Heap) { h.Cells[4].Pairs[0].Val = at(6) }, 4},
		{"one that wants a last word", "sweep, midway", func(h *impl.Heap) { h.Cells[3].Last = impl.LWants }, 4},
		{"one that is due", "sweep, midway", func(h *impl.Heap) { h.Cells[5].Last = impl.LDue }, 4},
		{"one that was told", "sweep, midway", func(h *impl.Heap) { h.Cells[5].Last = impl.LTold }, 0},
		{"at Hand, with a register to it", "sweep, begun", func(h *impl.Heap) { h.Hand = 1; h.Cells[0].Color = 0; h.Regs[0] = at(1) }, 4},
		{"below Hand, with a register to it", "sweep, begun", func(h *impl.Heap) { h.Hand = 2; h.Cells[0].Color = 0; h.Regs[0] = at(1) }, 0},
		{"no more, in PMove, with words to free cells", "sweep, midway", func(h *impl.Heap) {
			h.Phase, h.Hand = impl.PMove, 0
			h.Cells[4].Color = 0
		}, 4},
	})
}

// Each word of each pair in turn holds the place of a moved cell, for each Hand and Sub.
func TestMendedPairs(t *testing.T) {
	base := func(phase, hand, sub int) impl.Heap {
		h := heapOf(phase,
			used(1, make([]impl.Pair, 3)...), used(2, make([]impl.Pair, 3)...), used(3, make([]impl.Pair, 3)...),
			moved(1), free())
		h.Hand, h.Sub = hand, sub
		return h
	}
	check := func(h impl.Heap, place, i, want int) {
		h.Cells[place].Pairs[i] = pair(at(3), none())
		wantRule(t, "Key", h, want)
		h.Cells[place].Pairs[i] = pair(none(), at(3))
		wantRule(t, "Val", h, want)
		h.Cells[place].Pairs[i] = pair(at(4), none())
		wantRule(t, "Key of a free cell", h, 4)
		h.Cells[place].Pairs[i] = impl.Pair{}
	}
	for place := range 3 {
		for i := range 3 {
			check(base(impl.PMove, 0, 0), place, i, 0)
			check(base(impl.PClose, 5, 0), place, i, 4)
			for hand := range 6 {
				for sub := range 4 {
					if hand > 2 && sub > 0 {
						continue
					}
					want := 0
					if place < hand || place == hand && i < sub {
						want = 4
					}
					check(base(impl.PMend, hand, sub), place, i, want)
				}
			}
		}
	}
}

func TestRule5(t *testing.T) {
	gray := func(places ...int) func(h *impl.Heap) {
		return func(h *impl.Heap) { h.Gray = places }
	}
	checkSpoilings(t, []spoiling{
		{"another order", "roots, midway", gray(0, 4), 0},
		{"one missing", "roots, midway", gray(0), 5},
		{"none", "roots, midway", gray(), 5},
		{"one twice in place of another", "roots, midway", gray(4, 4), 5},
		{"one twice beside the other", "roots, midway", gray(4, 0, 4), 5},
		{"a black one", "roots, midway", gray(4, 0, 2), 5},
		{"a white one", "roots, midway", gray(4, 0, 3), 5},
		{"a free one", "roots, midway", gray(4, 0, 1), 5},
		{"a white one in place of a gray", "roots, midway", gray(4, 3), 5},
		{"a place below all", "roots, midway", gray(4, -1), 5},
		{"a place behind all", "roots, midway", gray(4, 5), 5},
		{"far places", "roots, midway", gray(math.MinInt, math.MaxInt), 5},
		{"one missing", "mark, midway", gray(1), 5},
		{"one twice", "mark, midway", gray(1, 1), 5},
		{"a white one", "mark, Gray empty", gray(1), 5},
		{"a gray one", "mark, Gray empty", func(h *impl.Heap) { h.Cells[1].Color = impl.CGray }, 5},
	})
	for phase := impl.PIdle; phase <= impl.PClose; phase++ {
		marking := phase == impl.PRoots || phase == impl.PMark
		plain := func(color int) impl.Heap {
			return heapOf(phase, used(1), colored(color, used(2)))
		}
		h := plain(impl.CGray)
		wantRule(t, "gray, not in Gray", h, 5)
		h.Gray = []int{1}
		wantRule(t, "gray and in Gray", h, map[bool]int{true: 0, false: 5}[marking])
		h = plain(impl.CWhite)
		h.Gray = []int{1}
		wantRule(t, "Gray without a gray cell", h, 5)
		h = plain(impl.CBlack)
		wantRule(t, "black", h, map[bool]int{true: 0, false: 5}[marking || phase == impl.PSweep])
	}
	for hand, want := range map[int]int{0: 0, 1: 0, 2: 5} {
		h := heapOf(impl.PSweep, used(1), colored(impl.CBlack, used(2)))
		h.Hand = hand
		wantRule(t, "black by Hand", h, want)
	}
}

func TestRule6(t *testing.T) {
	for phase := impl.PIdle; phase <= impl.PClose; phase++ {
		h := heapOf(phase, used(1, make([]impl.Pair, 2)...), free())
		h.Hand = 1
		still := phase == impl.PIdle || phase == impl.PMove || phase == impl.PMark
		wantRule(t, "Hand", h, map[bool]int{true: 6, false: 0}[still])
		h.Hand, h.Sub = 0, 1
		wantRule(t, "Sub", h, map[bool]int{true: 0, false: 6}[phase == impl.PMend])
	}
	h := heapOf(impl.PMark, colored(impl.CGray, used(1, make([]impl.Pair, 1)...)), colored(impl.CGray, used(2, make([]impl.Pair, 3)...)))
	for _, c := range []struct {
		gray      []int
		sub, want int
	}{
		{[]int{0, 1}, 1, 0}, {[]int{0, 1}, 2, 6}, {[]int{1, 0}, 3, 0}, {[]int{1, 0}, 4, 6},
	} {
		h.Gray, h.Sub = c.gray, c.sub
		wantRule(t, "Sub in PMark", h, c.want)
	}
	h.Phase, h.Gray, h.Sub = impl.PRoots, []int{1, 0}, 1
	wantRule(t, "Sub in PRoots", h, 6)
	for _, c := range []struct{ hand, sub, want int }{
		{0, 2, 0}, {0, 3, 6}, {1, 0, 0}, {1, 1, 6}, {2, 0, 0}, {2, 1, 6}, {3, 0, 0}, {3, 1, 6},
	} {
		h := heapOf(impl.PMend, used(1, make([]impl.Pair, 2)...), free(), moved(0))
		h.Hand, h.Sub = c.hand, c.sub
		wantRule(t, "Sub in PMend", h, c.want)
	}
}

func TestRule7LastWords(t *testing.T) {
	for last := impl.LNone; last <= impl.LTold; last++ {
		root := last == impl.LWants || last == impl.LDue
		for color := impl.CWhite; color <= impl.CBlack; color++ {
			for hand := range 4 {
				h := heapOf(impl.PRoots, used(1), withLast(last, colored(color, used(2))), free())
				h.Hand = hand
				if color == impl.CGray {
					h.Gray = []int{1}
				}
				want := 0
				if root && color == impl.CWhite && hand > 1 {
					want = 7
				}
				wantRule(t, "PRoots", h, want)
			}
			h := heapOf(impl.PMark, used(1), withLast(last, colored(color, used(2))))
			if color == impl.CGray {
				h.Gray = []int{1}
			}
			want := 0
			if root && color == impl.CWhite {
				want = 7
			}
			wantRule(t, "PMark", h, want)
		}
	}
	for _, phase := range []int{impl.PIdle, impl.PMove, impl.PMend, impl.PClose} {
		wantRule(t, "other Phases", heapOf(phase, withLast(impl.LDue, used(1))), 0)
	}
}

func TestRule7Colors(t *testing.T) {
	for _, phase := range []int{impl.PRoots, impl.PMark} {
		for color, want := range map[int]int{impl.CWhite: 7, impl.CGray: 0, impl.CBlack: 0} {
			for _, p := range []impl.Pair{pair(at(1), none()), pair(num(1), at(1))} {
				h := heapOf(phase, colored(impl.CBlack, used(1, impl.Pair{}, p)), colored(color, used(2)))
				if color == impl.CGray {
					h.Gray = []int{1}
				}
				wantRule(t, "pair of a black cell", h, want)
				h.Cells[0].Color = impl.CWhite
				wantRule(t, "pair of a white cell", h, 0)
			}
		}
	}
	for sub := range 4 {
		for i := range 3 {
			first := colored(impl.CGray, used(1, make([]impl.Pair, 3)...))
			other := colored(impl.CGray, used(2, pair(at(2), at(2)), pair(at(2), at(2)), pair(at(2), at(2))))
			h := heapOf(impl.PMark, other, first, used(3))
			h.Gray, h.Sub = []int{1, 0}, sub
			want := 0
			if i < sub {
				want = 7
			}
			h.Cells[1].Pairs[i] = pair(at(2), none())
			wantRule(t, "Key of the first in Gray", h, want)
			h.Cells[1].Pairs[i] = pair(none(), at(2))
			wantRule(t, "Val of the first in Gray", h, want)
			h.Gray = []int{0, 1}
			wantRule(t, "the other first in Gray", h, map[bool]int{true: 0, false: 7}[sub == 0])
		}
	}
}

func TestRule8(t *testing.T) {
	for hand, want := range map[int]int{0: 8, 1: 8, 2: 8, 3: 8, 4: 0, 5: 0} {
		h := heapOf(impl.PClose, used(1), used(2), moved(0), moved(1), free())
		h.Hand = hand
		wantRule(t, "moved by Hand", h, want)
	}
	h := heapOf(impl.PClose, used(1), moved(0), free())
	h.Hand = 2
	wantRule(t, "moved just below Hand", h, 0)
	h.Hand = 1
	wantRule(t, "moved at Hand", h, 8)
	wantRule(t, "moved above Hand in PMend", heapOf(impl.PMend, used(1), moved(0)), 0)
}

// From the last rule to the first, one after the other is broken beside those that were; each time the new one is answered.
func TestTheFirstOfSeveral(t *testing.T) {
	h := clone(heapNamed(t, "mark, midway"))
	h.Cells[3].Pairs[0].Key = at(0)
	wantRule(t, "7", h, 7)
	h.Hand = 2
	wantRule(t, "6 and 7", h, 6)
	h.Gray = []int{1, 4, 0}
	wantRule(t, "5 to 7", h, 5)
	h.Regs[0] = at(2)
	wantRule(t, "4 to 7", h, 4)
	h.Used = 1
	wantRule(t, "3 to 7", h, 3)
	h.Cells[0].Born = 4
	wantRule(t, "2 to 7", h, 2)
	h.Start = -1
	wantRule(t, "1 to 7", h, 1)

	h = clone(heapNamed(t, "close, midway"))
	h.Hand = 2
	wantRule(t, "8", h, 8)
	h.Sub = 1
	wantRule(t, "6 and 8", h, 6)
	h.Cells[1].Color = impl.CBlack
	wantRule(t, "5, 6 and 8", h, 5)
	h.Cells[0].Pairs[0].Val = at(3)
	wantRule(t, "4, 5, 6 and 8", h, 4)
	h.Room = 2
	wantRule(t, "3, 4, 5, 6 and 8", h, 3)
	h.Cells[2].To = 2
	wantRule(t, "2, 3, 4, 5, 6 and 8", h, 2)
	h.Regs = nil
	wantRule(t, "1, 2, 3, 4, 5, 6 and 8", h, 1)
}

// crowded has as many cells as the rules allow: all of the room in cells without pairs, and as many moved ones.
func crowded(phase int) impl.Heap {
	const half = impl.MaxRoom
	h := impl.Heap{Room: half, Used: half, Born: impl.MaxCount, Phase: phase, Regs: make([]impl.Word, impl.MaxRegs)}
	for i := range half {
		h.Cells = append(h.Cells, used(impl.MaxCount-i))
	}
	for i := range half {
		h.Cells = append(h.Cells, moved(half-1-i))
	}
	h.Regs[0] = at(half - 1)
	return h
}

func TestManyCells(t *testing.T) {
	const most = 2 * impl.MaxRoom
	for phase, hand := range map[int]int{impl.PMove: 0, impl.PMend: most, impl.PClose: most} {
		h := crowded(phase)
		h.Hand = hand
		wantRule(t, "crowded", h, 0)
		h.Cells[0].Born = h.Cells[impl.MaxRoom-1].Born
		wantRule(t, "same Born at both ends", h, 2)
		h = crowded(phase)
		h.Hand = hand
		h.Cells[most-1].To = h.Cells[impl.MaxRoom].To
		wantRule(t, "same To at both ends", h, 2)
		h = crowded(phase)
		h.Hand = hand
		h.Cells = append(h.Cells, free())
		wantRule(t, "one cell too many", h, 1)
		h.Cells = make([]impl.Cell, 1000000)
		wantRule(t, "a million cells", h, 1)
	}
	h := crowded(impl.PMove)
	if w := impl.Resolve(h, at(most-1)); w != at(0) {
		t.Error("Resolve of the last moved cell:", w)
	}
	h = crowded(impl.PMark)
	for i := range h.Cells {
		if i < impl.MaxRoom {
			h.Cells[i].Color = impl.CGray
			h.Gray = append(h.Gray, impl.MaxRoom-1-i)
		} else {
			h.Cells[i] = free()
		}
	}
	wantRule(t, "all in Gray", h, 0)
	h.Gray[0] = 0
	wantRule(t, "one in Gray twice", h, 5)
}

func TestFreshInAndOutOfRange(t *testing.T) {
	for room := 1; room <= impl.MaxRoom; room++ {
		h := impl.Fresh(room)
		want := impl.Heap{Room: room, Regs: make([]impl.Word, impl.MaxRegs), Cells: h.Cells, Gray: h.Gray}
		if !reflect.DeepEqual(h, want) || len(h.Cells)+len(h.Gray) != 0 {
			t.Fatalf("Fresh(%d): %+v", room, h)
		}
		wantRule(t, "Fresh", h, 0)
	}
	for _, room := range []int{0, -1, impl.MaxRoom + 1, math.MinInt, math.MaxInt} {
		h := impl.Fresh(room)
		want := impl.Heap{Regs: h.Regs, Cells: h.Cells, Gray: h.Gray}
		if !reflect.DeepEqual(h, want) || len(h.Regs)+len(h.Cells)+len(h.Gray) != 0 {
			t.Errorf("Fresh(%d): %+v", room, h)
		}
	}
}

func TestFreshSharesNothing(t *testing.T) {
	a, b := impl.Fresh(9), impl.Fresh(9)
	a.Regs[0] = num(1)
	if b.Regs[0] != none() || impl.Fresh(9).Regs[0] != none() {
		t.Error("registers are shared")
	}
}

func TestResolveOfWords(t *testing.T) {
	for _, c := range []struct {
		of   string
		w    impl.Word
		want impl.Word
	}{
		{"move, midway", none(), none()},
		{"move, midway", num(0), num(0)},
		{"move, midway", num(math.MinInt64), num(math.MinInt64)},
		{"move, midway", at(0), at(0)},
		{"move, midway", at(4), at(4)},
		{"move, midway", at(5), at(2)},
		{"move, midway", at(6), at(0)},
		{"move, midway", at(3), none()},
		{"move, midway", at(7), none()},
		{"move, midway", at(-1), none()},
		{"move, midway", at(math.MaxInt), none()},
		{"move, midway", at(math.MinInt), none()},
		{"move, midway", impl.Word{Num: 1}, none()},
		{"move, midway", impl.Word{At: 1}, none()},
		{"move, midway", impl.Word{Kind: impl.WNum, Num: 3, At: 1}, none()},
		{"move, midway", impl.Word{Kind: impl.WAt, Num: 1, At: 1}, none()},
		{"move, midway", impl.Word{Kind: 3}, none()},
		{"move, midway", impl.Word{Kind: -1, Num: 1}, none()},
		{"mend, midway", at(4), at(2)},
		{"mend, midway", at(6), none()},
		{"close, begun", at(3), at(0)},
		{"close, midway", at(3), none()},
		{"close, midway", at(2), at(1)},
		{"sweep, midway", at(3), at(3)},
		{"sweep, midway", at(1), none()},
		{"idle, full", at(4), at(4)},
		{"idle, full", at(2), none()},
		{"idle, empty", at(0), none()},
		{"idle, empty", num(8), num(8)},
	} {
		if got := impl.Resolve(heapNamed(t, c.of), c.w); got != c.want {
			t.Errorf("%s: %v leads to %v, want %v", c.of, c.w, got, c.want)
		}
	}
}

func TestResolveWhereTheHeapIsNotSound(t *testing.T) {
	for _, s := range soundHeaps() {
		h := clone(s.heap)
		h.Used++
		for _, w := range []impl.Word{none(), num(1), at(0), at(2), at(5)} {
			if got := impl.Resolve(h, w); got != none() {
				t.Errorf("%s: %v leads to %v", s.name, w, got)
			}
		}
	}
	if got := impl.Resolve(impl.Heap{}, num(1)); got != none() {
		t.Error("zero heap:", got)
	}
}

// padded is the heap with a mark in the memory behind each of its lists, and a look at all of that memory.
func padded(h impl.Heap) (impl.Heap, func() impl.Heap) {
	h = clone(h)
	h.Regs = append(h.Regs, num(99))
	h.Gray = append(h.Gray, 99)
	h.Cells = append(h.Cells, moved(99))
	for i := range h.Cells {
		h.Cells[i].Pairs = append(h.Cells[i].Pairs, pair(num(99), num(99)))
	}
	whole := h
	h.Regs = h.Regs[:len(h.Regs)-1]
	h.Gray = h.Gray[:len(h.Gray)-1]
	h.Cells = h.Cells[:len(h.Cells)-1]
	for i := range h.Cells {
		h.Cells[i].Pairs = h.Cells[i].Pairs[:len(h.Cells[i].Pairs)-1]
	}
	return h, func() impl.Heap {
		all := clone(whole)
		for i := range h.Cells {
			list := whole.Cells[i].Pairs
			all.Cells[i].Pairs = append([]impl.Pair(nil), list[:len(list)+1]...)
		}
		return all
	}
}

func TestNothingIsWrittenIntoArguments(t *testing.T) {
	for _, s := range soundHeaps() {
		h, look := padded(s.heap)
		before := look()
		for range 2 {
			wantRule(t, s.name, h, 0)
			for place := range len(h.Cells) + 1 {
				if impl.Resolve(h, at(place)) != impl.Resolve(s.heap, at(place)) {
					t.Errorf("%s: the same argument, another answer", s.name)
				}
			}
		}
		spoiled := h
		spoiled.Rounds = -1
		wantRule(t, s.name, spoiled, 1)
		impl.Resolve(spoiled, at(0))
		if !reflect.DeepEqual(look(), before) {
			t.Errorf("%s: the argument was changed", s.name)
		}
	}
}
