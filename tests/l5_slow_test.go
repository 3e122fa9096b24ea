package tests

import (
	"testing"

	"loop.example/spool/impl"
)

// Chapter 5 once more, word by word and without any care for speed.

func slowActOk(a impl.Act) bool {
	in := func(n, high int) bool { return n >= 0 && n <= high }
	switch a.Op {
	case impl.ANum:
		return in(a.A, 15) && a.B == 0 && a.C == 0
	case impl.ANew:
		return in(a.A, 15) && in(a.B, 255) && in(a.C, 200) && a.N == 0
	case impl.ANil, impl.AWord, impl.ANumber, impl.AKind, impl.ASize, impl.ADue:
		return in(a.A, 15) && a.B == 0 && a.C == 0 && a.N == 0
	case impl.ACopy, impl.ASame:
		return in(a.A, 15) && in(a.B, 15) && a.C == 0 && a.N == 0
	case impl.AKey, impl.AVal, impl.ASetKey, impl.ASetVal:
		return in(a.A, 15) && in(a.B, 15) && in(a.C, 199) && a.N == 0
	case impl.AGrow, impl.ACut:
		return in(a.A, 15) && a.B == 0 && in(a.C, 200) && a.N == 0
	case impl.AWeak:
		return in(a.A, 15) && a.B == 0 && in(a.C, 3) && a.N == 0
	case impl.ALast:
		return in(a.A, 15) && a.B == 0 && in(a.C, 1) && a.N == 0
	case impl.ASettle, impl.ACount, impl.ALive, impl.ARound:
		return a.A == 0 && a.B == 0 && a.C == 0 && a.N == 0
	case impl.AStep:
		return a.A == 0 && a.B == 0 && in(a.C, 100000) && a.N == 0
	case impl.APace:
		return a.A == 0 && in(a.B, 64) && in(a.C, 4000) && a.N == 0
	}
	return false
}

// slowCode is the first Code that fits, but for what Room says; 0 when there is none.
func slowCode(h impl.Heap, a impl.Act) int {
	if !slowActOk(a) {
		return impl.NotAct
	}
	word := h.Regs[a.A]
	switch a.Op {
	case impl.ANumber:
		if word.Kind != impl.WNum {
			return impl.NotCell
		}
		return 0
	case impl.AKey, impl.AVal:
		word = h.Regs[a.B]
	case impl.ASetKey, impl.ASetVal, impl.AGrow, impl.ACut, impl.AWeak, impl.ALast, impl.AKind, impl.ASize:
	default:
		return 0
	}
	if word.Kind != impl.WAt {
		return impl.NotCell
	}
	size := len(h.Cells[word.At].Pairs)
	if a.Op >= impl.AKey && a.Op <= impl.ASetVal && a.C >= size {
		return impl.NotPair
	}
	if a.Op == impl.AGrow && size+a.C > 200 {
		return impl.TooLong
	}
	return 0
}

// slowWants is how many units the act makes.
func slowWants(a impl.Act) int {
	switch a.Op {
	case impl.ANew:
		return 1 + a.C
	case impl.AGrow:
		return a.C
	}
	return 0
}

func slowDo(h impl.Heap, a impl.Act) impl.Done {
	h = clone(h)
	if code := slowCode(h, a); code != 0 {
		return impl.Done{Heap: h, Ans: impl.Ans{Code: code}}
	}
	refused := impl.Ans{Code: impl.NotRoom}
	units := slowWants(a)
	if a.Op == impl.ANew && h.Born == 1000000000 {
		return impl.Done{Heap: h, Ans: refused}
	}
	if h.Used+units > h.Room {
		if h.Forced < 1000000000 {
			h.Forced++
		}
		h = slowRound(h)
		if h.Used+units > h.Room {
			return impl.Done{Heap: h, Ans: refused}
		}
	}
	num := slowEffect(&h, a)
	h = slowPace(h, units)
	return impl.Done{Heap: h, Ans: impl.Ans{Num: num}}
}

func slowPace(h impl.Heap, units int) impl.Heap {
	if units == 0 || h.Per == 0 {
		return h
	}
	if h.Phase == impl.PIdle && h.Used > h.Start {
		slowTurn(&h, impl.PRoots)
	}
	for range h.Per * units {
		if h.Phase != impl.PIdle {
			slowUnit(&h)
		}
	}
	return h
}

// slowEffect does an act that has no Code in the heap itself, and gives its number.
func slowEffect(h *impl.Heap, a impl.Act) int64 {
	switch a.Op {
	case impl.ANew:
		slowNew(h, a)
	case impl.ANum:
		h.Regs[a.A] = num(a.N)
	case impl.ANil:
		h.Regs[a.A] = none()
	case impl.ACopy:
		h.Regs[a.A] = h.Regs[a.B]
	case impl.AKey:
		h.Regs[a.A] = slowFollow(*h, h.Cells[h.Regs[a.B].At].Pairs[a.C].Key)
	case impl.AVal:
		h.Regs[a.A] = slowFollow(*h, h.Cells[h.Regs[a.B].At].Pairs[a.C].Val)
	case impl.ASetKey:
		h.Cells[h.Regs[a.A].At].Pairs[a.C].Key = h.Regs[a.B]
		slowShade(h, slowLead(*h, h.Regs[a.B]))
	case impl.ASetVal:
		h.Cells[h.Regs[a.A].At].Pairs[a.C].Val = h.Regs[a.B]
		slowShade(h, slowLead(*h, h.Regs[a.B]))
	case impl.ASettle:
		s := slowSettle(*h)
		*h = s.Heap
		return int64(s.Due)
	case impl.ADue:
		return slowTell(h, a)
	case impl.AStep:
		*h = slowStep(*h, a.C).Heap
	case impl.APace:
		h.Per, h.Start = a.B, a.C
	case impl.ARound:
		*h = slowRound(*h)
	default:
		return slowAtCell(h, a)
	}
	return 0
}

// slowFollow is what a word leads to, as a word.
func slowFollow(h impl.Heap, w impl.Word) impl.Word {
	if place := slowLead(h, w); place >= 0 {
		return at(place)
	}
	return w
}

// slowAtCell are the acts on A's cell, and those that only answer.
func slowAtCell(h *impl.Heap, a impl.Act) int64 {
	word := h.Regs[a.A]
	var c *impl.Cell
	if word.Kind == impl.WAt {
		c = &h.Cells[word.At]
	}
	switch a.Op {
	case impl.AGrow:
		for range a.C {
			c.Pairs = append(c.Pairs, pair(none(), none()))
			h.Used++
		}
	case impl.ACut:
		for len(c.Pairs) > a.C {
			c.Pairs = c.Pairs[:len(c.Pairs)-1]
			h.Used--
		}
		if slowGoing(*h) == word.At && h.Sub > len(c.Pairs) {
			h.Sub = len(c.Pairs)
		}
	case impl.AWeak:
		c.Weak = a.C
	case impl.ALast:
		c.Last = a.C
		if a.C == 1 {
			slowShade(h, word.At)
		}
	case impl.ASame:
		if word == h.Regs[a.B] {
			return 1
		}
	case impl.AWord:
		return int64(word.Kind)
	case impl.ANumber:
		return word.Num
	case impl.AKind:
		return int64(c.Kind)
	case impl.ASize:
		return int64(len(c.Pairs))
	case impl.ACount:
		return int64(slowUnits(*h, slowHolds(*h)))
	case impl.ALive:
		return int64(slowUnits(*h, slowReach(*h)))
	}
	return 0
}

func slowNew(h *impl.Heap, a impl.Act) {
	place := 0
	for place < len(h.Cells) && h.Cells[place].State != impl.SFree {
		place++
	}
	if place == len(h.Cells) {
		h.Cells = append(h.Cells, free())
	}
	h.Born++
	h.Used += 1 + a.C
	c := used(h.Born, make([]impl.Pair, a.C)...)
	c.Kind = a.B
	if h.Phase == impl.PRoots || h.Phase == impl.PMark || h.Phase == impl.PSweep && place >= h.Hand {
		c.Color = impl.CBlack
	}
	h.Cells[place] = c
	h.Regs[a.A] = at(place)
}

func slowTell(h *impl.Heap, a impl.Act) int64 {
	place := slowNextDue(*h)
	if place < 0 {
		h.Regs[a.A] = none()
		return 0
	}
	h.Cells[place].Last = impl.LTold
	h.Regs[a.A] = at(place)
	return 1
}

// wantDone holds Do against its slow writing on a sound heap, with promises P2 and P11, and gives what Do answers.
func wantDone(t *testing.T, name string, h impl.Heap, a impl.Act) impl.Done {
	t.Helper()
	got, want := impl.Do(h, a), slowDo(h, a)
	if got.Ans != want.Ans || !sameHeap(got.Heap, want.Heap) {
		t.Fatalf("%s: %+v: %+v, want %+v: %+v", name, a, got, want, h)
	}
	if rule := impl.HeapOk(got.Heap); rule != 0 || slowRule(got.Heap) != 0 {
		t.Fatalf("%s: behind %+v not sound, rule %d: %+v, was %+v", name, a, rule, got.Heap, h)
	}
	full := impl.Live(h)+slowWants(a) > h.Room
	if h.Born < impl.MaxCount && slowCode(h, a) == 0 && (got.Ans.Code == impl.NotRoom) != full {
		t.Fatalf("%s: %+v: code %d, Live %d of %d", name, a, got.Ans.Code, impl.Live(h), h.Room)
	}
	return got
}

// laden lets some of the first six registers of both heaps lead to the same cells, hold numbers or nothing; it may make room scarce and set a pace.
func laden(d *dice, h, idle *impl.Heap) {
	var places []int
	for i, c := range h.Cells {
		if c.State == impl.SUsed && !slowDoomed(*h, i) {
			places = append(places, i)
		}
	}
	for r := range 1 + d.below(6) {
		switch kind := d.below(5); {
		case kind == 0:
			h.Regs[r] = num(int64(d.below(3)))
			idle.Regs[r] = h.Regs[r]
		case len(places) > 0:
			place := places[d.below(len(places))]
			h.Regs[r] = at(place)
			idle.Regs[r] = at(bornAt(*idle, h.Cells[place].Born))
		}
	}
	if d.below(3) > 0 {
		h.Room = max(h.Used+d.below(5), (len(h.Cells)+1)/2)
	}
	h.Per = d.below(2) * d.below(4)
	h.Start = max(0, h.Used-2+d.below(6))
	if d.below(20) == 0 {
		h.Born = impl.MaxCount - d.below(2)
	}
	if d.below(20) == 0 {
		h.Forced = impl.MaxCount - d.below(2)
	}
	idle.Room, idle.Per, idle.Start, idle.Born, idle.Forced = h.Room, h.Per, h.Start, h.Born, h.Forced
}

// bornAt is the place of the used cell with that Born.
func bornAt(h impl.Heap, born int) int {
	for i, c := range h.Cells {
		if c.State == impl.SUsed && c.Born == born {
			return i
		}
	}
	return -1
}

// throwAct is an act with this Op, most often one that finds something to do.
func throwAct(d *dice, op int) impl.Act {
	a := impl.Act{Op: op, A: d.below(7), B: d.below(7)}
	switch op {
	case impl.ANew:
		a.B = d.below(256)
		a.C = d.below(4)
	case impl.ANum:
		a.B, a.N = 0, int64(d.below(3))
	case impl.AKey, impl.AVal, impl.ASetKey, impl.ASetVal:
		a.C = d.below(3)
	case impl.ACopy, impl.ASame:
	case impl.AGrow, impl.ACut, impl.AWeak:
		a.B, a.C = 0, d.below(4)
	case impl.ALast:
		a.B, a.C = 0, d.below(2)
	case impl.ANil, impl.AWord, impl.ANumber, impl.AKind, impl.ASize, impl.ADue:
		a.B = 0
	case impl.AStep:
		a.A, a.B, a.C = 0, 0, d.below(30)
	case impl.APace:
		a.A, a.B, a.C = 0, d.below(5), d.below(20)
	default:
		a.A, a.B = 0, 0
	}
	if d.below(10) == 0 && (op == impl.ANew || op >= impl.AKey && op <= impl.ACut) {
		a.C = d.below(impl.MaxPairs)
	}
	return a
}

// doings counts what acts on heaps of one Phase have shown, so that none of it stays out by chance.
type doings struct {
	codes                                   [6]int
	forced, gained, paced, shaded, led, cut int
}

func (n *doings) add(h impl.Heap, a impl.Act, got impl.Done) {
	n.codes[got.Ans.Code]++
	if got.Heap.Forced > h.Forced {
		n.forced++
		if got.Ans.Code == 0 {
			n.gained++
		}
	}
	if slowWants(a) > 0 && got.Ans.Code == 0 && h.Per > 0 && got.Heap.Phase != impl.PIdle {
		n.paced++
	}
	if slowWants(a) == 0 && a.Op < impl.ASettle && len(got.Heap.Gray) > len(h.Gray) {
		n.shaded++
	}
	if got.Ans.Code == 0 && (a.Op == impl.AKey || a.Op == impl.AVal) {
		p := h.Cells[h.Regs[a.B].At].Pairs[a.C]
		if slowResolve(h, p.Key) != p.Key || slowResolve(h, p.Val) != p.Val {
			n.led++
		}
	}
	if a.Op == impl.ACut && got.Heap.Sub < h.Sub {
		n.cut++
	}
}

// Every Op on heaps of each Phase: as the table says; and what is seen of it is the same whatever the collector is doing.
func TestDoInEachPhase(t *testing.T) {
	d := dice(18)
	for phase := impl.PIdle; phase <= impl.PClose; phase++ {
		var n doings
		for range 600 {
			h, idle := grown(&d, phase)
			laden(&d, &h, &idle)
			wantRule(t, "laden", h, 0)
			wantRule(t, "laden, in PIdle", idle, 0)
			for op := impl.ANew; op <= impl.ARound; op++ {
				a := throwAct(&d, op)
				got := wantDone(t, "laden", h, a)
				n.add(h, a, got)
				other := impl.Do(idle, a)
				if got.Ans != other.Ans || !sameGraph(impl.Shape(got.Heap), impl.Shape(other.Heap)) {
					t.Fatalf("Phase %d: %+v: %+v, in PIdle %+v: %+v", phase, a, got, other, h)
				}
			}
		}
		marking := phase == impl.PRoots || phase == impl.PMark
		within := phase == impl.PMark || phase == impl.PMend
		if n.codes[0] < 5000 || n.codes[impl.NotCell] < 500 || n.codes[impl.NotPair] < 200 || n.codes[impl.NotRoom] < 100 {
			t.Errorf("Phase %d: %+v", phase, n)
		}
		if n.forced < 100 || n.gained < 50 || n.paced < 30 || (n.shaded > 50) != marking || (n.cut > 5) != within {
			t.Errorf("Phase %d: %+v", phase, n)
		}
		if moving := phase == impl.PMove || phase == impl.PMend; (n.led > 10) != moving {
			t.Errorf("Phase %d: %+v", phase, n)
		}
	}
}

// Many acts one behind the other, as they come.
func TestActsInARow(t *testing.T) {
	var phases [7]int
	d := dice(19)
	for i := range 250 {
		h := impl.Fresh(1 + d.below(40))
		if i%2 == 0 {
			h.Per, h.Start = d.below(6), d.below(8)
		}
		for range 120 {
			op := impl.ANew
			if d.below(4) > 0 {
				op += d.below(impl.ARound)
			}
			h = wantDone(t, "in a row", h, throwAct(&d, op)).Heap
			phases[h.Phase]++
		}
	}
	for phase, n := range phases {
		if n < 300 {
			t.Errorf("Phase %d: %d heaps only", phase, n)
		}
	}
}

// lastWords are the acts by which cells come to be told.
var lastWords = []int{impl.ANew, impl.ALast, impl.ANil, impl.ANil, impl.ASettle, impl.ADue}

// The same acts with and without steps, paces and rounds in between: the same answers, and the same to be seen.
func TestNoAnswerTellsOfTheCollector(t *testing.T) {
	d := dice(20)
	refused, told := 0, 0
	for range 400 {
		room := 1 + d.below(40)
		plain, busy := impl.Fresh(room), impl.Fresh(room)
		for range 100 {
			a := throwAct(&d, impl.ANew+d.below(impl.ALive))
			if d.below(4) == 0 {
				a = throwAct(&d, lastWords[d.below(len(lastWords))])
			}
			if d.below(2) == 0 {
				busy = impl.Do(busy, throwAct(&d, impl.AStep+d.below(3)*d.below(2))).Heap
			}
			p, b := impl.Do(plain, a), impl.Do(busy, a)
			if p.Ans != b.Ans || !sameGraph(impl.Shape(p.Heap), impl.Shape(b.Heap)) {
				t.Fatalf("%+v: %+v, with steps %+v", a, p, b)
			}
			plain, busy = p.Heap, b.Heap
			if p.Ans.Code == impl.NotRoom {
				refused++
			}
			if a.Op == impl.ADue && p.Ans.Num == 1 {
				told++
			}
		}
	}
	if refused < 100 || told < 100 {
		t.Error(refused, "refused,", told, "told")
	}
}

// The steps, rounds and pace that acts bring along leave all that is seen as it was.
func TestCollectorActsAreNotSeen(t *testing.T) {
	d := dice(21)
	for i := range 7 * 300 {
		h, idle := grown(&d, i%7)
		laden(&d, &h, &idle)
		before := looksOf(h)
		for op := impl.AStep; op <= impl.ARound; op++ {
			wantSeenTheSame(t, "a collector's act", before, wantDone(t, "laden", h, throwAct(&d, op)).Heap)
		}
		for _, op := range []int{impl.ANew, impl.AGrow} {
			a := throwAct(&d, op)
			paced, slack := impl.Do(h, a), impl.Do(with(h, func(h *impl.Heap) { h.Per = 0 }), a)
			if paced.Ans != slack.Ans {
				t.Fatalf("%+v: with a pace %+v, without one %+v", a, paced, slack)
			}
			wantSeenTheSame(t, "pace", looksOf(slack.Heap), paced.Heap)
		}
	}
}

// Sound heaps as no round leaves them.
func TestDoOnThrownHeaps(t *testing.T) {
	var seen [7]int
	d := dice(22)
	for range 12000 {
		h := thrown(&d)
		if h.Phase == impl.PIdle || h.Phase == impl.PMark || h.Phase == impl.PMove {
			h.Hand = 0
		}
		if h.Phase != impl.PMark && h.Phase != impl.PMend {
			h.Sub = 0
		}
		if impl.HeapOk(h) != 0 {
			wantNotDone(t, "thrown", h)
			continue
		}
		seen[h.Phase]++
		for r := range 6 {
			if place := d.below(len(h.Cells)); h.Cells[place].State == impl.SUsed && !slowDoomed(h, place) {
				h.Regs[r] = at(place)
			}
		}
		for op := impl.ANew; op <= impl.ARound; op++ {
			wantDone(t, "thrown", h, throwAct(&d, op))
		}
	}
	for phase, n := range seen {
		if n < 20 {
			t.Errorf("Phase %d: %d sound heaps only", phase, n)
		}
	}
}

// wantNotDone is what Do answers for a heap that is not sound, whatever the act.
func wantNotDone(t *testing.T, name string, h impl.Heap) {
	t.Helper()
	for _, a := range []impl.Act{{Op: impl.ANum, A: 1, N: 4}, {Op: impl.ALive}, {Op: impl.ARound}, {Op: impl.ANew, C: 1}, {Op: impl.AWord, A: 16}, {}} {
		got := impl.Do(h, a)
		wantZeroHeap(t, name, got.Heap)
		if got.Ans != (impl.Ans{}) {
			t.Errorf("%s: %+v answers %+v", name, a, got.Ans)
		}
	}
}

func TestDoOnSpoiledHeaps(t *testing.T) {
	var sound, not int
	d := dice(23)
	for _, s := range soundHeaps() {
		for k := range countNumbers(s.heap) {
			for _, value := range telling {
				h := setNumber(s.heap, k, value)
				if slowRule(h) != 0 {
					not++
					wantNotDone(t, s.name, h)
					continue
				}
				sound++
				for range 3 {
					a := throwAct(&d, impl.ANew+d.below(impl.ARound))
					wantDone(t, s.name, h, a)
					a.A = d.below(16)
					wantDone(t, s.name, h, a)
				}
			}
		}
	}
	if sound < 1000 || not < 1000 {
		t.Error(sound, "sound ones,", not, "others")
	}
}
