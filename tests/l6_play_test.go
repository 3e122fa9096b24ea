package tests

import (
	"math"
	"reflect"
	"slices"
	"testing"
	"time"

	"loop.example/spool/impl"
)

func wantNotPlayed(t *testing.T, room int, acts []impl.Act) {
	t.Helper()
	p, i := impl.Play(room, acts), impl.Ideally(room, acts)
	wantZeroHeap(t, "Play", p.Heap)
	if p.Ok || len(p.Ans) != 0 {
		t.Errorf("room %d, %d acts: Play Ok %v, %d answers", room, len(acts), p.Ok, len(p.Ans))
	}
	if i.Ok || len(i.Ans) != 0 || i.Made != 0 || len(i.Graph.Regs) != 0 || len(i.Graph.Nodes) != 0 {
		t.Errorf("room %d, %d acts: Ideally %+v", room, len(acts), i)
	}
}

// Rooms and numbers of acts at their limits and beside them: the zero value of both stores exactly where one is passed.
func TestRoomsAndLengths(t *testing.T) {
	rooms := []int{math.MinInt, -4000, -1, 0, 1, 2, 17, 3999, 4000, 4001, 1000000, 1<<32 + 1, math.MaxInt}
	lengths := []int{0, 1, 2, 500, 999, 1000, 1001, 1002, 100000}
	for _, fill := range []impl.Act{{}, actOf(impl.ANew, 3, 9, 0), actOf(impl.ARound, 0, 0, 0), actOf(impl.ALive, 0, 0, 0)} {
		for _, n := range lengths {
			acts := slices.Repeat([]impl.Act{fill}, n)
			for _, room := range rooms {
				if room < 1 || room > 4000 || n > 1000 {
					wantNotPlayed(t, room, acts)
					continue
				}
				p, i := wantIdeal(t, "in range", room, acts)
				if len(p.Ans) != n || len(i.Ans) != n || p.Heap.Room != room || len(i.Graph.Regs) != impl.MaxRegs {
					t.Errorf("room %d, %d acts: %d and %d answers, %+v", room, n, len(p.Ans), len(i.Ans), p.Heap)
				}
			}
		}
	}
}

func TestNoActs(t *testing.T) {
	for _, acts := range [][]impl.Act{nil, {}} {
		for _, room := range []int{1, 2, 100, impl.MaxRoom} {
			p, i := wantIdeal(t, "no acts", room, acts)
			if !sameHeap(p.Heap, impl.Fresh(room)) || i.Made != 0 || len(i.Graph.Nodes) != 0 {
				t.Errorf("room %d: %+v, %+v", room, p, i)
			}
		}
	}
}

// line is an act and its answer, the same in both stores.
type line struct {
	act impl.Act
	ans impl.Ans
}

type scene struct {
	name  string
	room  int
	lines []line
}

// parts are the acts of the lines, and what they should answer.
func parts(lines []line) (acts []impl.Act, want []impl.Ans) {
	for _, l := range lines {
		acts = append(acts, l.act)
		want = append(want, l.ans)
	}
	return acts, want
}

// apart has the same lines with an act of the collector ahead of each.
func apart(lines []line, a impl.Act) []line {
	var list []line
	for _, l := range lines {
		list = append(list, line{a, says(0)}, l)
	}
	return list
}

// checkScenes asks both stores, as it stands and with the collector at work ahead of each act.
func checkScenes(t *testing.T, list []scene) {
	t.Helper()
	for _, s := range list {
		ways := map[string][]line{
			s.name:                         s.lines,
			s.name + ", with rounds":       apart(s.lines, actOf(impl.ARound, 0, 0, 0)),
			s.name + ", with single units": apart(s.lines, actOf(impl.AStep, 0, 0, 1)),
			s.name + ", with steps":        apart(s.lines, actOf(impl.AStep, 0, 0, 7)),
			s.name + ", with a pace":       apart(s.lines, actOf(impl.APace, 0, 2, 1)),
		}
		for name, lines := range ways {
			acts, want := parts(lines)
			p, _ := wantIdeal(t, name, s.room, acts)
			if i := differs(p.Ans, want); i >= 0 {
				t.Errorf("%s: at act %d %+v answers %+v, want %+v", name, i, acts[i], p.Ans[i], want[i])
			}
			var phases [7]int
			wantPlayed(t, name, s.room, acts, &phases)
			wantSlowIdeal(t, name, s.room, acts)
		}
	}
}

func newCell(a, kind, pairs int) line { return line{actOf(impl.ANew, a, kind, pairs), says(0)} }

func doing(op, a, b, c int) line { return line{actOf(op, a, b, c), says(0)} }

func asked(op, a int, num int64) line { return line{actOf(op, a, 0, 0), says(num)} }

func refused(op, a, b, c, code int) line { return line{actOf(op, a, b, c), impl.Ans{Code: code}} }

func letGo(a int) line { return doing(impl.ANil, a, 0, 0) }

func live(n int64) line { return asked(impl.ALive, 0, n) }

func counted(n int64) line { return asked(impl.ACount, 0, n) }

func settles(due int64) line { return asked(impl.ASettle, 0, due) }

func TestEachOpInAScript(t *testing.T) {
	checkScenes(t, []scene{{"each Op", 40, []line{
		newCell(0, 7, 2),
		newCell(15, 255, 0),
		{impl.Act{Op: impl.ANum, A: 1, N: math.MinInt64}, says(0)},
		{impl.Act{Op: impl.ANumber, A: 1}, says(math.MinInt64)},
		doing(impl.ASetKey, 0, 1, 1),
		doing(impl.ASetVal, 0, 15, 1),
		doing(impl.AKey, 2, 0, 1),
		{actOf(impl.ASame, 1, 2, 0), says(1)},
		doing(impl.AVal, 2, 0, 1),
		{actOf(impl.ASame, 2, 15, 0), says(1)},
		{actOf(impl.ASame, 2, 0, 0), says(0)},
		asked(impl.AKind, 2, 255),
		asked(impl.ASize, 2, 0),
		doing(impl.AGrow, 2, 0, 3),
		asked(impl.ASize, 15, 3),
		live(7),
		doing(impl.ACut, 15, 0, 1),
		asked(impl.ASize, 2, 1),
		live(5),
		doing(impl.ACopy, 3, 0, 0),
		asked(impl.AWord, 3, impl.WAt),
		asked(impl.AWord, 1, impl.WNum),
		asked(impl.AWord, 4, impl.WNil),
		doing(impl.AWeak, 0, 0, 2),
		doing(impl.ALast, 15, 0, 1),
		letGo(15), letGo(2),
		counted(3), live(5),
		settles(1),
		counted(4), live(4),
		asked(impl.ADue, 5, 1),
		asked(impl.AKind, 5, 255),
		asked(impl.ADue, 5, 0),
		asked(impl.AWord, 5, impl.WNil),
		counted(2), live(2),
	}}})
}

func TestCodesInAScript(t *testing.T) {
	checkScenes(t, []scene{{"each Code", 205, []line{
		refused(0, 0, 0, 0, impl.NotAct),
		refused(impl.AKind, 0, 0, 0, impl.NotCell),
		refused(impl.ANumber, 0, 0, 0, impl.NotCell),
		newCell(0, 1, 1),
		refused(impl.AVal, 1, 0, 1, impl.NotPair),
		refused(impl.AVal, 0, 1, 0, impl.NotCell),
		refused(impl.ASetKey, 0, 1, 199, impl.NotPair),
		refused(impl.AGrow, 0, 0, 200, impl.TooLong),
		doing(impl.AGrow, 0, 0, 199),
		refused(impl.AGrow, 0, 0, 1, impl.TooLong),
		doing(impl.AGrow, 0, 0, 0),
		newCell(1, 0, 3),
		refused(impl.ANew, 2, 0, 0, impl.NotRoom),
		refused(impl.AGrow, 1, 0, 1, impl.NotRoom),
		asked(impl.AWord, 2, impl.WNil),
		asked(impl.ASize, 1, 3),
		live(205),
	}}})
}

// Acts that are none answer so and do nothing, in both stores, wherever they stand.
func TestActsThatAreNoneInScripts(t *testing.T) {
	good := []line{newCell(0, 3, 2), newCell(1, 4, 1), doing(impl.ASetVal, 0, 1, 0), doing(impl.ALast, 1, 0, 1), letGo(1), live(5), counted(5), settles(0)}
	acts, want := parts(good)
	bare, ideal := impl.Play(9, acts), impl.Ideally(9, acts)
	for _, bad := range badActs() {
		for _, at := range []int{0, 1, 3, len(acts)} {
			p, i := wantIdeal(t, "one that is none", 9, slices.Insert(slices.Clone(acts), at, bad))
			if k := differs(p.Ans, slices.Insert(slices.Clone(want), at, code(impl.NotAct))); k >= 0 {
				t.Fatalf("%+v: at act %d %+v", bad, k, p.Ans)
			}
			if !sameHeap(p.Heap, bare.Heap) || !sameGraph(i.Graph, ideal.Graph) || i.Made != ideal.Made {
				t.Fatalf("%+v does something: %+v, %+v", bad, p.Heap, i)
			}
		}
	}
	all := badActs()
	p, i := wantIdeal(t, "none but such", 1, all)
	for k := range all {
		if p.Ans[k] != code(impl.NotAct) {
			t.Errorf("%+v: %+v", all[k], p.Ans[k])
		}
	}
	if !sameHeap(p.Heap, impl.Fresh(1)) || i.Made != 0 {
		t.Errorf("%+v, %+v", p, i)
	}
}

// AStep, APace and ARound answer 0 in the ideal store, and nothing comes of them; in the other one they are seen in the heap.
func TestTheCollectorInTheIdealStore(t *testing.T) {
	acts, _ := parts([]line{newCell(0, 1, 2), newCell(1, 2, 0), letGo(1), newCell(2, 3, 1), doing(impl.ALast, 2, 0, 1)})
	ideal := impl.Ideally(50, acts)
	bare := impl.Play(50, acts)
	for _, a := range []impl.Act{actOf(impl.AStep, 0, 0, 0), actOf(impl.AStep, 0, 0, 1), actOf(impl.AStep, 0, 0, impl.MaxStep), actOf(impl.APace, 0, 0, 0), actOf(impl.APace, 0, 64, 0), actOf(impl.APace, 0, 3, impl.MaxRoom), actOf(impl.ARound, 0, 0, 0)} {
		for at := range len(acts) + 1 {
			p, i := wantIdeal(t, "one of the collector's", 50, slices.Insert(slices.Clone(acts), at, a))
			if i.Ans[at] != says(0) || i.Made != ideal.Made || !sameGraph(i.Graph, ideal.Graph) {
				t.Errorf("%+v at %d: %+v, %+v", a, at, i.Ans[at], i)
			}
			if seen := a.C+a.B > 0 || a.Op == impl.ARound; seen == sameHeap(p.Heap, bare.Heap) {
				t.Errorf("%+v at %d: %+v", a, at, p.Heap)
			}
		}
	}
	worked := slices.Repeat([]impl.Act{actOf(impl.AStep, 0, 0, 9), actOf(impl.APace, 0, 5, 5), actOf(impl.ARound, 0, 0, 0)}, 300)
	if i := impl.Ideally(1, worked); i.Made != 0 || differs(i.Ans, make([]impl.Ans, 900)) >= 0 {
		t.Errorf("%+v", i)
	}
}

// Room in both stores goes by what is reached at that moment.
func TestRoomByWhatIsReached(t *testing.T) {
	var over []line
	for range 300 {
		over = append(over, newCell(0, 1, 1))
	}
	over = append(over, refused(impl.ANew, 0, 0, 2, impl.NotRoom), live(2))
	var between []line
	for range 200 {
		between = append(between, newCell(0, 1, 3), refused(impl.ANew, 1, 0, 0, impl.NotRoom), refused(impl.ANew, 0, 0, 0, impl.NotRoom), letGo(0))
	}
	checkScenes(t, []scene{
		{"a room of 1", 1, []line{
			refused(impl.ANew, 0, 0, 1, impl.NotRoom), newCell(0, 5, 0), refused(impl.ANew, 1, 0, 0, impl.NotRoom), refused(impl.AGrow, 0, 0, 1, impl.NotRoom),
			doing(impl.AGrow, 0, 0, 0), refused(impl.ANew, 0, 0, 0, impl.NotRoom), asked(impl.AKind, 0, 5), letGo(0), newCell(1, 6, 0), live(1)}},
		{"filled exactly", 6, []line{
			newCell(0, 0, 3), refused(impl.ANew, 1, 0, 2, impl.NotRoom), newCell(1, 0, 1), live(6), refused(impl.ANew, 2, 0, 0, impl.NotRoom),
			refused(impl.AGrow, 0, 0, 1, impl.NotRoom), doing(impl.ACut, 0, 0, 2), refused(impl.AGrow, 1, 0, 2, impl.NotRoom), doing(impl.AGrow, 1, 0, 1), live(6)}},
		{"the greatest room", 4000, append(slices.Repeat([]line{newCell(0, 0, 199), doing(impl.ALast, 0, 0, 1)}, 20),
			live(4000), refused(impl.ANew, 1, 0, 0, impl.NotRoom), settles(19), refused(impl.AGrow, 0, 0, 1, impl.NotRoom),
			asked(impl.ADue, 1, 1), letGo(1), newCell(1, 0, 199), refused(impl.ANew, 2, 0, 0, impl.NotRoom))},
		{"much let go of by new cells", 4, over[:200]},
		{"much let go of by nothing", 4, between[:400]},
		{"a cell leads to itself", 3, []line{newCell(0, 1, 2), doing(impl.ASetKey, 0, 0, 0), doing(impl.ASetVal, 0, 0, 1), refused(impl.ANew, 1, 0, 0, impl.NotRoom), letGo(0), live(0), newCell(1, 0, 2)}},
		{"two lead to each other", 4, []line{newCell(0, 1, 1), newCell(1, 2, 1), doing(impl.ASetKey, 0, 1, 0), doing(impl.ASetVal, 1, 0, 0), letGo(0),
			refused(impl.AGrow, 1, 0, 1, impl.NotRoom), letGo(1), live(0), newCell(1, 0, 3)}},
		{"what A holds is reached", 4, []line{newCell(0, 1, 1), refused(impl.ANew, 0, 0, 2, impl.NotRoom), newCell(0, 2, 1), asked(impl.AKind, 0, 2), live(2)}},
		{"a pair is written over", 4, []line{newCell(0, 1, 1), newCell(1, 2, 1), doing(impl.ASetVal, 0, 1, 0), letGo(1), refused(impl.ANew, 1, 0, 0, impl.NotRoom),
			doing(impl.ASetVal, 0, 5, 0), live(2), newCell(1, 0, 1)}},
		{"a pair is cut off", 4, []line{newCell(0, 1, 1), newCell(1, 2, 1), doing(impl.ASetVal, 0, 1, 0), letGo(1), refused(impl.AGrow, 0, 0, 1, impl.NotRoom),
			doing(impl.ACut, 0, 0, 0), live(1), doing(impl.AGrow, 0, 0, 3)}},
	})
	acts, _ := parts(over)
	if i := impl.Ideally(4, acts); i.Made != 300 || len(i.Graph.Nodes) != 1 {
		t.Errorf("%d made, %+v", i.Made, i.Graph)
	}
	acts, _ = parts(between)
	if p, i := wantIdeal(t, "much let go of", 4, acts); i.Made != 200 || len(i.Graph.Nodes) != 0 || p.Heap.Forced < 400 {
		t.Errorf("%d made, %d forced", i.Made, p.Heap.Forced)
	}
}

// What only a last word or a weak pair keeps alive takes room.
func TestRoomOfWhatIsKeptAlive(t *testing.T) {
	full := func(wants int) line { return refused(impl.ANew, 9, 0, wants-1, impl.NotRoom) }
	checkScenes(t, []scene{
		{"it wants a last word", 5, []line{newCell(0, 1, 2), doing(impl.ALast, 0, 0, 1), letGo(0), counted(0), live(3), full(3),
			newCell(1, 2, 1), live(5), full(1), settles(1), live(5), full(1), asked(impl.ADue, 0, 1), full(1), letGo(0), live(2), newCell(0, 0, 2)}},
		{"it is due, with what it leads to", 6, []line{newCell(0, 1, 1), newCell(1, 2, 1), doing(impl.ASetVal, 0, 1, 0), doing(impl.ALast, 0, 0, 1), letGo(0), letGo(1),
			settles(1), counted(4), live(4), full(3), newCell(2, 3, 1), full(1), letGo(2), asked(impl.ADue, 0, 1), asked(impl.ADue, 1, 0),
			doing(impl.AVal, 1, 0, 0), letGo(0), live(2), full(5), newCell(3, 0, 3), live(6)}},
		{"the last word is taken back", 4, []line{newCell(0, 1, 1), doing(impl.ALast, 0, 0, 1), doing(impl.ALast, 0, 0, 0), letGo(0), live(0), settles(0), newCell(1, 0, 3)}},
		{"the last word is taken back when it was due", 4, []line{newCell(0, 1, 1), doing(impl.ALast, 0, 0, 1), newCell(1, 2, 1), doing(impl.ASetVal, 0, 1, 0), doing(impl.ALast, 1, 0, 1), letGo(1), letGo(0),
			settles(2), asked(impl.ADue, 3, 1), asked(impl.AKind, 3, 1), doing(impl.AVal, 4, 3, 0), doing(impl.ALast, 4, 0, 0), asked(impl.ADue, 5, 0), letGo(3), letGo(4), live(0), newCell(0, 0, 3)}},
		{"a weak key alone", 6, []line{newCell(0, 1, 1), doing(impl.AWeak, 0, 0, 1), newCell(1, 2, 3), doing(impl.ASetKey, 0, 1, 0), counted(6), letGo(1),
			counted(2), live(6), full(1), settles(0), counted(1), live(1), asked(impl.ASize, 0, 0), newCell(1, 0, 4)}},
		{"a weak value alone", 6, []line{newCell(0, 1, 1), doing(impl.AWeak, 0, 0, 2), newCell(1, 2, 3), doing(impl.ASetVal, 0, 1, 0), letGo(1),
			counted(2), live(6), full(1), doing(impl.AVal, 1, 0, 0), counted(6), settles(0), asked(impl.ASize, 0, 1), letGo(1), settles(0), live(1), newCell(1, 0, 4)}},
		{"a value beside a weak key", 6, []line{newCell(0, 1, 1), doing(impl.AWeak, 0, 0, 1), newCell(1, 2, 0), newCell(2, 3, 2), doing(impl.ASetKey, 0, 1, 0), doing(impl.ASetVal, 0, 2, 0), letGo(2),
			counted(6), full(1), settles(0), asked(impl.ASize, 0, 1), letGo(1), counted(2), live(6), full(1), settles(0), live(1), newCell(1, 0, 4)}},
		{"a weak key that wants a last word", 6, []line{newCell(0, 1, 1), doing(impl.AWeak, 0, 0, 1), newCell(1, 2, 1), doing(impl.ALast, 1, 0, 1), doing(impl.ASetKey, 0, 1, 0), letGo(1),
			counted(2), live(4), full(3), settles(1), asked(impl.ASize, 0, 0), live(3), counted(3), full(4), asked(impl.ADue, 2, 1), asked(impl.AKind, 2, 2), letGo(2), live(1), newCell(2, 0, 4)}},
	})
}

// Last words by the order of making, whatever the order of letting go and the places.
func TestLastWordsInScripts(t *testing.T) {
	told := func(kind int64) []line {
		return []line{asked(impl.ADue, 9, 1), asked(impl.AKind, 9, kind)}
	}
	made := []line{newCell(0, 10, 0), newCell(1, 11, 0), newCell(2, 12, 0), newCell(3, 13, 0)}
	for r := range 4 {
		made = append(made, doing(impl.ALast, 3-r, 0, 1))
	}
	checkScenes(t, []scene{
		{"let go of at once", 30, slices.Concat(made, []line{letGo(2), letGo(0), letGo(3), letGo(1), asked(impl.ADue, 9, 0), settles(4), settles(0)}, told(10), told(11), told(12), told(13), []line{asked(impl.ADue, 9, 0), settles(0)})},
		{"one by one, all told in the end", 30, slices.Concat(made, []line{letGo(2), settles(1), letGo(0), settles(1), letGo(3), letGo(1), settles(2)}, told(10), told(11), told(12), told(13), []line{asked(impl.ADue, 9, 0)})},
		{"one by one, each told at once", 30, slices.Concat(made, []line{letGo(2), settles(1)}, told(12), []line{letGo(0), settles(1)}, told(10), []line{letGo(3), letGo(1), settles(2)}, told(11), told(13), []line{asked(impl.ADue, 9, 0)})},
		{"no settling, no last word", 30, slices.Concat(made, []line{letGo(0), letGo(1), asked(impl.ADue, 9, 0), asked(impl.ADue, 9, 0)})},
		{"due, and held again by another one that is due", 30, []line{newCell(0, 20, 1), newCell(1, 21, 0), doing(impl.ASetVal, 0, 1, 0), doing(impl.ALast, 0, 0, 1), letGo(0), letGo(1), settles(1), counted(3),
			asked(impl.ADue, 0, 1), doing(impl.AVal, 1, 0, 0), doing(impl.ALast, 1, 0, 1), letGo(0), settles(0), letGo(1), settles(1), asked(impl.ADue, 4, 1), asked(impl.AKind, 4, 21)}},
		{"what is held by one that is due does not become due", 30, []line{newCell(0, 20, 1), newCell(1, 21, 0), doing(impl.ASetVal, 0, 1, 0), doing(impl.ALast, 0, 0, 1), letGo(0), letGo(1), settles(1),
			newCell(2, 22, 1), doing(impl.ALast, 2, 0, 1), letGo(2), settles(1), asked(impl.ADue, 3, 1), asked(impl.AKind, 3, 20), asked(impl.ADue, 3, 1), asked(impl.AKind, 3, 22), asked(impl.ADue, 3, 0)}},
		{"told, and wants one again", 30, []line{newCell(0, 20, 0), newCell(1, 21, 0), doing(impl.ALast, 1, 0, 1), doing(impl.ALast, 0, 0, 1), letGo(0), settles(1), asked(impl.ADue, 5, 1), settles(0),
			doing(impl.ALast, 5, 0, 1), letGo(5), letGo(1), settles(2), asked(impl.ADue, 5, 1), asked(impl.AKind, 5, 20), asked(impl.ADue, 5, 1), asked(impl.AKind, 5, 21), asked(impl.ADue, 5, 0), live(0)}},
	})
}

// A cell that nothing held comes back by its last word, with all that it leads to.
func TestCellsThatComeBackToLife(t *testing.T) {
	checkScenes(t, []scene{
		{"stored away in a cell", 12, []line{newCell(0, 1, 1), newCell(1, 2, 1), newCell(2, 3, 1), doing(impl.ASetVal, 1, 2, 0), doing(impl.ASetKey, 2, 1, 0), letGo(2),
			doing(impl.ALast, 1, 0, 1), letGo(1), counted(2), live(6), settles(1), asked(impl.ADue, 5, 1), doing(impl.ASetVal, 0, 5, 0), letGo(5), counted(6), live(6),
			settles(0), asked(impl.ADue, 5, 0), doing(impl.AVal, 6, 0, 0), asked(impl.AKind, 6, 2), doing(impl.AVal, 7, 6, 0), asked(impl.AKind, 7, 3), doing(impl.AKey, 8, 7, 0), {actOf(impl.ASame, 6, 8, 0), says(1)},
			letGo(0), letGo(6), letGo(7), letGo(8), settles(0), live(0), newCell(0, 0, 11)}},
		{"not stored away", 12, []line{newCell(0, 1, 1), newCell(1, 2, 1), doing(impl.ASetVal, 0, 1, 0), doing(impl.ALast, 0, 0, 1), letGo(0), letGo(1), settles(1), asked(impl.ADue, 5, 1), letGo(5), live(0), settles(0), newCell(0, 0, 11)}},
		{"as a weak key, back in its register", 12, []line{newCell(0, 1, 1), doing(impl.AWeak, 0, 0, 1), newCell(1, 2, 0), doing(impl.ALast, 1, 0, 1), doing(impl.ASetKey, 0, 1, 0), letGo(1), doing(impl.AKey, 1, 0, 0),
			settles(0), asked(impl.ASize, 0, 1), letGo(1), settles(1), asked(impl.ASize, 0, 0), asked(impl.ADue, 1, 1), doing(impl.AGrow, 0, 0, 1), doing(impl.ASetKey, 0, 1, 0), letGo(1), settles(0), asked(impl.ASize, 0, 0), live(1)}},
		{"two that lead to each other", 12, []line{newCell(0, 1, 1), newCell(1, 2, 1), doing(impl.ASetVal, 0, 1, 0), doing(impl.ASetVal, 1, 0, 0), doing(impl.ALast, 0, 0, 1), doing(impl.ALast, 1, 0, 1), letGo(0), letGo(1),
			settles(2), asked(impl.ADue, 2, 1), asked(impl.AKind, 2, 1), asked(impl.ADue, 3, 1), asked(impl.AKind, 3, 2), doing(impl.AVal, 4, 2, 0), {actOf(impl.ASame, 3, 4, 0), says(1)}, settles(0), asked(impl.ADue, 5, 0)}},
		{"a weak one keeps its pairs as long as nothing holds it", 12, []line{newCell(0, 1, 1), doing(impl.AWeak, 0, 0, 3), newCell(1, 2, 0), doing(impl.ASetKey, 0, 1, 0), letGo(1), doing(impl.ALast, 0, 0, 1), letGo(0),
			settles(1), live(3), asked(impl.ADue, 2, 1), asked(impl.ASize, 2, 1), doing(impl.AKey, 3, 2, 0), asked(impl.AKind, 3, 2), settles(0), asked(impl.ASize, 2, 1), letGo(3), settles(0), asked(impl.ASize, 2, 0)}},
		{"a weak one that is due is held", 12, []line{newCell(0, 1, 1), doing(impl.AWeak, 0, 0, 1), newCell(1, 2, 0), doing(impl.ASetKey, 0, 1, 0), letGo(1), doing(impl.ALast, 0, 0, 1), letGo(0),
			settles(1), live(3), settles(0), live(1), asked(impl.ADue, 2, 1), asked(impl.ASize, 2, 0)}},
		{"a weak one that was told, behind one that wants a last word", 12, []line{newCell(0, 1, 1), doing(impl.AWeak, 0, 0, 2), doing(impl.ALast, 0, 0, 1), letGo(0), settles(1), asked(impl.ADue, 0, 1), newCell(1, 2, 0), doing(impl.ASetVal, 0, 1, 0), letGo(1),
			newCell(4, 3, 1), doing(impl.ASetVal, 4, 0, 0), doing(impl.ALast, 4, 0, 1), letGo(0), letGo(4), settles(1), live(5), asked(impl.ADue, 5, 1), doing(impl.AVal, 0, 5, 0), asked(impl.ASize, 0, 1), doing(impl.AVal, 1, 0, 0), asked(impl.AKind, 1, 2)}},
		{"told, stored in the one that is told next", 12, []line{newCell(0, 1, 0), newCell(1, 2, 1), doing(impl.ALast, 0, 0, 1), doing(impl.ALast, 1, 0, 1), letGo(0), letGo(1), settles(2), asked(impl.ADue, 2, 1), asked(impl.ADue, 3, 1),
			doing(impl.ASetKey, 3, 2, 0), letGo(2), live(3), doing(impl.AKey, 4, 3, 0), asked(impl.AKind, 4, 1), letGo(4), letGo(3), live(0)}},
	})
}

// Chains of weak keys: with the first key held all stay, with none held all go at one settling.
func TestChainsInScripts(t *testing.T) {
	for _, n := range []int{1, 2, 3, 17, 60} {
		for last := range 2 {
			for _, hold := range []bool{true, false} {
				lines := []line{}
				for _, a := range chainActs(0, 1, n, last, hold) {
					lines = append(lines, line{a, says(0)})
				}
				units, left, due := int64(2*n+2), int64(n), int64(0)
				if !hold {
					left, due = 0, int64(n*last)
				}
				lines = append(lines, live(units), settles(due), asked(impl.ASize, 0, left), settles(0))
				if hold {
					lines = append(lines, counted(units))
				}
				checkScenes(t, []scene{{"a chain", 300, lines}})
			}
		}
	}
}

// At each unit of a round, with more and more cells: one comes behind all others, and then the pairs that the collector may be going through become fewer.
func TestNewCellsInTheMidstOfARound(t *testing.T) {
	for n := range 18 {
		begin := []impl.Act{actOf(impl.ANew, 0, 1, 6), actOf(impl.AWeak, 0, 0, 2), actOf(impl.ANew, 1, 2, 6)}
		for i := range n {
			begin = append(begin, actOf(impl.ANew, 2+i%4, 3, i%3))
		}
		for i := range 6 {
			begin = append(begin, actOf(impl.ANew, 2, 4, 0), actOf(impl.ASetVal, 0, 2, i), actOf(impl.ASetVal, 1, 2, i))
		}
		begin = append(begin, actOf(impl.ACut, 1, 0, 3))
		for units := range impl.Step(impl.Play(200, begin).Heap, impl.MaxStep).Units {
			so := append(slices.Clone(begin), actOf(impl.AStep, 0, 0, units))
			for _, then := range []impl.Act{actOf(impl.ACut, 0, 0, 2), actOf(impl.ACut, 1, 0, 1), actOf(impl.ASettle, 0, 0, 0)} {
				wantOneByOne(t, 200, so, actOf(impl.ANew, 6, 5, 1), actOf(impl.ANew, 7, 5, 0), then)
			}
		}
	}
}

// wantOneByOne asks that acts behind others do what Do does with the heap behind these.
func wantOneByOne(t *testing.T, room int, acts []impl.Act, more ...impl.Act) {
	t.Helper()
	h := impl.Play(room, acts).Heap
	for _, a := range more {
		h = impl.Do(h, a).Heap
	}
	if got := impl.Play(room, slices.Concat(acts, more)).Heap; impl.HeapOk(got) != 0 || !sameHeap(got, h) {
		t.Fatalf("%+v and %+v: %+v, want %+v", acts, more, got, h)
	}
}

// Made counts what was ever made, and nothing that was refused; Graph is what Shape makes of it.
func TestMadeAndGraph(t *testing.T) {
	acts, _ := parts([]line{
		newCell(4, 1, 2), newCell(4, 2, 1), newCell(2, 3, 0), refused(impl.ANew, 2, 0, 200, impl.NotRoom), doing(impl.ALast, 2, 0, 1), newCell(0, 4, 1), doing(impl.AWeak, 0, 0, 3),
		doing(impl.ASetVal, 4, 0, 0), doing(impl.ASetKey, 0, 4, 0), {impl.Act{Op: impl.ANum, A: 7, N: -3}, says(0)}, doing(impl.ASetKey, 4, 7, 0), letGo(0), letGo(2), settles(1), newCell(2, 5, 0), doing(impl.ALast, 2, 0, 1),
	})
	p, i := wantIdeal(t, "made", 20, acts)
	regs := make([]impl.Word, impl.MaxRegs)
	regs[2], regs[4], regs[7] = at(0), at(1), num(-3)
	want := impl.Graph{Regs: regs, Nodes: []impl.Node{
		{Kind: 5, Last: impl.LWants, Rank: 2},
		{Kind: 2, Pairs: []impl.Pair{pair(num(-3), at(3))}},
		{Kind: 3, Last: impl.LDue, Rank: 1},
		{Kind: 4, Weak: 3, Pairs: []impl.Pair{pair(at(1), none())}},
	}}
	if i.Made != 5 || p.Heap.Born != 5 || !sameGraph(i.Graph, want) || !sameGraph(impl.Shape(p.Heap), want) {
		t.Errorf("%d made, %+v", i.Made, i.Graph)
	}
	if i := impl.Ideally(2, slices.Repeat([]impl.Act{actOf(impl.ANew, 0, 0, 0)}, 1000)); i.Made != 1000 {
		t.Error("a thousand:", i.Made)
	}
	if i := impl.Ideally(1, slices.Repeat([]impl.Act{actOf(impl.ANew, 0, 0, 0)}, 1000)); i.Made != 1 {
		t.Error("but one:", i.Made)
	}
}

func TestPlainOfScripts(t *testing.T) {
	step, pace, round := actOf(impl.AStep, 0, 0, 5), actOf(impl.APace, 0, 1, 2), actOf(impl.ARound, 0, 0, 0)
	x, y := actOf(impl.ANew, 1, 2, 3), impl.Act{Op: impl.ANum, A: 4, N: -9}
	bad := impl.Act{Op: 99, A: -1, B: 77, C: 22, N: 24}
	list := [][2][]impl.Act{
		{nil, nil},
		{{}, nil},
		{{step}, nil},
		{{pace}, nil},
		{{round}, nil},
		{{round, step, step, pace, round}, nil},
		{{x}, {x}},
		{{x, y, x}, {x, y, x}},
		{{step, x, pace, y, round}, {x, y}},
		{{x, x, step, x, round, round, x}, {x, x, x, x}},
		{{bad, step, bad, {}, x}, {bad, bad, {}, x}},
		{{{Op: impl.AStep, A: -5, C: -1}, {Op: impl.APace, B: 65}, {Op: impl.ARound, N: 1}, x}, {x}},
		{{{A: impl.AStep}, {B: impl.APace}, {C: impl.ARound}, {N: impl.AStep}}, {{A: impl.AStep}, {B: impl.APace}, {C: impl.ARound}, {N: impl.AStep}}},
	}
	for _, c := range list {
		if got := impl.Plain(c[0]); !slices.Equal(got, c[1]) || !slices.Equal(slowPlain(c[0]), c[1]) {
			t.Errorf("%+v: %+v, want %+v", c[0], got, c[1])
		}
	}
	for _, op := range []int{math.MinInt, -22, -1, 0, 25, 26, 1<<32 + impl.AStep, math.MaxInt} {
		if got := impl.Plain([]impl.Act{{Op: op}}); len(got) != 1 || got[0].Op != op {
			t.Errorf("Op %d: %+v", op, got)
		}
	}
	for op := impl.ANew; op <= impl.ARound; op++ {
		if got := impl.Plain([]impl.Act{{Op: op, A: 16}}); (len(got) == 1) != (op < impl.AStep) {
			t.Errorf("Op %d: %+v", op, got)
		}
	}
	if got := impl.Plain(slices.Repeat([]impl.Act{x, round}, 5000)); len(got) != 5000 || got[4999] != x {
		t.Error("longer than a script can be:", len(got))
	}
}

func TestPlainHasItsOwnMemory(t *testing.T) {
	d := dice(35)
	for range 200 {
		whole := scriptOf(&d, 40, false)
		kept := slices.Clone(whole)
		for _, acts := range [][]impl.Act{whole, whole[:30], impl.Plain(whole), impl.Plain(whole)[:10], whole[:0]} {
			before := slices.Clone(acts)
			got := impl.Plain(acts)
			if !slices.Equal(got, impl.Plain(acts)) {
				t.Fatal("the same argument, another answer")
			}
			scribble(got, impl.Act{Op: 123})
			if !slices.Equal(acts, before) {
				t.Fatalf("the answer shares memory with the argument: %+v", before)
			}
		}
		if !slices.Equal(whole, kept) {
			t.Fatalf("the argument was changed: %+v", kept)
		}
	}
}

// padding is a script with more behind it in its memory.
func padding(acts []impl.Act) (script, memory []impl.Act) {
	memory = append(slices.Clone(acts), impl.Act{Op: 77, N: 77}, impl.Act{Op: impl.ARound})
	return memory[:len(acts)], memory
}

func TestChapter6LeavesArguments(t *testing.T) {
	d := dice(36)
	for i := range 200 {
		room := 1 + d.below(50)
		acts, memory := padding(scriptOf(&d, d.below(120), i%10 == 0))
		before := slices.Clone(memory)
		p, again := impl.Play(room, acts), impl.Play(room, acts)
		if !reflect.DeepEqual(p, again) {
			t.Fatalf("Play: the same argument, another answer: %+v", acts)
		}
		ideal := impl.Ideally(room, acts)
		if !reflect.DeepEqual(ideal, impl.Ideally(room, acts)) {
			t.Fatalf("Ideally: the same argument, another answer: %+v", acts)
		}
		impl.Plain(acts)
		impl.Play(0, acts)
		impl.Ideally(impl.MaxRoom+1, acts)
		if !slices.Equal(memory, before) {
			t.Fatalf("the argument was changed: %+v", before)
		}
	}
}

// What is written into one list of an answer is seen in no other, nor in a later answer.
func TestChapter6SharesNothing(t *testing.T) {
	d := dice(37)
	for range 120 {
		room := 1 + d.below(60)
		acts := scriptOf(&d, d.below(120), false)
		h := impl.Play(room, acts).Heap
		for k := range h.Cells {
			kept := clone(h)
			scribble(h.Cells[k].Pairs, pair(num(123), num(123)))
			now := clone(h)
			now.Cells[k].Pairs, kept.Cells[k].Pairs = nil, nil
			if !sameHeap(now, kept) {
				t.Fatalf("lists of Play's heap share memory: %+v", acts)
			}
		}
		kept := clone(h)
		scribble(h.Regs, num(123))
		if !reflect.DeepEqual(clone(h).Cells, kept.Cells) {
			t.Fatalf("Regs and pairs share memory: %+v", acts)
		}
		g := impl.Ideally(room, acts).Graph
		for k := range g.Nodes {
			kept := plainGraph(g)
			scribble(g.Nodes[k].Pairs, pair(num(123), num(123)))
			now := plainGraph(g)
			now.Nodes[k].Pairs, kept.Nodes[k].Pairs = nil, nil
			if !sameGraph(now, kept) {
				t.Fatalf("lists of Ideally's Graph share memory: %+v", acts)
			}
		}
		wantIdeal(t, "asked again", room, acts)
	}
}

// The greatest scripts at the greatest room: each within seconds.
func TestGreatScripts(t *testing.T) {
	list := slices.Repeat([]impl.Act{actOf(impl.ANew, 1, 0, 18), actOf(impl.ASetVal, 1, 0, 0), actOf(impl.ACopy, 0, 1, 0)}, 200)
	crowd := slices.Repeat([]impl.Act{actOf(impl.ANew, 0, 0, 0), actOf(impl.ALast, 0, 0, 1)}, 350)
	chain := slices.Concat(chainActs(0, 1, 120, 1, true), []impl.Act{actOf(impl.ASettle, 0, 0, 0)})
	wide := slices.Repeat([]impl.Act{actOf(impl.ANew, 1, 0, 200), actOf(impl.ASetVal, 1, 0, 199), actOf(impl.ASetKey, 1, 1, 0), actOf(impl.ACopy, 0, 1, 0)}, 19)
	rest := []impl.Act{
		actOf(impl.ALive, 0, 0, 0), actOf(impl.ACount, 0, 0, 0), actOf(impl.ASettle, 0, 0, 0), actOf(impl.ARound, 0, 0, 0), actOf(impl.AStep, 0, 0, impl.MaxStep),
		actOf(impl.AStep, 0, 0, 1), actOf(impl.ANew, 5, 0, 200), actOf(impl.AGrow, 0, 0, 1), actOf(impl.ADue, 6, 0, 0), actOf(impl.ANew, 5, 0, 0), actOf(impl.APace, 0, 64, 0), {},
	}
	for _, begin := range [][]impl.Act{nil, list, crowd, chain, wide} {
		for _, a := range rest {
			acts := slices.Concat(begin, slices.Repeat([]impl.Act{a}, impl.MaxActs-len(begin)))
			began := time.Now()
			wantIdeal(t, "great", impl.MaxRoom, acts)
			if took := time.Since(began); took > 4*time.Second {
				t.Errorf("%d acts and then %+v: %v", len(begin), a, took)
			}
		}
	}
}
