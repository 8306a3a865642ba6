package tests

import (
	"math"
	"slices"
	"testing"

	"loop.example/g00389/impl"
)

// Events, one by one and in plays: each as the document says it, on the benches of the chapters before; then whose memory an answer is.

func goodEvents() []impl.Event {
	l := []impl.Event{{Kind: impl.EvReset}}
	for _, n := range []int{0, 1, 2, 59, 60} {
		l = append(l, impl.Event{Kind: impl.EvRun, K: n})
	}
	for _, level := range levels() {
		l = append(l, impl.Event{Kind: impl.EvLine, K: level})
	}
	for _, k := range []int{0, 1, 100, 383, 384, 447, 448, 495, 496, 511} {
		for _, v := range []int{0, 1, 255} {
			l = append(l, impl.Event{Kind: impl.EvPoke, K: k, V: v})
		}
	}
	return l
}

func wrongEvents() []impl.Event {
	var l []impl.Event
	for _, kind := range []int{0, 5, 6, 8, -1, -2, -4, 256, 257, 1 << 32, 1<<32 + 1, math.MaxInt, math.MinInt} {
		l = append(l, impl.Event{Kind: kind}, impl.Event{Kind: kind, K: 1}, impl.Event{Kind: kind, K: 5, V: 5})
	}
	for _, n := range []int{-1, -2, -60, 61, 62, 120, 1 << 32, 1<<32 + 5, math.MaxInt, math.MinInt} {
		l = append(l, impl.Event{Kind: impl.EvRun, K: n})
	}
	for _, level := range wrongLevels {
		l = append(l, impl.Event{Kind: impl.EvLine, K: level})
	}
	for _, k := range []int{-1, -2, -512, 512, 513, 65535, 65536, 1 << 32, math.MaxInt, math.MinInt} {
		l = append(l, impl.Event{Kind: impl.EvPoke, K: k}, impl.Event{Kind: impl.EvPoke, K: k, V: 255})
	}
	for _, v := range wrongBytes {
		for _, k := range []int{0, 100, 450, 511} {
			l = append(l, impl.Event{Kind: impl.EvPoke, K: k, V: v})
		}
	}
	for _, v := range []int{1, -1, 2, 7, 255, 256, 1 << 32, math.MaxInt, math.MinInt} {
		l = append(l, impl.Event{Kind: impl.EvRun, V: v}, impl.Event{Kind: impl.EvRun, K: 5, V: v}, impl.Event{Kind: impl.EvLine, V: v}, impl.Event{Kind: impl.EvLine, K: 7, V: v},
			impl.Event{Kind: impl.EvReset, V: v}, impl.Event{Kind: impl.EvReset, K: v}, impl.Event{Kind: impl.EvReset, K: v, V: v})
	}
	return l
}

func wantedReset(q impl.Irq) impl.Irq {
	bytes := q.Cpu.Bus.Bytes
	return cloneIrq(impl.Irq{Cpu: impl.Cpu{
		R:   impl.Regs{D: []int{0, 0, 0, 0}, A: []int{0, 0, 0, wantedValue(bytes[0:2])}, PC: wantedValue(bytes[2:4]), Mask: 7, Super: true},
		Bus: q.Cpu.Bus,
	}})
}

// wantedEvent: of a guest alone, whatever it is that runs.
func wantedEvent(q impl.Irq, e impl.Event) (impl.Irq, []int) {
	switch e.Kind {
	case 1:
		return wantedPlay(q, slices.Repeat([]int{-1}, e.K))
	case 2:
		return wantedLine(q, e.K), nil
	case 3:
		q = cloneIrq(q)
		q.Cpu.Bus.Bytes[e.K] = e.V
		return q, nil
	}
	return wantedReset(q), nil
}

func wantedMachineEvent(m impl.Machine, e impl.Event) (impl.Machine, []int) {
	if e.Kind == 1 {
		after, told, _ := wantedFast(m, e.K, counts{})
		return after, told
	}
	q, told := wantedEvent(m.Irq, e)
	s, _ := wantedKept(m.Store, func(u impl.Unit) bool { return isThere(q.Cpu.Bus, u) })
	return impl.Machine{Irq: q, Store: s}, told
}

func checkEvent(t *testing.T, m impl.Machine, e impl.Event) (impl.Machine, []int) {
	t.Helper()
	want, wantTold := wantedMachineEvent(m, e)
	q, plainTold := wantedEvent(m.Irq, e)
	got, told, ok := impl.DoEvent(m, e)
	if !ok || !slices.Equal(told, wantTold) || !slices.Equal(told, plainTold) || !sameMachines(got, want) || !sameIrqs(got.Irq, q) {
		t.Fatalf("DoEvent of %v, %v, line %d, %v, with %v: %v, line %d, %v, %v, %v, %v; want %v, line %d, %v, %v, %v", e, m.Irq.Cpu.R, m.Irq.Line, m.Irq.Edge, m.Store,
			got.Irq.Cpu.R, got.Irq.Line, got.Irq.Edge, got.Store, told, ok, want.Irq.Cpu.R, want.Irq.Line, want.Irq.Edge, want.Store, wantTold)
	}
	isGoodMachine(t, got)
	return got, told
}

// eventMachines: running, stopped and halted, with each line and edge, and with units at 100 and elsewhere.
func eventMachines() []impl.Machine {
	var l []impl.Machine
	for _, c := range waysToBe(countingCpu) {
		for _, line := range []int{0, 3, 7} {
			for _, edge := range []bool{false, true} {
				u := cached(4, 100, countingCpuRow()...)
				layIns(c, 200, mixedBlock(5)...)
				l = append(l, impl.Machine{Irq: impl.Irq{Cpu: c, Line: line, Edge: edge}, Store: impl.Store{Room: 3, Clock: 6, Units: []impl.Cached{u, cached(2, 200, mixedBlock(5)...)}}})
			}
		}
	}
	return l
}

func TestEachEventOfEachMachine(t *testing.T) {
	for _, m := range eventMachines() {
		isGoodMachine(t, m)
		for _, e := range goodEvents() {
			checkEvent(t, m, e)
		}
	}
}

func TestWrongEventsAreRefused(t *testing.T) {
	m := eventMachines()[0]
	for _, e := range wrongEvents() {
		refusesEvent(t, m, e)
		refusesEvent(t, plainMachine(), e)
	}
	refusesEvent(t, m, impl.Event{})
}

func TestEventsOfRunsAndLines(t *testing.T) {
	m := machineOf(t, countingCpu(), 2)
	m, told := checkEvent(t, m, impl.Event{Kind: impl.EvRun, K: 6})
	checkTold(t, "a run", told, noughts(6)...)
	checkUses(t, "a run", m.Store, 2, map[int]int{100: 2})
	if m.Irq.Cpu.R.D[0] != 4660+6 || m.Irq.Cpu.R.PC != 100 {
		t.Error(m.Irq.Cpu.R)
	}
	// a line tells nothing, and leaves the store
	before := m
	m, told = checkEvent(t, m, impl.Event{Kind: impl.EvLine, K: 7})
	if len(told) != 0 || m.Irq.Line != 7 || !m.Irq.Edge || !sameStores(m.Store, before.Store) || !sameCpus(m.Irq.Cpu, before.Irq.Cpu) {
		t.Error(told, m)
	}
	m, _ = checkEvent(t, m, impl.Event{Kind: impl.EvLine, K: 2})
	if m.Irq.Line != 2 || !m.Irq.Edge {
		t.Error(m.Irq)
	}
	_, told = checkEvent(t, m, impl.Event{Kind: impl.EvRun, K: 1})
	checkTold(t, "a rise", told, 107)
}

// Over each byte of a unit, and beside it; with the byte that is there, and with another one; in every part of the memory, and without a log.
func TestPokesOverUnitsAndBeside(t *testing.T) {
	m := eventMachines()[0]
	m.Irq.Cpu.Bus.Log = logRow(3)
	for k := range 512 {
		for _, by := range []int{0, 1, 128} {
			v := (m.Irq.Cpu.Bus.Bytes[k] + by) % 256
			got, told := checkEvent(t, m, impl.Event{Kind: impl.EvPoke, K: k, V: v})
			stays := 2
			if by > 0 && (k >= 100 && k < 112 || k >= 200 && k < m.Store.Units[1].Unit.To) {
				stays = 1
			}
			if got.Irq.Cpu.Bus.Bytes[k] != v || len(told) != 0 || len(got.Store.Units) != stays || got.Store.Clock != 6 || !slices.Equal(got.Irq.Cpu.Bus.Log, logRow(3)) {
				t.Fatal(k, by, told, got.Store)
			}
		}
	}
}

// What is poked is what is done next.
func TestWhatIsPokedIsDone(t *testing.T) {
	m := machineOf(t, countingCpu(), 2)
	m, _ = checkEvent(t, m, impl.Event{Kind: impl.EvRun, K: 3})
	m, _ = checkEvent(t, m, impl.Event{Kind: impl.EvPoke, K: 103, V: 9})
	checkUses(t, "a poke", m.Store, 1, nil)
	m, _ = checkEvent(t, m, impl.Event{Kind: impl.EvRun, K: 3})
	if m.Irq.Cpu.R.D[0] != 4660+3+9 {
		t.Error(m.Irq.Cpu.R)
	}
	// over two units at once
	m = machineOf(t, countingCpu(), 2)
	m, _ = checkEvent(t, m, impl.Event{Kind: impl.EvRun, K: 5})
	checkUses(t, "a run", m.Store, 3, map[int]int{100: 2, 104: 3})
	m, _ = checkEvent(t, m, impl.Event{Kind: impl.EvPoke, K: 111, V: 0})
	checkUses(t, "a poke", m.Store, 3, nil)
}

// What a reset leaves, and what it finds: of each way to be, with a line and a rise.
func TestResets(t *testing.T) {
	for _, m := range eventMachines() {
		c := m.Irq.Cpu
		c.R.Super, c.R.Trace, c.R.Flags = false, true, 31
		layWord(c, 0, 380)
		layWord(c, 2, 100)
		c.Bus.Log = logRow(5)
		m.Irq.Cpu = c
		got, told := checkEvent(t, m, impl.Event{Kind: impl.EvReset})
		q := got.Irq
		if len(told) != 0 || q.Line != 0 || q.Edge || q.Cpu.Stop || q.Cpu.Halt || !sameStores(got.Store, m.Store) || !sameBus(q.Cpu.Bus, c.Bus) {
			t.Fatal(told, q, got.Store)
		}
		if want := (impl.Regs{D: []int{0, 0, 0, 0}, A: []int{0, 0, 0, 380}, PC: 100, Mask: 7, Super: true}); !sameRegs(q.Cpu.R, want) {
			t.Fatal(q.Cpu.R)
		}
		// it goes on from there, with the units that were kept
		after, told := checkEvent(t, got, impl.Event{Kind: impl.EvRun, K: 3})
		checkTold(t, "behind a reset", told, 0, 0, 0)
		if after.Irq.Cpu.R.D[0] != 3 || after.Irq.Cpu.R.PC != 100 || after.Store.Clock != 7 {
			t.Error(after.Irq.Cpu.R, after.Store)
		}
		// a rise is one again behind it
		low, _ := checkEvent(t, got, impl.Event{Kind: impl.EvLine, K: 7})
		if !low.Irq.Edge {
			t.Error(low.Irq)
		}
	}
	// any words, odd ones and far ones, too
	for _, word := range []int{0, 1, 255, 256, 511, 512, 32768, 65535} {
		m := machineOf(t, countingCpu(), 1)
		layWord(m.Irq.Cpu, 0, word)
		layWord(m.Irq.Cpu, 2, 65535-word)
		if got, _ := checkEvent(t, m, impl.Event{Kind: impl.EvReset}); got.Irq.Cpu.R.A[3] != word || got.Irq.Cpu.R.PC != 65535-word {
			t.Error(word, got.Irq.Cpu.R)
		}
	}
}

func namesOfEvents(l []impl.Event) string {
	names := ""
	for _, e := range l {
		names += [...]string{"?", "run ", "line ", "poke ", "reset "}[e.Kind]
	}
	return names
}

// checkPlays: PlayPlain as it is said, PlayMachine of each of these rooms as DoEvent one by one, and both alike.
func checkPlays(t *testing.T, c impl.Cpu, l []impl.Event, rooms ...int) (impl.Irq, []int) {
	t.Helper()
	want, wantTold := cloneIrq(impl.Irq{Cpu: c}), []int(nil)
	for _, e := range l {
		after, told := wantedEvent(want, e)
		want, wantTold = after, append(wantTold, told...)
	}
	q, told, ok := impl.PlayPlain(c, l)
	if !ok || !slices.Equal(told, wantTold) || !sameIrqs(q, want) {
		t.Fatalf("PlayPlain of %s: %v, line %d, %v, %v, %v; want %v, line %d, %v, %v", namesOfEvents(l), q.Cpu.R, q.Line, q.Edge, told, ok, want.Cpu.R, want.Line, want.Edge, wantTold)
	}
	for _, room := range rooms {
		got, fastTold, ok := impl.PlayMachine(c, room, l)
		if !ok || !slices.Equal(fastTold, wantTold) || !sameIrqs(got.Irq, want) {
			t.Fatalf("PlayMachine of %s, room %d: %v, line %d, %v, %v, %v; want %v, line %d, %v, %v", namesOfEvents(l), room, got.Irq.Cpu.R, got.Irq.Line, got.Irq.Edge, fastTold, ok, want.Cpu.R, want.Line, want.Edge, wantTold)
		}
		m := machineOf(t, c, room)
		for _, e := range l {
			m, _ = checkEvent(t, m, e)
		}
		if !sameMachines(got, m) {
			t.Fatalf("PlayMachine of %s, room %d: %v; by DoEvent %v", namesOfEvents(l), room, got.Store, m.Store)
		}
		checkSame(t, got, q, true)
		isGoodMachine(t, got)
	}
	return q, told
}

var allRooms = []int{1, 2, 3, 4, 5, 6, 7, 8}

func TestPlaysOfNoEvent(t *testing.T) {
	for _, c := range waysToBe(countingCpu) {
		for _, l := range [][]impl.Event{nil, {}} {
			if q, told := checkPlays(t, c, l, allRooms...); len(told) != 0 || !sameIrqs(q, impl.Irq{Cpu: c}) {
				t.Error(told, q)
			}
		}
	}
}

func TestPlaysNamedOneByOne(t *testing.T) {
	run := func(n int) impl.Event { return impl.Event{Kind: impl.EvRun, K: n} }
	line := func(level int) impl.Event { return impl.Event{Kind: impl.EvLine, K: level} }
	reset := impl.Event{Kind: impl.EvReset}
	for _, k := range []struct {
		l    []impl.Event
		told []int
	}{
		{[]impl.Event{run(0)}, nil},
		{[]impl.Event{run(3)}, []int{0, 0, 0}},
		{[]impl.Event{run(1), run(2)}, []int{0, 0, 0}},
		{[]impl.Event{line(6), run(2)}, []int{106, 0}},
		{[]impl.Event{line(5), run(2)}, []int{0, 0}},
		{[]impl.Event{line(7), line(0), run(2)}, []int{107, 0}},
		{[]impl.Event{line(7), reset, run(1)}, []int{0}},
		{[]impl.Event{run(2), line(7), run(2), line(7), run(1), line(0), line(7), run(1)}, []int{0, 0, 107, 0, 0, 107}},
		{[]impl.Event{{Kind: impl.EvPoke, K: 100}, {Kind: impl.EvPoke, K: 101}, run(2)}, []int{4, 0}},
		{[]impl.Event{run(2), {Kind: impl.EvPoke, K: 100}, {Kind: impl.EvPoke, K: 101}, run(4)}, []int{0, 0, 0, 4, 0, 0}},
	} {
		c := blockCpu(flowOf(2), flowOf(2), jumpTo(100))
		layWord(c, 0, 380)
		layWord(c, 2, 200)
		_, told := checkPlays(t, c, k.l, allRooms...)
		checkTold(t, namesOfEvents(k.l), told, k.told...)
	}
}

func refusesPlays(t *testing.T, c impl.Cpu, room int, l []impl.Event) {
	t.Helper()
	if m, told, ok := impl.PlayMachine(c, room, l); !isNoMachine(m) || len(told) != 0 || ok {
		t.Fatal("PlayMachine", room, l, m, told, ok)
	}
}

func refusesPlain(t *testing.T, c impl.Cpu, l []impl.Event) {
	t.Helper()
	if q, told, ok := impl.PlayPlain(c, l); !isNoIrq(q) || len(told) != 0 || ok {
		t.Fatal("PlayPlain", l, q, told, ok)
	}
}

func TestPlaysOfMostEvents(t *testing.T) {
	c := countingCpu()
	for _, e := range []impl.Event{{Kind: impl.EvRun, K: 1}, {Kind: impl.EvRun, K: 60}, {Kind: impl.EvRun}, {Kind: impl.EvLine, K: 5}, {Kind: impl.EvPoke, K: 300}, {Kind: impl.EvReset}, {}} {
		if e.Kind > 0 {
			for _, length := range []int{19, 20} {
				if _, told := checkPlays(t, c, slices.Repeat([]impl.Event{e}, length), 1, 8); e.Kind == impl.EvRun && len(told) != length*e.K {
					t.Error(e, length, told)
				}
			}
		}
		for _, length := range []int{21, 22, 40, 1000} {
			l := slices.Repeat([]impl.Event{e}, length)
			refusesPlain(t, c, l)
			refusesPlays(t, c, 1, l)
			refusesPlays(t, c, 8, l)
		}
	}
}

// One that is not as said, first, in the middle and last: nothing is told of the others.
func TestPlaysWithAWrongEvent(t *testing.T) {
	for _, c := range waysToBe(countingCpu) {
		for _, e := range append(wrongEvents(), impl.Event{}) {
			for _, length := range []int{1, 5, 20} {
				for _, place := range []int{0, length / 2, length - 1} {
					l := slices.Repeat([]impl.Event{{Kind: impl.EvRun, K: 2}}, length)
					l[place] = e
					refusesPlain(t, c, l)
					refusesPlays(t, c, 1+length%8, l)
				}
			}
		}
	}
}

func TestPlaysRefuseWrongRoomsAndCpus(t *testing.T) {
	run := []impl.Event{{Kind: impl.EvRun, K: 2}}
	for _, room := range wrongRooms {
		refusesPlays(t, countingCpu(), room, nil)
		refusesPlays(t, countingCpu(), room, run)
	}
	registers, buses := wrongRegs(), wrongBuses()
	l := []impl.Cpu{{}, {Stop: true}, {Halt: true}}
	for i, r := range registers {
		l = append(l, impl.Cpu{R: r, Bus: fullBus(1)}, impl.Cpu{R: r, Bus: buses[i%len(buses)], Halt: true})
	}
	for _, b := range buses {
		l = append(l, impl.Cpu{R: cpuWith().R, Bus: b}, impl.Cpu{R: cpuWith().R, Bus: b, Stop: true})
	}
	for _, c := range l {
		for _, room := range []int{0, 1, 8, 9} {
			refusesNewMachine(t, c, room)
			refusesPlays(t, c, room, nil)
			refusesPlays(t, c, room, run)
		}
		refusesPlain(t, c, nil)
		refusesPlain(t, c, run)
	}
}

// sundryEvent: runs mostly, and pokes into the blocks.
func sundryEvent(s *sundry) impl.Event {
	switch s.below(10) {
	case 0, 1:
		return impl.Event{Kind: impl.EvLine, K: s.of([]int{0, 7, s.below(8)})}
	case 2:
		return impl.Event{Kind: impl.EvPoke, K: s.below(512), V: s.below(256)}
	case 3:
		return impl.Event{Kind: impl.EvPoke, K: 64 + s.below(240), V: s.of([]int{0, 8, 80, s.below(256)})}
	case 4:
		if s.below(3) == 0 {
			return impl.Event{Kind: impl.EvReset}
		}
	}
	return impl.Event{Kind: impl.EvRun, K: s.of([]int{0, 1, 3, 8, s.below(61)})}
}

func TestSundryPlaysOfMachines(t *testing.T) {
	s := &sundry{seed: 1710}
	seen := map[int]int{}
	for round := range 110 {
		c := busyCpu(s)
		layWord(c, 0, 384)
		layWord(c, 2, s.of([]int{64, 104, 144}))
		l := make([]impl.Event, s.of([]int{5, 12, 20}))
		for i := range l {
			l[i] = sundryEvent(s)
		}
		_, told := checkPlays(t, c, l, 1+round%8)
		for _, tell := range told {
			seen[tell]++
		}
	}
	for _, tell := range []int{-1, 0, 2, 3, 4, 5, 9, 18, 107} {
		if seen[tell] == 0 {
			t.Error("never told", tell, seen)
		}
	}
}

// Promise 17, of the program alone: any room tells what none tells.
func TestPlaysOfAnyRoomTellTheSame(t *testing.T) {
	s := &sundry{seed: 1711}
	for range 150 {
		c := busyCpu(s)
		l := make([]impl.Event, 20)
		for i := range l {
			l[i] = sundryEvent(s)
		}
		q, want, ok := impl.PlayPlain(c, l)
		for _, room := range allRooms {
			m, told, is := impl.PlayMachine(c, room, l)
			if !ok || !is || !slices.Equal(told, want) || !sameIrqs(m.Irq, q) || m.Store.Room != room {
				t.Fatal(room, told, want)
			}
			checkSame(t, m, q, true)
		}
	}
}

func TestSameGuestAsksForAll(t *testing.T) {
	m := impl.Machine{Irq: impl.Irq{Cpu: loggedCpu(), Line: 3}, Store: impl.Store{Room: 1}}
	checkSame(t, m, m.Irq, true)
	checkSame(t, m, cloneIrq(m.Irq), true)
	for _, c := range unlikeCpus() {
		q := impl.Irq{Cpu: c, Line: 3}
		checkSame(t, m, q, false)
		checkSame(t, impl.Machine{Irq: q, Store: m.Store}, m.Irq, false)
		checkSame(t, impl.Machine{Irq: q, Store: m.Store}, cloneIrq(q), true)
	}
	for line := range 8 {
		for _, edge := range []bool{false, true} {
			checkSame(t, m, impl.Irq{Cpu: loggedCpu(), Line: line, Edge: edge}, line == 3 && !edge)
		}
	}
	rises := m
	rises.Irq.Edge = true
	checkSame(t, rises, m.Irq, false)
	checkSame(t, rises, rises.Irq, true)
}

// The store has no part in it, nor what lies behind a list.
func TestSameGuestAsksForNoStore(t *testing.T) {
	m := plainMachine()
	for _, s := range []impl.Store{{Room: 1}, {Room: 8, Clock: 1000000}, {Room: 4, Clock: 9, Units: m.Store.Units[:1]}} {
		checkSame(t, impl.Machine{Irq: m.Irq, Store: s}, m.Irq, true)
	}
	c, _ := roomyCpu(3)
	checkSame(t, impl.Machine{Irq: impl.Irq{Cpu: c}, Store: impl.Store{Room: 1}}, impl.Irq{Cpu: cloneCpu(c)}, true)
	c.Bus.Log = nil
	d := cloneCpu(c)
	d.Bus.Log = []impl.Access{}
	checkSame(t, impl.Machine{Irq: impl.Irq{Cpu: c}, Store: impl.Store{Room: 1}}, impl.Irq{Cpu: d}, true)
}

func TestSameGuestRefusesWrongGuests(t *testing.T) {
	m := plainMachine()
	for _, line := range wrongLevels {
		q := cloneIrq(m.Irq)
		q.Line = line
		refusesSame(t, m, q)
	}
	for _, r := range wrongRegs() {
		refusesSame(t, m, impl.Irq{Cpu: impl.Cpu{R: r, Bus: fullBus(1)}})
	}
	for _, b := range wrongBuses() {
		refusesSame(t, m, impl.Irq{Cpu: impl.Cpu{R: cpuWith().R, Bus: b}})
	}
	refusesSame(t, m, impl.Irq{})
}

// machineMemory: all that a machine's lists reach, and a list of events, what lies behind them too.
type machineMemory struct {
	cpu    cpuMemory
	store  storeMemory
	events []impl.Event
}

func (m machineMemory) clone() machineMemory {
	return machineMemory{m.cpu.clone(), m.store.clone(), slices.Clone(m.events)}
}

func (m machineMemory) same(o machineMemory) bool {
	return m.cpu.same(o.cpu) && m.store.same(o.store) && slices.Equal(m.events, o.events)
}

func (m machineMemory) spoil() {
	m.cpu.spoil()
	spoilMicros(m.store.micros)
	clear(m.store.units)
	clear(m.events)
}

// roomyMachine: with room behind all its lists, units at 100, where PC is, at 140 and so on, and events with room behind them.
func roomyMachine(logged int, length int) (impl.Machine, []impl.Event, machineMemory) {
	var memory machineMemory
	var m impl.Machine
	m.Irq.Cpu, memory.cpu = roomyCpu(logged)
	m.Store, memory.store = roomyStore(8, 50, countUp(length)...)
	for _, c := range m.Store.Units {
		copy(m.Irq.Cpu.Bus.Bytes[c.Unit.From:], bytesOfUnit(c.Unit))
	}
	layIns(m.Irq.Cpu, m.Store.Units[0].Unit.To, jumpTo(140))
	layIns(m.Irq.Cpu, m.Store.Units[1].Unit.To, jumpTo(100))
	memory.events = []impl.Event{{Kind: 1, K: 9}, {Kind: 2, K: 7}, {Kind: 1, K: 3}, {Kind: 3, K: 105, V: 1}, {Kind: 4}, {Kind: 1, K: 60}, {Kind: 9}, {Kind: 9}}
	return m, memory.events[:6], memory
}

// machineAnswers: of every function, of the same arguments.
func machineAnswers(m impl.Machine, l []impl.Event) ([]impl.Machine, [][]int) {
	made, _ := impl.NewMachine(m.Irq.Cpu, 3)
	machines, lists := []impl.Machine{made}, [][]int{}
	for _, n := range []int{0, 1, 12, 60} {
		got, told, _, _ := impl.RunFast(m, n)
		machines, lists = append(machines, got), append(lists, told)
	}
	for _, e := range []impl.Event{{Kind: 1, K: 20}, {Kind: 2, K: 6}, {Kind: 3, K: 141, V: 9}, {Kind: 3, K: 300, V: 9}, {Kind: 4}} {
		got, told, _ := impl.DoEvent(m, e)
		machines, lists = append(machines, got), append(lists, told)
	}
	halted := m
	halted.Irq.Cpu.Halt, halted.Irq.Line = true, 7
	stays, told, _, _ := impl.RunFast(halted, 5)
	played, tells, _ := impl.PlayMachine(m.Irq.Cpu, 2, l)
	none, _, _ := impl.PlayMachine(m.Irq.Cpu, 2, nil)
	plain, more, _ := impl.PlayPlain(m.Irq.Cpu, l)
	empty, _, _ := impl.PlayPlain(m.Irq.Cpu, nil)
	machines = append(machines, stays, played, none, impl.Machine{Irq: plain}, impl.Machine{Irq: empty})
	return machines, append(lists, told, tells, more)
}

func spoilMachine(m impl.Machine) {
	memoryOfCpu(m.Irq.Cpu).spoil()
	spoilStore(m.Store)
}

func cloneMachines(l []impl.Machine) []impl.Machine {
	var clones []impl.Machine
	for _, m := range l {
		clones = append(clones, cloneMachine(m))
	}
	return clones
}

func cloneLists(l [][]int) [][]int {
	var clones [][]int
	for _, told := range l {
		clones = append(clones, slices.Clone(told))
	}
	return clones
}

func TestMachinesWriteIntoNone(t *testing.T) {
	for length := 2; length <= 6; length++ {
		for _, logged := range []int{0, 3, 399, 400} {
			m, l, memory := roomyMachine(logged, length)
			want := memory.clone()
			isGoodMachine(t, m)
			machines, lists := machineAnswers(m, l)
			impl.SameGuest(m, m.Irq)
			if len(machines[4].Store.Units) == 0 || len(lists[3]) != 60 || machines[4].Store.Clock < 53 {
				t.Fatal("nothing was done by units", machines[4].Store)
			}
			for _, got := range machines {
				isNothingBehind(t, got.Store)
				spoilMachine(got)
			}
			for _, told := range lists {
				spoil(told)
			}
			if !memory.same(want) {
				t.Fatal("an argument's memory was changed", length, logged)
			}
		}
	}
}

// Nor where the answer is false.
func TestWhatAMachineRefusesIsNotChanged(t *testing.T) {
	m, l, memory := roomyMachine(3, 4)
	want := memory.clone()
	refusesFast(t, m, 61)
	for _, e := range wrongEvents() {
		refusesEvent(t, m, e)
		refusesPlain(t, m.Irq.Cpu, []impl.Event{l[0], e})
	}
	refusesPlays(t, m.Irq.Cpu, 9, l)
	m.Irq.Line = 8
	refusesFast(t, m, 60)
	refusesEvent(t, m, l[0])
	refusesSame(t, m, m.Irq)
	if !memory.same(want) {
		t.Fatal("an argument's memory was changed")
	}
}

// What is behind a list's length is not read: with it or without, the same is told.
func TestMachinesReadNothingBehindAList(t *testing.T) {
	for length := 2; length <= 6; length++ {
		m, l, _ := roomyMachine(3, length)
		machines, lists := machineAnswers(m, l)
		wantMachines, wantLists := machineAnswers(cloneMachine(m), slices.Clone(l))
		if !slices.EqualFunc(machines, wantMachines, sameMachines) || !slices.EqualFunc(lists, wantLists, slices.Equal) {
			t.Fatal(length, lists, wantLists)
		}
	}
}

func TestMachinesAnswerNewMemory(t *testing.T) {
	for length := 2; length <= 6; length++ {
		for _, logged := range []int{0, 3, 399} {
			m, l, memory := roomyMachine(logged, length)
			machines, lists := machineAnswers(m, l)
			wantMachines, wantLists := cloneMachines(machines), cloneLists(lists)
			others, more := machineAnswers(m, l)
			for _, got := range others {
				spoilMachine(got)
			}
			for _, told := range more {
				spoil(told)
			}
			memory.spoil()
			if !slices.EqualFunc(machines, wantMachines, sameMachines) || !slices.EqualFunc(lists, wantLists, slices.Equal) {
				t.Fatal("an answer shares memory", length, logged)
			}
			// what was told beside a machine is not in it
			for _, told := range lists {
				spoil(told)
			}
			if !slices.EqualFunc(machines, wantMachines, sameMachines) {
				t.Fatal("what is told shares memory with a machine", length, logged)
			}
		}
	}
}

// The lists of one answer are lists of their own, though an argument's may be one.
func TestNoTwoListsOfAMachineShareMemory(t *testing.T) {
	m, l, _ := roomyMachine(3, 5)
	m.Irq.Cpu.R.D = m.Irq.Cpu.R.A
	machines, _ := machineAnswers(m, l)
	for i, got := range machines {
		want := cloneMachine(got)
		spoil(got.Irq.Cpu.R.D)
		got.Irq.Cpu.R.D = want.Irq.Cpu.R.D
		if !sameMachines(got, want) {
			t.Fatal("D is shared", i)
		}
		spoil(got.Irq.Cpu.R.A)
		got.Irq.Cpu.R.A = want.Irq.Cpu.R.A
		if !sameMachines(got, want) {
			t.Fatal("A is shared", i)
		}
		for k := range got.Store.Units {
			spoilMicros(got.Store.Units[k].Unit.List)
			got.Store.Units[k] = cloneMachine(want).Store.Units[k]
			if !sameMachines(got, want) {
				t.Fatal("two units share memory", i, k)
			}
		}
	}
}
