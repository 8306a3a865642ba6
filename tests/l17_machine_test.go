package tests

import (
	"math"
	"slices"
	"testing"

	"loop.example/g00389/impl"
)

// What a machine does by blocks is worked out here twice: as the document says it, on the benches of chapters 12, 15 and 16,
// for the store and what was translated; and boundary for boundary, without a store, for all else.

func cloneMachine(m impl.Machine) impl.Machine {
	return impl.Machine{Irq: cloneIrq(m.Irq), Store: cloneStore(m.Store)}
}

func sameMachines(a impl.Machine, b impl.Machine) bool {
	return sameIrqs(a.Irq, b.Irq) && sameStores(a.Store, b.Store)
}

func isNoMachine(m impl.Machine) bool { return sameMachines(m, impl.Machine{}) }

// goesByUnits: what is asked ahead of the store.
func goesByUnits(q impl.Irq) bool {
	c := q.Cpu
	return !c.Halt && !c.Stop && wantedPending(q) == 0 && !c.R.Trace && isUnitPlace(c.R.PC)
}

// counts is how often something was seen, by name.
type counts map[string]int

// wantedUnitNow: the unit that is to be done, and the store as it is then.
func wantedUnitNow(m impl.Machine, left int, seen counts) (impl.Store, impl.Unit, bool) {
	if !goesByUnits(m.Irq) {
		seen["not asked"]++
		return m.Store, impl.Unit{}, false
	}
	s, u, ended := wantedUnitFor(m.Store, m.Irq.Cpu.Bus, m.Irq.Cpu.R.PC)
	seen[ended]++
	switch {
	case ended == "not":
		return m.Store, impl.Unit{}, false
	case len(u.List) > left:
		seen["too long"]++
		return s, impl.Unit{}, false
	}
	return s, u, true
}

func wantedByUnit(q impl.Irq, u impl.Unit, seen counts) (impl.Irq, []int) {
	after, done, fault := wantedUnitRun(q.Cpu, u)
	told := slices.Repeat([]int{0}, done)
	switch {
	case fault.Vector != 0:
		seen["by a fault"]++
		after = wantedEntered(after, fault)
		told = append(told, fault.Vector)
	case done < len(u.List):
		seen["early"]++
	default:
		seen["whole"]++
	}
	q.Cpu = after
	return q, told
}

func wantedFast(m impl.Machine, n int, seen counts) (impl.Machine, []int, int) {
	m = cloneMachine(m)
	before := seen["translated"]
	var told []int
	for len(told) < n {
		var tells []int
		s, u, ok := wantedUnitNow(m, n-len(told), seen)
		if ok {
			m.Irq, tells = wantedByUnit(m.Irq, u, seen)
		} else {
			after, one := wantedBoundary(m.Irq)
			m.Irq, tells = after, []int{one}
		}
		gone := 0
		m.Store, gone = wantedKept(s, func(u impl.Unit) bool { return isThere(m.Irq.Cpu.Bus, u) })
		if told = append(told, tells...); gone > 0 {
			seen["stale"]++
		}
	}
	return m, told, seen["translated"] - before
}

// isGoodMachine: good, and all of its store is fresh.
func isGoodMachine(t *testing.T, m impl.Machine) {
	t.Helper()
	if !impl.GoodMachine(m) || !impl.GoodIrq(m.Irq) {
		t.Fatal("it is not good", m)
	}
	isGoodStore(t, m.Store)
	if fresh, ok := impl.AllFresh(m.Irq.Cpu.Bus, m.Store); !fresh || !ok {
		t.Fatal("not all is fresh", m.Store)
	}
}

func checkSame(t *testing.T, m impl.Machine, q impl.Irq, want bool) {
	t.Helper()
	if same, ok := impl.SameGuest(m, q); same != want || !ok {
		t.Fatalf("SameGuest of %v and %v = %v, %v", m.Irq, q, same, ok)
	}
}

// checkFastSeen holds RunFast against both, and against RunIrq.
func checkFastSeen(t *testing.T, m impl.Machine, n int, seen counts) (impl.Machine, []int, int) {
	t.Helper()
	want, wantTold, wantMade := wantedFast(m, n, seen)
	got, told, made, ok := impl.RunFast(m, n)
	if !ok || !slices.Equal(told, wantTold) || made != wantMade || !sameStores(got.Store, want.Store) {
		t.Fatalf("RunFast(%d) of %v, line %d, %v, %v: %v, %d, %v, %v; want %v, %d, %v", n, m.Irq.Cpu.R, m.Irq.Line, m.Irq.Edge, m.Store, told, made, got.Store, ok, wantTold, wantMade, want.Store)
	}
	q, tells := checkRunIrq(t, m.Irq, n)
	if !slices.Equal(told, tells) || !sameIrqs(got.Irq, q) || !sameIrqs(got.Irq, want.Irq) {
		t.Fatalf("RunFast(%d) of %v, line %d, %v: %v, log %v, %v; RunIrq: %v, log %v, %v", n, m.Irq.Cpu.R, m.Irq.Line, m.Irq.Edge, got.Irq.Cpu.R, got.Irq.Cpu.Bus.Log, told, q.Cpu.R, q.Cpu.Bus.Log, tells)
	}
	checkSame(t, got, q, true)
	isGoodMachine(t, got)
	return got, told, made
}

func checkFast(t *testing.T, m impl.Machine, n int) (impl.Machine, []int, int) {
	t.Helper()
	return checkFastSeen(t, m, n, counts{})
}

// machineOf: as NewMachine makes it.
func machineOf(t *testing.T, c impl.Cpu, room int) impl.Machine {
	t.Helper()
	m, ok := impl.NewMachine(c, room)
	if !ok || !sameMachines(m, impl.Machine{Irq: impl.Irq{Cpu: c}, Store: impl.Store{Room: room}}) {
		t.Fatal("NewMachine", c, room, m, ok)
	}
	isGoodMachine(t, m)
	return m
}

// blockCpu: these at 100, where PC is, with no instruction behind them, and every exception leads to 200, where nothing is done, for ever.
func blockCpu(l ...impl.Ins) impl.Cpu {
	c := cpuWith(l...)
	layWord(c, 100+2*len(wordsOfRow(l)), 0)
	for vector := range 32 {
		layWord(c, 2*vector, 200)
	}
	layIns(c, 200, flowOf(2), impl.Ins{Op: impl.OpBranch, Size: 2, Ea: now(65532)})
	c.R.A[3], c.R.Other = 380, 340
	return c
}

func jumpTo(place int) impl.Ins { return impl.Ins{Op: impl.OpJump, Size: 2, Ea: abs(place)} }

// usesOf: where each unit begins, and when it was used.
func usesOf(s impl.Store) map[int]int {
	uses := map[int]int{}
	for _, c := range s.Units {
		uses[c.Unit.From] = c.Used
	}
	return uses
}

func checkTold(t *testing.T, what any, got []int, want ...int) {
	t.Helper()
	if !slices.Equal(got, want) {
		t.Error(what, got, want)
	}
}

func checkUses(t *testing.T, what any, s impl.Store, clock int, want map[int]int) {
	t.Helper()
	uses := usesOf(s)
	same := s.Clock == clock && len(uses) == len(want)
	for from, used := range want {
		same = same && uses[from] == used
	}
	if !same {
		t.Error(what, s.Clock, uses, clock, want)
	}
}

func noughts(n int) []int { return slices.Repeat([]int{0}, n) }

func TestConstantsOfTheMachine(t *testing.T) {
	if got := []int{impl.MaxEvents, impl.EvRun, impl.EvLine, impl.EvPoke, impl.EvReset}; !slices.Equal(got, []int{20, 1, 2, 3, 4}) {
		t.Error(got)
	}
}

func refusesNewMachine(t *testing.T, c impl.Cpu, room int) {
	t.Helper()
	if m, ok := impl.NewMachine(c, room); !isNoMachine(m) || ok {
		t.Fatal("NewMachine", c, room, m, ok)
	}
}

var wrongRooms = []int{math.MinInt, -1 << 32, -8, -1, 0, 9, 10, 16, 256, 257, 1 << 32, 1<<32 + 1, math.MaxInt}

func TestNewMachineOfEachRoom(t *testing.T) {
	for _, logged := range []int{0, 3, 400} {
		for _, c := range waysToBe(func() impl.Cpu { return impl.Cpu{R: unlikeRegs(), Bus: fullBus(logged)} }) {
			for room := 1; room <= 8; room++ {
				machineOf(t, c, room)
			}
			for _, room := range wrongRooms {
				refusesNewMachine(t, c, room)
			}
		}
	}
}

// plainMachine: a good one, with three units of its bus.
func plainMachine() impl.Machine {
	s := storeOf(4, 9, 5, 9, 2)
	c := cpuWith()
	c.Bus = busWith(s.Units...)
	return impl.Machine{Irq: impl.Irq{Cpu: c, Line: 3, Edge: true}, Store: s}
}

func TestGoodMachines(t *testing.T) {
	isGoodMachine(t, plainMachine())
	for _, s := range stores() {
		for line := range 8 {
			c := cpuWith()
			c.Bus = busWith(s.Units...)
			c.Stop, c.Halt = line%3 == 1, line%3 == 2
			isGoodMachine(t, impl.Machine{Irq: impl.Irq{Cpu: c, Line: line, Edge: line%2 == 0}, Store: s})
		}
	}
}

// wrongMachines: each wrong in its listener, its store or its freshness alone.
func wrongMachines() []impl.Machine {
	var l []impl.Machine
	add := func(change func(*impl.Machine)) {
		m := plainMachine()
		change(&m)
		l = append(l, m)
	}
	for _, line := range wrongLevels {
		add(func(m *impl.Machine) { m.Irq.Line = line })
	}
	for _, r := range wrongRegs() {
		add(func(m *impl.Machine) { m.Irq.Cpu.R = r })
	}
	for _, b := range wrongBuses() {
		add(func(m *impl.Machine) { m.Irq.Cpu.Bus = b })
	}
	for _, s := range wrongStores() {
		add(func(m *impl.Machine) { m.Store = s })
	}
	for i, c := range plainMachine().Store.Units {
		// one byte of one unit, the first and the last
		add(func(m *impl.Machine) { m.Irq.Cpu.Bus.Bytes[c.Unit.From] ^= 1 })
		add(func(m *impl.Machine) { m.Irq.Cpu.Bus.Bytes[c.Unit.To-1] ^= 128 })
		add(func(m *impl.Machine) { m.Store.Units[i].Unit = wantedUnit(c.Unit.From, flowOf(0)) })
	}
	add(func(m *impl.Machine) {
		// what is in a hole is not there
		u := wantedUnit(460, flowOf(2))
		copy(m.Irq.Cpu.Bus.Bytes[460:], bytesOfUnit(u))
		m.Store.Units = append(m.Store.Units, impl.Cached{Unit: u, Used: 7})
	})
	add(func(m *impl.Machine) { m.Irq = impl.Irq{} })
	add(func(m *impl.Machine) { m.Store = impl.Store{} })
	return append(l, impl.Machine{})
}

func refusesFast(t *testing.T, m impl.Machine, n int) {
	t.Helper()
	if got, told, made, ok := impl.RunFast(m, n); !isNoMachine(got) || len(told) != 0 || made != 0 || ok {
		t.Fatal("RunFast", m, n, got, told, made, ok)
	}
}

func refusesEvent(t *testing.T, m impl.Machine, e impl.Event) {
	t.Helper()
	if got, told, ok := impl.DoEvent(m, e); !isNoMachine(got) || len(told) != 0 || ok {
		t.Fatal("DoEvent", m, e, got, told, ok)
	}
}

func refusesSame(t *testing.T, m impl.Machine, q impl.Irq) {
	t.Helper()
	if same, ok := impl.SameGuest(m, q); same || ok {
		t.Fatal("SameGuest", m, q, same, ok)
	}
}

func TestEveryFunctionRefusesWrongMachines(t *testing.T) {
	for _, m := range wrongMachines() {
		if impl.GoodMachine(m) {
			t.Fatal("GoodMachine", m)
		}
		for _, n := range []int{-1, 0, 1, 60, 61} {
			refusesFast(t, m, n)
		}
		for _, e := range goodEvents() {
			refusesEvent(t, m, e)
		}
		refusesEvent(t, m, impl.Event{})
		refusesSame(t, m, m.Irq)
		refusesSame(t, m, plainMachine().Irq)
		refusesSame(t, m, impl.Irq{})
	}
}

func TestRunFastRefusesWrongNumbers(t *testing.T) {
	for _, n := range []int{-1, -2, -60, 61, 62, 120, 1 << 32, 1<<32 + 5, math.MaxInt, math.MinInt} {
		for _, c := range waysToBe(countingCpu) {
			refusesFast(t, machineOf(t, c, 3), n)
		}
		refusesFast(t, plainMachine(), n)
	}
}

// A loop of three: how many boundaries are left says whether it is done by its unit; the store is asked all the same.
func TestALoopOfThree(t *testing.T) {
	for _, k := range []struct {
		n, made, clock, pc int
		uses               map[int]int
	}{
		{0, 0, 0, 100, nil},
		// too long: one boundary, and the next one is in the middle of it
		{1, 1, 1, 104, map[int]int{100: 1}},
		{2, 2, 2, 108, map[int]int{100: 1, 104: 2}},
		{3, 1, 1, 100, map[int]int{100: 1}},
		{4, 1, 2, 104, map[int]int{100: 2}},
		{5, 2, 3, 108, map[int]int{100: 2, 104: 3}},
		{6, 1, 2, 100, map[int]int{100: 2}},
		{59, 2, 21, 108, map[int]int{100: 20, 104: 21}},
		{60, 1, 20, 100, map[int]int{100: 20}},
	} {
		for room := 1; room <= 8; room++ {
			got, told, made := checkFast(t, machineOf(t, countingCpu(), room), k.n)
			if room == 1 && len(k.uses) == 2 {
				checkUses(t, k, got.Store, k.clock, map[int]int{104: k.uses[104]})
			} else {
				checkUses(t, k, got.Store, k.clock, k.uses)
			}
			if made != k.made || got.Irq.Cpu.R.PC != k.pc || !slices.Equal(told, noughts(k.n)) {
				t.Error(k, room, told, made, got.Irq.Cpu.R.PC)
			}
		}
	}
}

// As many micros as boundaries are left, and one more, of a unit of each length.
func TestAUnitMustFitWhatIsLeft(t *testing.T) {
	for length := 2; length <= 8; length++ {
		for _, l := range [][]impl.Ins{mixedBlock(length), longBlock(length), append(shortBlock(length-1), jumpTo(200))} {
			for room := 1; room <= 8; room++ {
				m := machineOf(t, blockCpu(l...), room)
				got, told, made := checkFast(t, m, length)
				checkUses(t, l, got.Store, 1, map[int]int{100: 1})
				checkTold(t, l, told, noughts(length)...)
				if made != 1 {
					t.Error(l, made)
				}
				// each of these is too long by one: it is kept, one boundary comes, and then what lies behind that
				got, told, made = checkFast(t, m, length-1)
				checkTold(t, l, told, noughts(length-1)...)
				if made != length-1 || got.Store.Clock != length-1 || len(got.Store.Units) != min(length-1, room) {
					t.Error(l, made, got.Store)
				}
			}
		}
	}
}

// Behind a unit that fits, with boundaries left for a part of the next one.
func TestWhatIsTooLongIsKept(t *testing.T) {
	c := blockCpu(append(longBlock(7), jumpTo(100))...)
	for left := 1; left <= 7; left++ {
		m, told, made := checkFast(t, machineOf(t, c, 8), 48+left)
		checkTold(t, left, told, noughts(48+left)...)
		if made != left || m.Store.Clock != 6+left || usesOf(m.Store)[100] != 7 || m.Irq.Cpu.R.PC != 100+4*left {
			t.Error(left, made, m.Store, m.Irq.Cpu.R.PC)
		}
		// next time they are found
		again, _, made := checkFast(t, m, 8-left)
		if made != 1 || again.Irq.Cpu.R.PC != 100 || again.Store.Clock != 7+left {
			t.Error(left, made, again.Store)
		}
	}
}

// restRow: where no unit is asked for, what each of two boundaries tells.
type restRow struct {
	name   string
	change func(*impl.Irq)
	told   []int
}

func restRows() []restRow {
	return []restRow{
		{"it stops", func(q *impl.Irq) { q.Cpu.Stop = true }, []int{-1, -1}},
		{"it halts", func(q *impl.Irq) { q.Cpu.Halt = true }, []int{-1, -1}},
		{"it halts with a rise", func(q *impl.Irq) { q.Cpu.Halt, q.Line, q.Edge = true, 7, true }, []int{-1, -1}},
		{"it stops, with a line that is not above the mask", func(q *impl.Irq) { q.Cpu.Stop, q.Line = true, 5 }, []int{-1, -1}},
		{"a line above the mask, and the mask is that then", func(q *impl.Irq) { q.Line = 6 }, []int{106}},
		{"a rise", func(q *impl.Irq) { q.Edge = true }, []int{107}},
		{"a rise past the mask", func(q *impl.Irq) { q.Edge, q.Cpu.R.Mask = true, 7 }, []int{107}},
		{"it stops, with a line", func(q *impl.Irq) { q.Cpu.Stop, q.Line = true, 7 }, []int{107}},
		{"a trace", func(q *impl.Irq) { q.Cpu.R.Trace = true }, []int{9}},
		{"an odd PC", func(q *impl.Irq) { q.Cpu.R.PC = 101 }, []int{3}},
		{"an odd PC at the end of the memory", func(q *impl.Irq) { q.Cpu.R.PC = 511 }, []int{3}},
		{"an odd PC behind it", func(q *impl.Irq) { q.Cpu.R.PC = 513 }, []int{3}},
		{"the last PC", func(q *impl.Irq) { q.Cpu.R.PC = 65535 }, []int{3}},
		{"PC at the memory's size", func(q *impl.Irq) { q.Cpu.R.PC = 512 }, []int{2}},
		{"PC above it", func(q *impl.Irq) { q.Cpu.R.PC = 514 }, []int{2}},
		{"PC far above it", func(q *impl.Irq) { q.Cpu.R.PC = 65534 }, []int{2}},
		{"PC in a hole", func(q *impl.Irq) { q.Cpu.R.PC = 448 }, []int{2}},
		{"words that are no instruction", func(q *impl.Irq) { layWord(q.Cpu, 100, 0) }, []int{4}},
		{"an instruction whose second word is in a hole", func(q *impl.Irq) {
			layIns(q.Cpu, 446, longIns())
			q.Cpu.R.PC = 446
		}, []int{2}},
		{"an instruction whose second word is beyond the memory", func(q *impl.Irq) {
			layIns(q.Cpu, 508, longIns())
			layWord(q.Cpu, 510, wantedWords(longIns())[0])
			q.Cpu.R.PC = 510
		}, []int{2}},
	}
}

// The store stays as it was: no moment has gone by, though a unit of the place is in it.
func TestWhereNoUnitIsRun(t *testing.T) {
	for _, k := range restRows() {
		for room := 1; room <= 8; room++ {
			m := machineOf(t, blockCpu(mixedBlock(6)...), room)
			k.change(&m.Irq)
			if u := wantedUnit(100, mixedBlock(6)...); isThere(m.Irq.Cpu.Bus, u) {
				m.Store = impl.Store{Room: room, Clock: 3, Units: []impl.Cached{{Unit: u, Used: 2}}}
			}
			isGoodMachine(t, m)
			got, told, made := checkFast(t, m, len(k.told))
			checkTold(t, k.name, told, k.told...)
			if made != 0 || !sameStores(got.Store, m.Store) {
				t.Error(k.name, made, got.Store)
			}
			// and on to the end
			checkFast(t, m, 60)
		}
	}
}

// Each of these away, the same machine goes by its unit.
func TestWhereAUnitIsRun(t *testing.T) {
	for _, change := range []func(*impl.Irq){
		func(*impl.Irq) {}, func(q *impl.Irq) { q.Line = 5 }, func(q *impl.Irq) { q.Line, q.Cpu.R.Mask = 7, 7 }, func(q *impl.Irq) { q.Cpu.R.Mask = 0 }, func(q *impl.Irq) { q.Cpu.R.Super = false },
	} {
		m := machineOf(t, blockCpu(mixedBlock(6)...), 1)
		m.Store = impl.Store{Room: 1, Clock: 3, Units: []impl.Cached{cached(2, 100, mixedBlock(6)...)}}
		change(&m.Irq)
		got, told, made := checkFast(t, m, 6)
		checkTold(t, m.Irq.Line, told, noughts(6)...)
		checkUses(t, m.Irq.Line, got.Store, 4, map[int]int{100: 4})
		if made != 0 {
			t.Error(made)
		}
	}
}

// At both ends of the memory, and of each part of it, there are units.
func TestUnitsAtTheEdgesOfTheMemory(t *testing.T) {
	for _, k := range []struct {
		pc   int
		l    []impl.Ins
		told []int
	}{
		{0, []impl.Ins{flowOf(2), jumpTo(0)}, []int{0, 0, 0, 0}},
		{510, []impl.Ins{flowOf(2)}, []int{0, 2, 0, 0}},
		{508, []impl.Ins{longIns()}, []int{0, 2, 0, 0}},
		{446, []impl.Ins{flowOf(2)}, []int{0, 2, 0, 0}},
		{384, []impl.Ins{flowOf(2), jumpTo(384)}, []int{0, 0, 0, 0}},
		{496, []impl.Ins{flowOf(2), jumpTo(496)}, []int{0, 0, 0, 0}},
		{382, []impl.Ins{longIns(), jumpTo(382)}, []int{0, 0, 0, 0}},
	} {
		c := blockCpu()
		c.R.PC, c.R.A[3] = k.pc, 340
		layIns(c, k.pc, k.l...)
		got, told, _ := checkFast(t, machineOf(t, c, 3), 4)
		checkTold(t, k, told, k.told...)
		if usesOf(got.Store)[k.pc] == 0 {
			t.Error(k, got.Store)
		}
	}
}

// A fault at each place of a unit: those ahead of it tell 0, then its vector, and what it leads to.
func TestAFaultAtEachPlaceByUnits(t *testing.T) {
	for _, k := range faultsOfUnits() {
		for length := 1; length <= 8; length++ {
			for place := range length {
				l := mixedBlock(length)
				l[place] = k.x
				c := blockCpu(l...)
				c.R.D[3] = 0x12fa
				got, told, made := checkFast(t, machineOf(t, c, 2), length+2)
				want := append(append(noughts(place), k.fault.Vector), noughts(length+1-place)...)
				checkTold(t, l, told, want...)
				if usesOf(got.Store)[100] != 1 || made < 2 {
					t.Error(l, made, got.Store)
				}
				// one that is found faults as the one that was translated
				m := machineOf(t, c, 1)
				m.Store = impl.Store{Room: 1, Units: []impl.Cached{cached(0, 100, l...)}}
				_, told, made = checkFast(t, m, length)
				checkTold(t, l, told, want[:length]...)
				if place+1 == length && made != 0 {
					t.Error(l, made)
				}
			}
		}
	}
}

// Such as only a last one may have: traps, what needs Super, and stacks that are not there, where it halts.
func TestAFaultOfALastOneByUnits(t *testing.T) {
	trap := impl.Ins{Op: impl.OpFlow, Size: 2, Reg: 2, Sub: 4}
	for length := 1; length <= 8; length++ {
		ahead := longBlock(length - 1)
		_, told, _ := checkFast(t, machineOf(t, blockCpu(append(ahead, trap)...), 2), 10)
		checkTold(t, length, told, append(append(noughts(length-1), 20), noughts(10-length)...)...)
		c := blockCpu(append(longBlock(length-1), impl.Ins{Op: impl.OpFlow, Size: 2, Ea: now(0), Sub: 3})...)
		c.R.Super = false
		_, told, _ = checkFast(t, machineOf(t, c, 2), 10)
		checkTold(t, length, told, append(append(noughts(length-1), 8), noughts(10-length)...)...)
		// the stack is odd, or in a hole: the call faults, and its exception halts
		for addr, vector := range map[int]int{1: 3, 450: 2} {
			c := blockCpu(append(longBlock(length-1), impl.Ins{Op: impl.OpJump, Size: 2, Ea: abs(200), Sub: 1})...)
			c.R.A[3] = addr
			got, told, made := checkFast(t, machineOf(t, c, 2), 10)
			checkTold(t, addr, told, append(append(noughts(length-1), vector), slices.Repeat([]int{-1}, 10-length)...)...)
			if !got.Irq.Cpu.Halt || made != 1 || got.Store.Clock != 1 {
				t.Error(addr, got.Irq.Cpu.Halt, made, got.Store)
			}
		}
	}
}

// What a unit writes over its own words is done as it was written then.
func TestAUnitThatWritesOverItself(t *testing.T) {
	for _, k := range overRows() {
		l := writerBlock(impl.Ins{Op: impl.OpFrom, Size: k.size, Reg: 1, Ea: abs(k.addr)})
		for _, by := range []int{0, 1, 128} {
			c := blockCpu(l...)
			value := slices.Clone(c.Bus.Bytes[k.addr : k.addr+k.size])
			value[k.size-1] = (value[k.size-1] + by) % 256
			c.R.D[1] = wantedValue(value)
			for room := 1; room <= 3; room++ {
				m := machineOf(t, c, room)
				for _, n := range []int{5, 6, 7, 20, 60} {
					checkFast(t, m, n)
				}
				// behind the writer all that it touched is gone
				got, _, _ := checkFast(t, m, 6)
				if changes := k.inside && by > 0; (usesOf(got.Store)[100] != 0) == changes {
					t.Error(k, by, got.Store)
				}
			}
		}
	}
}

// Over another unit's words: that one goes, and comes again as it is then; beside them, or by what lies there: all stay.
func TestAUnitThatWritesOverAnother(t *testing.T) {
	other := []impl.Ins{longIns(), jumpTo(260)}
	for addr := 236; addr < 252; addr++ {
		for _, by := range []int{0, 1, 128} {
			c := blockCpu(impl.Ins{Op: impl.OpFrom, Size: 1, Reg: 1, Ea: abs(addr)}, jumpTo(240))
			layIns(c, 240, other...)
			layIns(c, 260, flowOf(2), jumpTo(100))
			c.R.D[1] = (c.Bus.Bytes[addr] + by) % 256
			m := machineOf(t, c, 3)
			m.Store = impl.Store{Room: 3, Clock: 1, Units: []impl.Cached{cached(0, 240, other...), cached(1, 260, flowOf(2), jumpTo(100))}}
			got, told, made := checkFast(t, m, 2)
			checkTold(t, addr, told, 0, 0)
			want := map[int]int{100: 2, 260: 1}
			if by == 0 || addr < 240 || addr >= 248 {
				want[240] = 0
			}
			checkUses(t, addr, got.Store, 2, want)
			if made != 1 {
				t.Error(addr, by, made)
			}
			checkFast(t, m, 60)
		}
	}
}

// A boundary by itself drops what is stale, too: here one that traces, and one of a unit that is too long.
func TestABoundaryDropsTheStale(t *testing.T) {
	writer := impl.Ins{Op: impl.OpFrom, Size: 2, Reg: 1, Ea: abs(242)}
	for _, trace := range []bool{false, true} {
		c := blockCpu(writer, flowOf(2), flowOf(2))
		c.R.Trace = trace
		layIns(c, 240, longIns())
		m := machineOf(t, c, 4)
		m.Store = impl.Store{Room: 4, Clock: 8, Units: []impl.Cached{cached(3, 240, longIns())}}
		got, told, made := checkFast(t, m, 1)
		if trace {
			checkTold(t, trace, told, 9)
			checkUses(t, trace, got.Store, 8, nil)
		} else {
			checkTold(t, trace, told, 0)
			checkUses(t, trace, got.Store, 9, map[int]int{100: 9})
		}
		if made != map[bool]int{false: 1, true: 0}[trace] {
			t.Error(trace, made)
		}
	}
	// what an exception puts on the stack may lie over a unit's words, too
	c := blockCpu(flowOf(2), impl.Ins{Op: impl.OpFlow, Size: 2, Sub: 4})
	c.R.A[3] = 246
	layIns(c, 240, longIns(), flowOf(2), flowOf(2))
	m := machineOf(t, c, 4)
	m.Store = impl.Store{Room: 4, Clock: 8, Units: []impl.Cached{cached(3, 240, longIns()), cached(4, 246, flowOf(2))}}
	got, told, _ := checkFast(t, m, 2)
	checkTold(t, "a frame", told, 0, 18)
	checkUses(t, "a frame", got.Store, 9, map[int]int{100: 9, 246: 4})
}

// Two blocks by turns: with room for both each is translated once, with room for one each time.
func TestHowManyWereTranslated(t *testing.T) {
	c := blockCpu(flowOf(2), jumpTo(240))
	layIns(c, 240, flowOf(2), flowOf(2), jumpTo(100))
	for _, k := range []struct{ room, n, made, clock int }{
		{1, 2, 1, 1}, {1, 5, 2, 2}, {1, 10, 4, 4}, {1, 60, 24, 24}, {2, 2, 1, 1}, {2, 5, 2, 2}, {2, 10, 2, 4}, {2, 60, 2, 24}, {8, 60, 2, 24},
		// the last ones are too long: each is translated, though it is not run
		{1, 3, 2, 2}, {1, 4, 3, 3}, {2, 3, 2, 2}, {2, 4, 3, 3}, {3, 9, 3, 5},
	} {
		m := machineOf(t, c, k.room)
		first, _, made := checkFast(t, m, k.n)
		if made != k.made || first.Store.Clock != k.clock {
			t.Error(k, made, first.Store)
		}
		if k.n%5 > 0 {
			continue
		}
		// again, with what the store holds then
		_, _, made = checkFast(t, first, k.n)
		if want := map[bool]int{true: k.made, false: 0}[k.room == 1]; made != want {
			t.Error(k, made)
		}
	}
}

// What a last micro does is heard of at the next boundary.
func TestWhatALastOneChanges(t *testing.T) {
	take := func(status int) impl.Ins { return impl.Ins{Op: impl.OpStatus, Size: 2, Ea: now(status)} }
	stop := func(status int) impl.Ins { return impl.Ins{Op: impl.OpFlow, Size: 2, Ea: now(status), Sub: 3} }
	for _, k := range []struct {
		x    impl.Ins
		line int
		told []int
	}{
		{take(256), 3, []int{0, 0, 103, 0, 0}},
		{take(256 + 32*2), 3, []int{0, 0, 103, 0, 0}},
		{take(256 + 32*3), 3, []int{0, 0, 0, 0, 0}},
		{take(256 + 512 + 32*7), 3, []int{0, 0, 9, 0, 0}},
		{take(256 + 512), 3, []int{0, 0, 103, 0, 0}},
		{take(0), 0, []int{0, 0, 0, 0, 0}},
		{stop(256 + 32*7), 6, []int{0, 0, -1, -1, -1}},
		{stop(256 + 32*5), 6, []int{0, 0, 106, 0, 0}},
	} {
		m := machineOf(t, withMask(blockCpu(flowOf(2), k.x, flowOf(2), flowOf(2), flowOf(2)), 7), 4)
		m.Irq.Line = k.line
		_, told, _ := checkFast(t, m, 5)
		checkTold(t, k, told, k.told...)
	}
}

// Where the clock has ended no unit can be told: it goes on boundary by boundary.
func TestWhereTheClockEnds(t *testing.T) {
	for _, k := range []struct{ clock, made, end int }{
		{999997, 1, 1000000}, {999998, 1, 1000000}, {999999, 1, 1000000}, {1000000, 0, 1000000}, {999979, 1, 999999},
	} {
		m := machineOf(t, countingCpu(), 2)
		m.Store.Clock = k.clock
		got, told, made := checkFast(t, m, 60)
		checkTold(t, k, told, noughts(60)...)
		if made != k.made || got.Store.Clock != k.end {
			t.Error(k, made, got.Store)
		}
		// and one that is there is not told, but stays
		m.Store = impl.Store{Room: 2, Clock: k.clock, Units: []impl.Cached{cached(5, 100, countingCpuRow()...)}}
		got, _, made = checkFast(t, m, 60)
		if made != 0 || got.Store.Clock != k.end || len(got.Store.Units) != 1 {
			t.Error(k, made, got.Store)
		}
	}
}

func countingCpuRow() []impl.Ins { return wantedRowAt(countingCpu().Bus, 100) }

// busyCpu: blocks that lead to one another, with exceptions that come back or lead into them, and writers that change them.
func busyCpu(s *sundry) impl.Cpu {
	c := sundryCpu(s)
	places := []int{64, 104, 144, 184, 224, 264}
	for _, at := range places {
		for range s.below(8) {
			x := sundryRow(s, 1)[0]
			switch s.below(14) {
			case 0:
				x = impl.Ins{Op: impl.OpFrom, Size: 1 + s.below(2), Reg: s.below(4), Ea: abs(64 + 2*s.below(120))}
			case 1, 2:
				x = impl.Ins{Op: impl.OpOne, Size: 2, Ea: abs(at - 8 + 2*s.below(12)), Sub: s.below(4)}
			case 3:
				x = eventfulIns(s)
			}
			layIns(c, at, x)
			at += 2 * len(wantedWords(x))
		}
		to := s.of(places) + 2*s.below(2)
		layIns(c, at, []impl.Ins{jumpTo(to), {Op: impl.OpJump, Size: 2, Ea: abs(to), Sub: 1}, {Op: impl.OpBranch, Size: 2, Sub: s.below(8), Ea: now((to - at - 2 + 65536) % 65536)}}[s.below(3)])
		layIns(c, at+4, jumpTo(s.of(places)))
	}
	layIns(c, 308, impl.Ins{Op: impl.OpAdd, Size: 2, Reg: s.below(4), Ea: now(s.below(65536))}, impl.Ins{Op: impl.OpFlow, Size: 2, Sub: 1})
	for vector := range 32 {
		layWord(c, 2*vector, []int{308, 308, s.of(places), s.of(places)}[s.below(4)])
	}
	c.R.PC, c.R.Trace = s.of(places), s.below(12) == 0
	c.R.A[3], c.R.Other = s.of([]int{384, 384, 380, 344, 512}), s.of([]int{384, 350, 360, 512})
	return c
}

func TestSundryMachines(t *testing.T) {
	s := &sundry{seed: 1700}
	seen, told := counts{}, map[int]int{}
	for round := range 320 {
		m := machineOf(t, busyCpu(s), 1+round%8)
		m.Irq.Line = s.of([]int{0, 0, s.below(8)})
		m.Irq.Edge = s.below(8) == 0
		m.Irq.Cpu.Stop = s.below(20) == 0
		for _, n := range []int{s.below(61), s.of([]int{0, 1, 60}), 60} {
			before, asked := seen["found"], m.Store.Clock
			after, tells, made := checkFastSeen(t, m, n, seen)
			for _, tell := range tells {
				told[tell]++
			}
			// each moment of the clock is one that was found, or one that was translated
			if after.Store.Clock-asked != made+seen["found"]-before || after.Store.Room != m.Store.Room {
				t.Fatal(after.Store, made)
			}
			m = after
		}
	}
	for name, least := range map[string]int{"found": 500, "translated": 500, "not": 50, "not asked": 100, "too long": 100, "whole": 1000, "early": 30, "by a fault": 100, "stale": 100} {
		if seen[name] < least {
			t.Error("hardly ever seen", name, seen)
		}
	}
	for _, tell := range []int{-1, 0, 2, 3, 4, 5, 8, 9, 18, 101, 103, 106, 107} {
		if told[tell] == 0 {
			t.Error("never told", tell, told)
		}
	}
}

// Any room, and any store that is fresh: the same is told, and the same is behind.
func TestTheRoomIsNotToBeSeen(t *testing.T) {
	s := &sundry{seed: 1701}
	for range 60 {
		c := busyCpu(s)
		n := s.of([]int{20, 59, 60})
		want, wantTold, _ := impl.RunIrq(impl.Irq{Cpu: c}, n)
		for room := 1; room <= 8; room++ {
			m := machineOf(t, c, room)
			// some that were translated before, one over the other, too
			for range s.below(9) {
				if kept, _, _, ok := impl.UnitFor(m.Store, c.Bus, 64+2*s.below(120)); ok {
					m.Store = kept
				}
			}
			got, told, _, ok := impl.RunFast(m, n)
			if !ok || !slices.Equal(told, wantTold) || !sameIrqs(got.Irq, want) {
				t.Fatal(room, told, wantTold, got.Irq, want)
			}
			isGoodMachine(t, got)
		}
	}
}

// As sundry processors of the chapters before, whose PC, stack and memory are of any kind.
func TestSundryProcessorsByUnits(t *testing.T) {
	s := &sundry{seed: 1702}
	for round := range 240 {
		c := eventfulCpu(s)
		switch round % 4 {
		case 0:
			c = sundryCode(s)
		case 1:
			c = sundryCpu(s)
			c.Bus.Bytes = fullOfCode(s).Bytes
			c.R.PC = s.of([]int{2 * s.below(260), s.of(edgeAddresses), 2 * s.below(192)})
		}
		m := machineOf(t, c, 1+s.below(8))
		m.Irq.Line, m.Irq.Edge = s.below(8), s.below(4) == 0
		checkFast(t, m, s.of([]int{1, 7, 30, 60}))
	}
}

func TestRunFastOfNoneChangesNothing(t *testing.T) {
	for _, c := range slices.Concat(waysToBe(restingCpu), waysToBe(trappingCpu), waysToBe(countingCpu)) {
		for line := range 8 {
			m := plainMachine()
			c.Bus = m.Irq.Cpu.Bus
			m.Irq = impl.Irq{Cpu: c, Line: line, Edge: line%2 == 0}
			if got, told, made := checkFast(t, m, 0); !sameMachines(got, m) || len(told) != 0 || made != 0 {
				t.Error(line, got, told, made)
			}
		}
	}
}

func TestRunFastSoOften(t *testing.T) {
	for _, n := range []int{1, 2, 3, 30, 59, 60} {
		for _, c := range slices.Concat(waysToBe(restingCpu), waysToBe(trappingCpu), waysToBe(countingCpu)) {
			for _, line := range levels() {
				for _, edge := range []bool{false, true} {
					m := machineOf(t, c, 1+line)
					m.Irq.Line, m.Irq.Edge = line, edge
					checkFast(t, m, n)
				}
			}
		}
	}
}

// A run is its parts: the guest is the same, however it is cut; the store need not be.
func TestARunIsItsParts(t *testing.T) {
	s := &sundry{seed: 1703}
	for range 60 {
		m := machineOf(t, busyCpu(s), 1+s.below(8))
		whole, told, _, _ := impl.RunFast(m, 60)
		var tells []int
		for len(tells) < 60 {
			after, more, _ := checkFast(t, m, min(1+s.below(20), 60-len(tells)))
			m, tells = after, append(tells, more...)
		}
		if !slices.Equal(told, tells) || !sameIrqs(m.Irq, whole.Irq) {
			t.Fatal(told, tells)
		}
	}
}
