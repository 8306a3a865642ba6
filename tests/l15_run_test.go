package tests

import (
	"slices"
	"testing"

	"loop.example/g00389/impl"
)

// What a unit does is worked out here on chapter 10's bench, micro by micro, and held against as many steps of the same processor:
// the program's, and those of the bench.

// placeOfUnit: what lies there, as a text.
func placeOfUnit(c impl.Cpu, u impl.Unit) string { return hexText(c.Bus.Bytes[u.From:u.To]) }

func wantedUnitRun(c impl.Cpu, u impl.Unit) (impl.Cpu, int, impl.Fault) {
	for i, m := range u.List {
		after, fault := wantedDone(c, m.X, m.At, m.Skip)
		if fault.Vector != 0 {
			return after, i, fault
		}
		changed := placeOfUnit(after, u) != placeOfUnit(c, u)
		if c = after; changed {
			return c, i + 1, impl.Fault{}
		}
	}
	return c, len(u.List), impl.Fault{}
}

func checkUnitRun(t *testing.T, c impl.Cpu, u impl.Unit) (impl.Cpu, int, impl.Fault) {
	t.Helper()
	want, wantDone, wantFault := wantedUnitRun(c, u)
	got, done, fault, ok := impl.RunUnit(c, u)
	if !ok || done != wantDone || fault != wantFault {
		t.Fatalf("RunUnit of %v with %v: %d, %v, %v; want %d, %v", u, c.R, done, fault, ok, wantDone, wantFault)
	}
	if !sameCpus(got, want) {
		t.Fatalf("RunUnit of %v with %v: %v, %v, log %v; want %v, %v, log %v", u, c.R, got.R, got.Stop, got.Bus.Log, want.R, want.Stop, want.Bus.Log)
	}
	return got, done, fault
}

// checkAsSteps: its words being there a unit does what so many steps do, with a fault at the same one.
func checkAsSteps(t *testing.T, c impl.Cpu, u impl.Unit) (impl.Cpu, int, impl.Fault) {
	t.Helper()
	checkFresh(t, c.Bus, u, true)
	got, done, fault := checkUnitRun(t, c, u)
	n := done + min(fault.Vector, 1)
	want, wantDone, wantFault, ok := impl.StepsCpu(c, n)
	if !ok || done != wantDone || fault != wantFault || !sameCpus(got, want) {
		t.Fatalf("RunUnit of %v with %v: %v, log %v, %d, %v; %d steps: %v, log %v, %d, %v", u, c.R, got.R, got.Bus.Log, done, fault, n, want.R, want.Bus.Log, wantDone, wantFault)
	}
	bench, benchDone, benchFault := wantedRun(c, n)
	if done != benchDone || fault != benchFault || !sameCpus(got, bench) {
		t.Fatalf("RunUnit of %v with %v: %v, log %v, %d, %v; want %v, log %v, %d, %v", u, c.R, got.R, got.Bus.Log, done, fault, bench.R, bench.Bus.Log, benchDone, benchFault)
	}
	// it ends early by a fault, or as its words are no more what they were
	whole := fault.Vector == 0 && done == len(u.List)
	if same := placeOfUnit(got, u) == placeOfUnit(c, u); !whole && fault.Vector == 0 && same || done < 0 || done > len(u.List) {
		t.Fatalf("RunUnit of %v with %v ended behind %d", u, c.R, done)
	}
	return got, done, fault
}

// runHere: these are laid at 100, where PC is, translated there, and done.
func runHere(t *testing.T, c impl.Cpu, l ...impl.Ins) (impl.Cpu, int, impl.Fault) {
	t.Helper()
	c = cloneCpu(c)
	c.R.PC = 100
	layIns(c, 100, l...)
	// no instruction, so that the unit ends with them
	layWord(c, 100+2*len(wordsOfRow(l)), 0)
	u, ok := impl.TranslateAt(c.Bus, 100)
	if !ok || !sameUnits(u, wantedUnit(100, l...)) {
		t.Fatal("TranslateAt", u, ok, l)
	}
	return checkAsSteps(t, c, u)
}

func TestUnitsOfEveryGoodInstructionDoWhatAStepDoes(t *testing.T) {
	s := &sundry{seed: 1510}
	for _, x := range goodInstructions() {
		c := sundryCpu(s)
		c.R.Trace = false
		runHere(t, c, x)
	}
}

func TestUnitsOfTwoOfAllKinds(t *testing.T) {
	s := &sundry{seed: 1511}
	all := slices.Concat(straightKinds(), elsewhereKinds())
	for _, first := range straightKinds() {
		for _, second := range all {
			c := sundryCpu(s)
			c.R.Trace = false
			runHere(t, c, first, second)
		}
	}
}

// sundryCode: a processor with a block where PC is, whose writers and registers lead into it often.
func sundryCode(s *sundry) impl.Cpu {
	c := sundryCpu(s)
	c.R.Trace, c.R.PC = false, 2*s.below(170)
	if s.below(8) == 0 {
		c.R.PC = s.of([]int{384, 400, 436, 440, 444, 496, 500, 504, 508})
	}
	near := func() int { return c.R.PC - 4 + 2*s.below(20) }
	at := c.R.PC
	for range 9 {
		x := sundryBlock(s, 1)[0]
		switch s.below(24) {
		case 0, 1, 2, 3:
			x = impl.Ins{Op: s.of([]int{impl.OpFrom, impl.OpOne}), Size: 2, Ea: abs(max(near(), 0))}
		case 4:
			x = impl.Ins{Op: impl.OpDiv, Size: 2, Ea: now(0)}
		}
		if at+2*len(wantedWords(x)) <= 512 {
			layIns(c, at, x)
			at += 2 * len(wantedWords(x))
		}
	}
	for i := range c.R.A {
		if s.below(6) == 0 {
			c.R.A[i] = max(near(), 0)
		}
	}
	return c
}

// Anywhere, with any memory: what TranslateAt tells of a place is done there, and what it tells of the place behind it then.
func TestSundryUnitsDoWhatStepsDo(t *testing.T) {
	s := &sundry{seed: 1512}
	ended, lengths, faults, skipped := map[string]int{}, map[int]int{}, map[int]int{}, 0
	for range 2500 {
		c := sundryCode(s)
		for range 4 {
			u, _ := impl.TranslateAt(c.Bus, c.R.PC)
			if can, _ := impl.CanRun(c, u); !can {
				break
			}
			after, done, fault := checkAsSteps(t, c, u)
			c = after
			lengths[len(u.List)]++
			faults[fault.Vector]++
			for _, m := range u.List[:done] {
				if m.Skip {
					skipped++
				}
			}
			if done == len(u.List) {
				ended["whole"]++
				continue
			}
			if fault.Vector != 0 {
				ended["by a fault"]++
				break
			}
			ended["early"]++
		}
	}
	if ended["by a fault"] < 200 || ended["early"] < 100 || ended["whole"] < 500 || skipped < 200 {
		t.Error(ended, skipped)
	}
	for length := 1; length <= 8; length++ {
		if lengths[length] < 50 {
			t.Error("hardly ever seen", length, lengths)
		}
	}
	for _, vector := range []int{2, 3, 4, 5, 8, 18} {
		if faults[vector] == 0 {
			t.Error("never seen", vector, faults)
		}
	}
}

func TestUnitsWithoutAFault(t *testing.T) {
	for length := 1; length <= 8; length++ {
		c := cpuWith()
		c.R.Flags = 21
		after, done, fault := runHere(t, c, mixedBlock(length)...)
		if done != length || fault != (impl.Fault{}) || after.R.PC != 100+2*len(wordsOfRow(mixedBlock(length))) {
			t.Error(length, done, fault, after.R)
		}
	}
	// what they do, by name: 5 and 3 are 8, which is put at 300, and of which the flags are told
	after, done, _ := runHere(t, cpuWith(),
		impl.Ins{Op: impl.OpTo, Size: 2, Ea: now(5)}, impl.Ins{Op: impl.OpAdd, Size: 2, Ea: now(3)}, impl.Ins{Op: impl.OpFrom, Size: 2, Ea: abs(300)},
		impl.Ins{Op: impl.OpCmp, Size: 2, Ea: now(9)}, impl.Ins{Op: impl.OpBranch, Size: 2, Ea: now(200), Sub: impl.CcCarry})
	if done != 5 || after.R.D[0] != 8 || after.R.PC != 318 || after.R.Flags != flagC+flagN || !slices.Equal(after.Bus.Bytes[300:302], []int{0, 8}) || !slices.Equal(after.Bus.Log, []impl.Access{access(2, 2, 300, 8, 0)}) {
		t.Error(done, after.R, after.Bus.Log)
	}
}

// A last one that leads elsewhere does so.
func TestUnitsThatLeadElsewhere(t *testing.T) {
	add := ofData(impl.OpAdd, 0)
	for _, k := range []struct {
		x    impl.Ins
		tell func(*impl.Cpu)
	}{
		{impl.Ins{Op: impl.OpBranch, Size: 2, Ea: now(65532), Sub: impl.CcTrue}, func(w *impl.Cpu) { w.R.PC = 100 }},
		{impl.Ins{Op: impl.OpBranch, Size: 2, Ea: now(65532), Sub: impl.CcFalse}, func(w *impl.Cpu) { w.R.PC = 106 }},
		{impl.Ins{Op: impl.OpJump, Size: 2, Ea: abs(7)}, func(w *impl.Cpu) { w.R.PC = 7 }},
		{impl.Ins{Op: impl.OpJump, Size: 2, Ea: abs(300), Sub: 1}, func(w *impl.Cpu) {
			w.R.PC, w.R.A[3] = 300, 258
			layWord(*w, 258, 106)
			w.Bus.Log = []impl.Access{access(2, 2, 258, 106, 0)}
		}},
		{impl.Ins{Op: impl.OpFlow, Size: 2, Ea: now(10), Sub: 3}, func(w *impl.Cpu) {
			w.R.PC, w.R.Flags, w.R.Mask, w.R.Super, w.Stop = 106, 10, 0, false, true
			w.R.A[3], w.R.Other = 300, 260
		}},
		{impl.Ins{Op: impl.OpStatus, Size: 2, Ea: now(512 + 256 + 31)}, func(w *impl.Cpu) { w.R.PC, w.R.Flags, w.R.Mask, w.R.Trace = 106, 31, 0, true }},
	} {
		want := cpuWith(add, k.x)
		layWord(want, 100+2*len(wordsOfRow([]impl.Ins{add, k.x})), 0)
		want.R.D[0], want.R.Flags = 26796, 0
		k.tell(&want)
		if after, done, fault := runHere(t, cpuWith(), add, k.x); done != 2 || fault != (impl.Fault{}) || !sameCpus(after, want) {
			t.Error(k.x, done, fault, after.R, want.R)
		}
	}
}

// faultsOfUnits: with D's last one 0x12fa each of these faults, and how far behind its place PC is told.
func faultsOfUnits() []faultRow {
	return []faultRow{
		{x: impl.Ins{Op: impl.OpDiv, Size: 2, Reg: 3, Ea: now(0)}, fault: impl.Fault{Vector: 5, PC: 4}},
		{x: impl.Ins{Op: impl.OpTo, Size: 2, Reg: 3, Ea: abs(450)}, fault: impl.Fault{Vector: 2, Addr: 450}},
		{x: impl.Ins{Op: impl.OpFrom, Size: 1, Reg: 3, Ea: abs(400)}, fault: impl.Fault{Vector: 2, Addr: 400, Write: true}},
		{x: impl.Ins{Op: impl.OpOne, Size: 2, Ea: abs(301), Sub: 1}, fault: impl.Fault{Vector: 3, Addr: 301}},
		{x: impl.Ins{Op: impl.OpBcd, Size: 1, Reg: 3, Ea: by(impl.MdData, 3), Sub: 1}, fault: impl.Fault{Vector: 4}},
		{x: impl.Ins{Op: impl.OpMul, Size: 2, Reg: 3, Ea: abs(65535)}, fault: impl.Fault{Vector: 3, Addr: 65535}},
	}
}

func TestAFaultAtEachPlaceOfAUnit(t *testing.T) {
	for _, k := range faultsOfUnits() {
		for length := 1; length <= 8; length++ {
			for place := range length {
				l := mixedBlock(length)
				l[place] = k.x
				c := cpuWith()
				c.R.D[3], c.R.Flags = 0x12fa, 31
				at := 100 + 2*len(wordsOfRow(l[:place]))
				want := k.fault
				want.Word, want.PC = wantedWords(k.x)[0], at+k.fault.PC
				after, done, fault := runHere(t, c, l...)
				if done != place || fault != want || after.R.PC != at {
					t.Error(l, done, fault, want, after.R)
				}
				// the registers and flags are those behind the ones that were done, each with all its flags
				ahead, _, _, _ := impl.StepsCpu(laidHere(c, l), place)
				if !sameRegs(after.R, ahead.R) || !slices.Equal(after.Bus.Bytes, ahead.Bus.Bytes) {
					t.Error(l, after.R, ahead.R)
				}
			}
		}
	}
}

func laidHere(c impl.Cpu, l []impl.Ins) impl.Cpu {
	c = cloneCpu(c)
	layIns(c, 100, l...)
	layWord(c, 100+2*len(wordsOfRow(l)), 0)
	c.R.PC = 100
	return c
}

// Such as only the last one may be: traps, what is privileged without Super, and stacks that are not there.
func TestAFaultOfOneThatLeadsElsewhere(t *testing.T) {
	for _, k := range otherFaultRows() {
		if isStraightOne(k.x) {
			continue
		}
		for length := range 8 {
			c := cpuWith()
			layWord(c, 400, 0x0c22)
			k.ahead(&c)
			l := append(slices.Repeat([]impl.Ins{flowOf(2), statusTold()}, 4)[:length:length], k.x)
			want := k.fault
			want.PC += 2 * length
			want.Word = wantedWords(k.x)[0]
			if after, done, fault := runHere(t, c, l...); done != length || fault != want || after.R.PC != 100+2*length {
				t.Error(l, done, fault, want, after.R)
			}
		}
	}
}

// Flags that were left out ahead of a fault are not to be seen: those that are were worked out.
func TestFlagsAtAFaultInAUnit(t *testing.T) {
	add, to := impl.Ins{Op: impl.OpAdd, Size: 1, Ea: now(200)}, ofData(impl.OpTo, 0)
	c := cpuWith()
	c.R.D[1], c.R.Flags = 0x3064, 14
	l := []impl.Ins{to, add, {Op: impl.OpDiv, Size: 2, Ea: now(0)}, add, add, to}
	after, done, fault := runHere(t, c, l...)
	if skipText(wantedUnit(100, l...)) != "x.xx.." || done != 2 || fault.Vector != 5 || after.R.Flags != flagC+flagX || after.R.D[0] != 0x302c {
		t.Error(skipText(wantedUnit(100, l...)), done, fault, after.R)
	}
}

// overRow: an access of a size at an address, and whether it is inside the unit that begins at 100.
type overRow struct {
	size, addr int
	inside     bool
}

// writerBlock: at 100 one of two words, at 104 the writer, behind it one of two words and two of one.
func writerBlock(writer impl.Ins) []impl.Ins {
	return []impl.Ins{{Op: impl.OpTo, Size: 2, Reg: 2, Ea: now(77)}, writer, longIns(), ofData(impl.OpSub, 0), ofData(impl.OpAdd, 0)}
}

func overRows() []overRow {
	l := []overRow{{2, 98, false}, {2, 116, false}, {1, 99, false}, {1, 116, false}, {2, 300, false}}
	for addr := 100; addr < 116; addr++ {
		l = append(l, overRow{1, addr, true})
		if addr%2 == 0 {
			l = append(l, overRow{2, addr, true})
		}
	}
	return l
}

// Ahead of the writer, behind it, and at its very words: a change ends the unit behind it, with the words that it was done by.
func TestAUnitThatWritesOverItsWords(t *testing.T) {
	for _, k := range overRows() {
		l := writerBlock(impl.Ins{Op: impl.OpFrom, Size: k.size, Reg: 1, Ea: abs(k.addr)})
		if wantedUnit(100, l...).To != 116 {
			t.Fatal(wantedUnit(100, l...))
		}
		for _, by := range []int{0, 1, 128, 255} {
			c := laidHere(cpuWith(), l)
			there := c.Bus.Bytes[k.addr : k.addr+k.size]
			value := slices.Clone(there)
			value[k.size-1] = (value[k.size-1] + by) % 256
			c.R.D[1] = wantedValue(value)
			after, done, fault := runHere(t, c, l...)
			want := 5
			if k.inside && by > 0 {
				want = 2
			}
			if done != want || fault != (impl.Fault{}) || !slices.Equal(after.Bus.Bytes[k.addr:k.addr+k.size], value) || want == 2 && after.R.PC != 108 || after.R.D[2] != 77 {
				t.Error(k, by, done, fault, after.R)
			}
			if fresh, ok := impl.IsFresh(after.Bus, wantedUnit(100, l...)); fresh != (want == 5) || !ok {
				t.Error(k, by, fresh, ok)
			}
		}
	}
}

// The higher byte of a word alone, too.
func TestAUnitThatWritesOverAHigherByte(t *testing.T) {
	l := writerBlock(impl.Ins{Op: impl.OpOne, Size: 2, Ea: abs(102)})
	l[0].Ea.Ext = 0x4d00
	if after, done, _ := runHere(t, cpuWith(), l...); done != 2 || after.R.PC != 108 || after.R.D[2] != 0x4d00 {
		t.Error(done, after.R)
	}
	l[0].Ea.Ext = 0
	if after, done, _ := runHere(t, cpuWith(), l...); done != 5 || after.R.PC != 116 {
		t.Error(done, after.R)
	}
}

// A stack that lies in the unit, registers that lead into it, and a last one that writes over it.
func TestOtherWaysToWriteOverAUnit(t *testing.T) {
	for _, k := range []struct {
		writer impl.Ins
		reg    int
		addr   int
		done   int
	}{
		{impl.Ins{Op: impl.OpFrom, Size: 2, Reg: 1, Ea: by(impl.MdBefore, 3)}, 3, 114, 2},
		{impl.Ins{Op: impl.OpFrom, Size: 1, Reg: 1, Ea: by(impl.MdBefore, 3)}, 3, 112, 2},
		{impl.Ins{Op: impl.OpFrom, Size: 2, Reg: 1, Ea: by(impl.MdBefore, 3)}, 3, 116, 5},
		{impl.Ins{Op: impl.OpFrom, Size: 2, Reg: 1, Ea: by(impl.MdAfter, 2)}, 2, 110, 2},
		{impl.Ins{Op: impl.OpOne, Size: 1, Ea: by(impl.MdAt, 2), Sub: 2}, 2, 113, 2},
		{impl.Ins{Op: impl.OpOne, Size: 2, Ea: plus(2, 6), Sub: 1}, 2, 94, 2},
		{impl.Ins{Op: impl.OpOne, Size: 2, Ea: plus(2, 6), Sub: 3}, 2, 94, 5},
		{impl.Ins{Op: impl.OpTo, Size: 2, Ea: by(impl.MdAt, 2)}, 2, 100, 5},
	} {
		c := cpuWith()
		c.R.A[k.reg] = k.addr
		if _, done, fault := runHere(t, c, writerBlock(k.writer)...); done != k.done || fault != (impl.Fault{}) {
			t.Error(k, done, fault)
		}
	}
	call := impl.Ins{Op: impl.OpJump, Size: 2, Ea: abs(300), Sub: 1}
	for _, stack := range []int{102, 104, 106, 108, 260} {
		c := cpuWith()
		c.R.A[3] = stack
		if after, done, fault := runHere(t, c, flowOf(2), flowOf(2), call); done != 3 || fault != (impl.Fault{}) || after.R.PC != 300 || after.R.A[3] != stack-2 {
			t.Error(stack, done, fault, after.R)
		}
	}
}

// Behind one change no other micro is done, though its own words are still there; the next unit is that of the new words.
func TestTheNextUnitIsThatOfTheNewWords(t *testing.T) {
	// writes 9 over the Ext of the one behind it
	l := []impl.Ins{{Op: impl.OpTo, Size: 2, Ea: now(9)}, {Op: impl.OpFrom, Size: 2, Ea: abs(110)}, {Op: impl.OpAddr, Size: 2, Ea: now(5)}, flowOf(0)}
	after, done, fault := runHere(t, cpuWith(), l...)
	if done != 2 || fault != (impl.Fault{}) || after.R.PC != 108 || after.R.A[0] != 200 {
		t.Fatal(done, fault, after.R)
	}
	u, ok := impl.TranslateAt(after.Bus, 108)
	l[2].Ea.Ext = 9
	if !ok || !sameUnits(u, wantedUnit(108, l[2:]...)) {
		t.Fatal(u, ok)
	}
	if after, done, _ = checkAsSteps(t, after, u); done != 2 || after.R.A[0] != 9 {
		t.Error(done, after.R)
	}
}

// In one that goes round each time is as so many steps.
func TestAUnitDoneAgainAndAgain(t *testing.T) {
	c := countingCpu()
	u, _ := impl.TranslateAt(c.Bus, 100)
	for round := 1; round <= 20; round++ {
		after, done, _ := checkAsSteps(t, c, u)
		want, _, _, _ := impl.StepsCpu(countingCpu(), 3*round)
		if c = after; done != 3 || !sameCpus(c, want) {
			t.Fatal(round, done, c.R, want.R)
		}
	}
}

// A unit is done as it is told, though other words lie there: its own are not asked for.
func TestAUnitIsDoneThoughItIsStale(t *testing.T) {
	for _, from := range []int{0, 100, 384, 450, 490, 496} {
		u := wantedUnit(from, ofData(impl.OpAdd, 0), longIns(), impl.Ins{Op: impl.OpFrom, Size: 2, Ea: abs(300)}, flowOf(5))
		c := cpuElsewhere()
		c.R.PC = from
		checkFresh(t, c.Bus, u, false)
		after, done, fault := checkUnitRun(t, c, u)
		if done != 4 || fault != (impl.Fault{}) || after.R.PC != u.To || after.R.D[0] != 0xac68 {
			t.Error(from, done, fault, after.R)
		}
	}
}

// A log that is full, or becomes so, is that of steps.
func TestUnitsWithALog(t *testing.T) {
	for _, logged := range []int{0, 1, 397, 398, 399, 400} {
		c := cpuWith()
		c.Bus.Log = logRow(logged)
		l := []impl.Ins{{Op: impl.OpOne, Size: 2, Ea: abs(300), Sub: 1}, {Op: impl.OpFrom, Size: 1, Ea: abs(302)}, {Op: impl.OpTo, Size: 2, Ea: abs(450)}}
		if after, done, fault := runHere(t, c, l...); done != 2 || fault.Vector != 2 || len(after.Bus.Log) != min(logged+4, 400) {
			t.Error(logged, done, fault, len(after.Bus.Log))
		}
	}
}

func checkCan(t *testing.T, c impl.Cpu, u impl.Unit, want bool) {
	t.Helper()
	if can, ok := impl.CanRun(c, u); can != want || !ok {
		t.Fatalf("CanRun of %v, %v, %v, from %d = %v, %v", c.R, c.Stop, c.Halt, u.From, can, ok)
	}
	if !want {
		refusesUnitRun(t, c, u)
	} else {
		checkUnitRun(t, c, u)
	}
}

func refusesUnitRun(t *testing.T, c impl.Cpu, u impl.Unit) {
	t.Helper()
	if after, done, fault, ok := impl.RunUnit(c, u); !isNoCpu(after) || done != 0 || fault != (impl.Fault{}) || ok {
		t.Fatal("RunUnit", c, u, after, done, fault, ok)
	}
}

func TestCanRunAsksForFourThings(t *testing.T) {
	for _, from := range []int{0, 100, 448, 490} {
		u := wantedUnit(from, mixedBlock(8)[:5]...)
		for bits := range 16 {
			c := cpuWith()
			c.R.PC = from
			if bits&1 > 0 {
				c.Stop = true
			}
			if bits&2 > 0 {
				c.Halt = true
			}
			if bits&4 > 0 {
				c.R.Trace = true
			}
			if bits&8 > 0 {
				c.R.PC = from + 2
			}
			// one that both Stops and Halts is no good processor
			if c.Stop && c.Halt {
				refusesUnitRun(t, c, u)
				if can, ok := impl.CanRun(c, u); can || ok {
					t.Error(can, ok)
				}
				continue
			}
			checkCan(t, c, u, bits == 0)
		}
	}
}

func TestCanRunOfEveryPC(t *testing.T) {
	u := wantedUnit(100, mixedBlock(8)...)
	c := cpuWith()
	for pc := range 65536 {
		if c.R.PC = pc; pc > 600 && pc%997 > 0 && pc < 65530 {
			continue
		}
		if can, ok := impl.CanRun(c, u); can != (pc == 100) || !ok {
			t.Fatal(pc, can, ok)
		}
		if pc != 100 {
			refusesUnitRun(t, c, u)
		}
	}
}

// Neither Super, Mask, flags nor what lies on the bus count.
func TestCanRunAsksForNoMore(t *testing.T) {
	s := &sundry{seed: 1513}
	for range 200 {
		c, u := sundryCpu(s), wantedUnit(2*s.below(240), sundryBlock(s, 1+s.below(8))...)
		c.R.PC = u.From
		checkCan(t, c, u, !c.R.Trace)
	}
}

func TestRunUnitRefusesWrongCpus(t *testing.T) {
	u := wantedUnit(100, mixedBlock(8)...)
	registers, buses := wrongRegs(), wrongBuses()
	l := []impl.Cpu{{}, {Stop: true}, {Halt: true}, {Stop: true, Halt: true, R: cpuWith().R, Bus: fullBus(0)}}
	for i, r := range registers {
		l = append(l, impl.Cpu{R: r, Bus: fullBus(1)}, impl.Cpu{R: r, Bus: fullBus(0), Stop: true}, impl.Cpu{R: r, Bus: buses[i%len(buses)]})
	}
	for _, b := range buses {
		l = append(l, impl.Cpu{R: cpuWith().R, Bus: b}, impl.Cpu{R: cpuWith().R, Bus: b, Halt: true})
	}
	for _, c := range l {
		refusesUnitRun(t, c, u)
		refusesUnitRun(t, c, impl.Unit{})
		if can, ok := impl.CanRun(c, u); can || ok {
			t.Fatal("CanRun", c, can, ok)
		}
	}
}

// unitsOfMemory: such as read and write, fault with a log, write over their words, and change the stacks.
func unitsOfMemory() [][]impl.Ins {
	return [][]impl.Ins{
		mixedBlock(8), shortBlock(1),
		{{Op: impl.OpTo, Size: 2, Ea: abs(200)}, {Op: impl.OpFrom, Size: 1, Ea: by(impl.MdBefore, 3)}, {Op: impl.OpOne, Size: 2, Ea: abs(450), Sub: 1}},
		{{Op: impl.OpFrom, Size: 2, Reg: 1, Ea: abs(104)}, flowOf(2)},
		{ofData(impl.OpAdd, 0), {Op: impl.OpFlow, Size: 2, Ea: now(0), Sub: 3}},
	}
}

// answersOfUnits: done, and done again where PC is once more.
func answersOfUnits(c impl.Cpu, u impl.Unit) []impl.Cpu {
	one, _, _, _ := impl.RunUnit(c, u)
	again := one
	again.R.PC, again.Stop = u.From, false
	two, _, _, _ := impl.RunUnit(again, u)
	return []impl.Cpu{one, two}
}

func TestRunUnitWritesIntoNone(t *testing.T) {
	for _, logged := range []int{0, 1, 399, 400} {
		for _, l := range unitsOfMemory() {
			c, m := roomyCpu(logged)
			layIns(c, 100, l...)
			u, micros := roomyUnit(100, l...)
			want, wantMicros := m.clone(), slices.Clone(micros)
			answersOfUnits(c, u)
			impl.CanRun(c, u)
			if !m.same(want) || !slices.Equal(micros, wantMicros) {
				t.Fatal("an argument's memory was changed", logged, l)
			}
		}
	}
}

func TestRunUnitAnswersNewMemory(t *testing.T) {
	for _, logged := range []int{0, 1, 399, 400} {
		for _, l := range unitsOfMemory() {
			c, m := roomyCpu(logged)
			layIns(c, 100, l...)
			u, micros := roomyUnit(100, l...)
			plain := answersOfUnits(cloneCpu(c), u)
			first, second := answersOfUnits(c, u), answersOfUnits(c, u)
			m.spoil()
			spoilMicros(micros)
			for _, d := range second {
				memoryOfCpu(d).spoil()
			}
			for i, want := range plain {
				if !sameCpus(first[i], want) {
					t.Fatal("an answer shares memory", logged, l, i)
				}
				memoryOfCpu(first[i]).spoil()
			}
		}
	}
}

func TestNoTwoListsOfAUnitsProcessorShareMemory(t *testing.T) {
	c, _ := roomyCpu(2)
	c.R.D = c.R.A
	for i, d := range answersOfUnits(c, wantedUnit(100, mixedBlock(8)...)) {
		want := cloneCpu(d)
		spoil(d.R.D)
		if !slices.Equal(d.R.A, want.R.A) || !slices.Equal(d.Bus.Bytes, want.Bus.Bytes) {
			t.Fatal("D is shared", i)
		}
		spoil(d.R.A)
		if !slices.Equal(d.Bus.Bytes, want.Bus.Bytes) {
			t.Fatal("A is shared", i)
		}
	}
}
