package tests

import (
	"math"
	"slices"
	"strings"
	"testing"

	"loop.example/g00389/impl"
)

// What an instruction does at its place is worked out here on chapter 10's bench, and held against a step of the program that begins there;
// rows are held against these one behind the other, and with the skips that DeadFlags answers against the same row without any.

// wantedDone: as a step behind its fetch; where there was no fault and it is so the flags from ahead come back.
func wantedDone(c impl.Cpu, x impl.Ins, at int, skip bool) (impl.Cpu, impl.Fault) {
	after, fault := onBench(c, func(b *bench) {
		words := wantedWords(x)
		b.at, b.word = at, words[0]
		if wantedPrivileged(x) && !b.r.Super {
			panic(impl.Fault{Vector: 8, PC: at, Word: words[0]})
		}
		b.r.PC = walk(at, 2*len(words), addressBehind)
		b.carryOut(x)
	})
	if skip && fault.Vector == 0 {
		after.R.Flags = c.R.Flags
	}
	return after, fault
}

func wantedRow(c impl.Cpu, l []impl.Ins, at int, skip []bool) (impl.Cpu, int, impl.Fault) {
	for i, x := range l {
		after, fault := wantedDone(c, x, at, skip[i])
		if c = after; fault.Vector != 0 {
			return c, i, fault
		}
		at += 2 * len(wantedWords(x))
	}
	return c, len(l), impl.Fault{}
}

// checkDo: with skip and without.
func checkDo(t *testing.T, c impl.Cpu, x impl.Ins, at int) impl.Fault {
	t.Helper()
	var told impl.Fault
	for _, skip := range []bool{true, false} {
		want, wantFault := wantedDone(c, x, at, skip)
		got, fault, ok := impl.DoIns(c, x, at, skip)
		if !ok || fault != wantFault {
			t.Fatalf("DoIns of %v at %d, %v, with %v tells %v, %v; want %v", x, at, skip, c.R, fault, ok, wantFault)
		}
		if !sameCpus(got, want) {
			t.Fatalf("DoIns of %v at %d, %v, with %v: %v, %v, log %v; want %v, %v, log %v", x, at, skip, c.R, got.R, got.Stop, got.Bus.Log, want.R, want.Stop, want.Bus.Log)
		}
		told = fault
	}
	return told
}

func checkRow(t *testing.T, c impl.Cpu, l []impl.Ins, at int, skip []bool) (impl.Cpu, int, impl.Fault) {
	t.Helper()
	want, wantDone, wantFault := wantedRow(c, l, at, skip)
	got, done, fault, ok := impl.RunRow(c, l, at, skip)
	if !ok || done != wantDone || fault != wantFault || !sameCpus(got, want) {
		t.Fatalf("RunRow of %v at %d, %s, with %v: %v, log %v, %d, %v, %v; want %v, log %v, %d, %v", l, at, deadText(skip), c.R, got.R, got.Bus.Log, done, fault, ok, want.R, want.Bus.Log, wantDone, wantFault)
	}
	return got, done, fault
}

// checkWithout: without the flags that nobody reads all is the same as with them, the flags behind, too.
func checkWithout(t *testing.T, c impl.Cpu, l []impl.Ins, at int) (string, int, impl.Fault) {
	t.Helper()
	dead, ok := impl.DeadFlags(l)
	if !ok {
		t.Fatal("DeadFlags", l)
	}
	want, wantDone, wantFault := checkRow(t, c, l, at, make([]bool, len(l)))
	got, done, fault := checkRow(t, c, l, at, dead)
	if done != wantDone || fault != wantFault || !sameCpus(got, want) {
		t.Fatalf("%v at %d with %v: without %s %v, %d, %v; with all %v, %d, %v", l, at, c.R, deadText(dead), got.R, done, fault, want.R, wantDone, wantFault)
	}
	return deadText(dead), done, fault
}

// checkAsStep: laid at a place, with PC there, the program's step does the same.
func checkAsStep(t *testing.T, c impl.Cpu, x impl.Ins, at int) {
	t.Helper()
	c = cloneCpu(c)
	c.R.PC = at
	layIns(c, at, x)
	want, wantFault, _ := impl.StepCpu(c)
	got, fault, ok := impl.DoIns(c, x, at, false)
	if !ok || fault != wantFault || !sameCpus(got, want) {
		t.Fatalf("DoIns of %v at %d with %v: %v, log %v, %v, %v; StepCpu: %v, log %v, %v", x, at, c.R, got.R, got.Bus.Log, fault, ok, want.R, want.Bus.Log, wantFault)
	}
	skipped, fault, ok := impl.DoIns(c, x, at, true)
	if wantFault.Vector == 0 {
		want.R.Flags = c.R.Flags
	}
	if !ok || fault != wantFault || !sameCpus(skipped, want) {
		t.Fatalf("DoIns of %v at %d with %v, skipped: %v, log %v, %v, %v; want %v, log %v, %v", x, at, c.R, skipped.R, skipped.Bus.Log, fault, ok, want.R, want.Bus.Log, wantFault)
	}
}

// placesOf: where an instruction can be fetched, at the edges of the parts of the memory.
func placesOf(x impl.Ins) []int {
	l := []int{0, 2, 100, 378, 380, 384, 444, 496, 508}
	if len(wantedWords(x)) == 1 {
		l = append(l, 382, 446, 510)
	}
	return l
}

func TestDoInsAsStepCpuOfEveryGoodInstruction(t *testing.T) {
	s := &sundry{seed: 1410}
	for _, x := range goodInstructions() {
		checkAsStep(t, sundryCpu(s), x, s.of(placesOf(x)))
	}
	for _, x := range kinds() {
		for _, at := range placesOf(x) {
			for range 6 {
				checkAsStep(t, sundryCpu(s), x, at)
			}
		}
	}
}

// At places from which nothing could be fetched it is done all the same.
func TestDoInsAtEveryPlace(t *testing.T) {
	s := &sundry{seed: 1411}
	for _, x := range kinds() {
		for at := range 65536 {
			if at%4099 == 0 || slices.Contains(edgeAddresses, at) || at > 65526 {
				checkDo(t, sundryCpu(s), x, at)
			}
		}
	}
}

func TestDoInsOfSundryInstructions(t *testing.T) {
	s := &sundry{seed: 1412}
	seen := map[int]int{}
	for range 10000 {
		x := sundryIns(s)
		if s.below(8) == 0 {
			x = eventfulIns(s)
		}
		fault := checkDo(t, sundryCpu(s), x, s.of([]int{0, 100, 65535, s.below(65536)}))
		seen[fault.Vector]++
	}
	for _, vector := range []int{0, 2, 3, 4, 5, 8, 18, 19, 20, 21} {
		if seen[vector] == 0 {
			t.Error("never seen", vector)
		}
	}
}

// checkDoes: what is told is left, and where it is skipped all of it but the flags.
func checkDoes(t *testing.T, c impl.Cpu, x impl.Ins, at int, tell func(*impl.Cpu)) {
	t.Helper()
	for _, skip := range []bool{false, true} {
		want := cloneCpu(c)
		tell(&want)
		if skip {
			want.R.Flags = c.R.Flags
		}
		got, fault, ok := impl.DoIns(c, x, at, skip)
		if !ok || fault != (impl.Fault{}) || !sameCpus(got, want) {
			t.Errorf("DoIns of %v at %d, %v: %v, %v, log %v, %v, %v; want %v, %v, log %v", x, at, skip, got.R, got.Stop, got.Bus.Log, fault, ok, want.R, want.Stop, want.Bus.Log)
		}
	}
	checkDo(t, c, x, at)
}

// cpuElsewhere: PC is not where what is done lies.
func cpuElsewhere() impl.Cpu {
	c := cpuWith()
	c.R.PC, c.R.Flags = 7, 21
	return c
}

// PC is behind the instruction's own place, whatever it was.
func TestWhereDoInsLeadsTo(t *testing.T) {
	short, long := statusTold(), impl.Ins{Op: impl.OpAddr, Size: 2, Ea: now(9)}
	for _, k := range []struct{ at, shortThen, longThen int }{
		{0, 2, 4}, {1, 3, 5}, {20, 22, 24}, {449, 451, 453}, {512, 514, 516}, {65531, 65533, 65535}, {65532, 65534, 0}, {65533, 65535, 1}, {65534, 0, 2}, {65535, 1, 3},
	} {
		checkDoes(t, cpuElsewhere(), short, k.at, func(w *impl.Cpu) { w.R.D[0], w.R.PC = 21+160+256, k.shortThen })
		checkDoes(t, cpuElsewhere(), long, k.at, func(w *impl.Cpu) { w.R.A[0], w.R.PC = 9, k.longThen })
		checkDoes(t, cpuElsewhere(), impl.Ins{Op: impl.OpJump, Size: 2, Ea: abs(300), Sub: 1}, k.at, func(w *impl.Cpu) {
			w.R.PC, w.R.A[3] = 300, 258
			copy(w.Bus.Bytes[258:], wantedBytes(2, k.longThen))
			w.Bus.Log = []impl.Access{access(2, 2, 258, k.longThen, 0)}
		})
		branch := impl.Ins{Op: impl.OpBranch, Size: 2, Ea: now(50)}
		checkDoes(t, cpuElsewhere(), branch, k.at, func(w *impl.Cpu) { w.R.PC = (k.at + 52) % 65536 })
		branch.Sub = impl.CcFalse
		checkDoes(t, cpuElsewhere(), branch, k.at, func(w *impl.Cpu) { w.R.PC = k.longThen })
	}
}

func TestDoInsNamedEdges(t *testing.T) {
	const c, v, z, n, x = flagC, flagV, flagZ, flagN, flagX
	set := func(reg int, v int, flags int) func(*impl.Cpu) {
		return func(w *impl.Cpu) { w.R.D[reg], w.R.Flags, w.R.PC = v, flags, 22 }
	}
	for _, k := range []struct {
		x    impl.Ins
		tell func(*impl.Cpu)
	}{
		{ofData(impl.OpTo, 0), set(0, 22136, x)}, {ofData(impl.OpAdd, 0), set(0, 26796, 0)}, {ofData(impl.OpSub, 0), set(0, 48060, c+n+x)}, {ofData(impl.OpCmp, 0), set(0, 4660, c+n+x)},
		{ofData(impl.OpAnd, 0), set(0, 0x1230, x)}, {ofData(impl.OpOr, 0), set(0, 0x567c, x)}, {ofData(impl.OpEor, 0), set(0, 0x444c, x)}, {ofData(impl.OpFrom, 0), set(1, 4660, x)},
		{ofData(impl.OpOne, 0), set(1, 0, x+z)}, {ofData(impl.OpOne, 1), set(1, 43400, c+n+x)}, {ofData(impl.OpOne, 2), set(1, 43399, n+x)}, {ofData(impl.OpOne, 3), set(1, 22136, x)},
		{ofData(impl.OpShift, impl.ShAsl), set(0, 0x48d0, 0)}, {ofData(impl.OpShift, impl.ShRor), set(0, 0x048d, x)}, {ofData(impl.OpShift, impl.ShRoxl), set(0, 0x48d2, 0)},
		{ofData(impl.OpMul, 0), set(0, 0x0060, v+x)}, {ofData(impl.OpDiv, 0), set(0, 0, z+x)}, {flowOf(5), set(0, 0x3412, x)}, {flowOf(6), set(0, 0x34, x)},
		{impl.Ins{Op: impl.OpBcd, Size: 1, Ea: by(impl.MdData, 0), Sub: 1}, set(0, 4761, c+x)}, {statusTold(), set(0, 437, 21)},
	} {
		checkDoes(t, cpuElsewhere(), k.x, 20, k.tell)
	}
	// what takes a status takes all of it but the flags, where it is skipped
	for _, x := range []impl.Ins{{Op: impl.OpStatus, Size: 2, Ea: now(512 + 64 + 10)}, {Op: impl.OpFlow, Size: 2, Ea: now(512 + 64 + 10), Sub: 3}} {
		checkDoes(t, cpuElsewhere(), x, 65535, func(w *impl.Cpu) {
			w.R.Flags, w.R.Mask, w.R.Super, w.R.Trace, w.R.PC = 10, 2, false, true, 3
			w.R.A[3], w.R.Other = 300, 260
			w.Stop = x.Op == impl.OpFlow
		})
	}
}

// With a fault, skip or not: Word, the place or the one behind it, all registers as they were (PC, too), memory and log as they came to be.
func TestFaultsOfDoIns(t *testing.T) {
	for _, k := range slices.Concat(readFaultRows(), writeFaultRows(), otherFaultRows()) {
		for _, at := range []int{0, 100, 449, 65534, 65535} {
			for _, logged := range []int{0, 400} {
				c := cpuElsewhere()
				c.Bus.Log = logRow(logged)
				layWord(c, 400, 0x0c22)
				k.ahead(&c)
				want := cloneCpu(c)
				for _, a := range k.log[:min(len(k.log), 400-logged)] {
					// the place behind is put on the stack
					if k.x.Op == impl.OpJump {
						a.Value = (a.Value - 100 + at) % 65536
					}
					want.Bus.Log = append(want.Bus.Log, a)
				}
				fault := k.fault
				fault.Word, fault.PC = wantedWords(k.x)[0], (fault.PC-100+at)%65536
				for _, skip := range []bool{false, true} {
					got, told, ok := impl.DoIns(c, k.x, at, skip)
					if !ok || told != fault || !sameCpus(got, want) {
						t.Errorf("DoIns of %v at %d, %v: %v, log %v, %v, %v; want %v, log %v, %v", k.x, at, skip, got.R, got.Bus.Log, told, ok, want.R, want.Bus.Log, fault)
					}
				}
				checkDo(t, c, k.x, at)
			}
		}
	}
}

func TestDoInsWithoutSuper(t *testing.T) {
	for _, x := range kinds() {
		for _, at := range []int{0, 20, 65535} {
			c := cpuElsewhere()
			c.R.Super = false
			want := impl.Fault{Vector: 8, PC: at, Word: wantedWords(x)[0]}
			if fault := checkDo(t, c, x, at); (fault == want) != wantedPrivileged(x) {
				t.Error(x, at, fault)
			}
			c.R.Super = true
			if fault := checkDo(t, c, x, at); fault.Vector == 8 {
				t.Error(x, at, fault)
			}
		}
	}
}

func TestSkippedOrNotAllElseIsTheSame(t *testing.T) {
	s := &sundry{seed: 1413}
	unlike := 0
	for range 3000 {
		c, x := sundryCpu(s), sundryIns(s)
		plain, fault, _ := impl.DoIns(c, x, 100, false)
		skipped, same, _ := impl.DoIns(c, x, 100, true)
		if fault != same || skipped.R.Flags != c.R.Flags {
			t.Fatal(x, c.R, fault, same, skipped.R)
		}
		if plain.R.Flags != skipped.R.Flags {
			unlike++
		}
		if plain.R.Flags = c.R.Flags; !sameCpus(plain, skipped) {
			t.Fatal(x, c.R, plain.R, skipped.R)
		}
	}
	if unlike < 300 {
		t.Error("hardly ever other flags:", unlike)
	}
}

// bearingRow: nothing of it faults; a division by 0, a hole or digits that are not decimal stands for the fault.
func bearingRow(length int) []impl.Ins {
	l := []impl.Ins{ofData(impl.OpAdd, 0), ofData(impl.OpTo, 0), {Op: impl.OpSub, Size: 1, Reg: 2, Ea: now(77)}, ofData(impl.OpShift, impl.ShRoxr), {Op: impl.OpFrom, Size: 2, Reg: 1, Ea: abs(300)}, ofData(impl.OpCmp, 0)}
	return slices.Repeat(l, 3)[:length]
}

func TestRowsWithoutAFault(t *testing.T) {
	for length := range 17 {
		l := bearingRow(length)
		for _, at := range []int{0, 1, 20, 449, 65470, 65471} {
			c := cpuElsewhere()
			want := 7
			if length > 0 {
				want = at + 2*len(wordsOfRow(l))
			}
			_, done, fault := checkWithout(t, c, l, at)
			after, _, _, _ := impl.RunRow(c, l, at, make([]bool, length))
			if done != length || fault != (impl.Fault{}) || after.R.PC != want {
				t.Error(length, at, done, fault, after.R)
			}
			checkRow(t, c, l, at, slices.Repeat([]bool{true}, length))
		}
	}
}

// No row: nothing changes, PC neither.
func TestARowOfNone(t *testing.T) {
	for _, none := range [][]impl.Ins{nil, {}} {
		for _, skip := range [][]bool{nil, {}} {
			c := cpuElsewhere()
			if after, done, fault, ok := impl.RunRow(c, none, 20, skip); !sameCpus(after, c) || done != 0 || fault != (impl.Fault{}) || !ok {
				t.Error(after.R, done, fault, ok)
			}
		}
	}
}

func TestAFaultAtEveryPlaceOfARow(t *testing.T) {
	for _, k := range []struct {
		x      impl.Ins
		fault  impl.Fault
		behind int
	}{
		{impl.Ins{Op: impl.OpDiv, Size: 2, Reg: 3, Ea: now(0)}, impl.Fault{Vector: 5}, 4},
		{impl.Ins{Op: impl.OpTo, Size: 2, Reg: 3, Ea: abs(450)}, impl.Fault{Vector: 2, Addr: 450}, 0},
		{impl.Ins{Op: impl.OpFrom, Size: 1, Reg: 3, Ea: abs(400)}, impl.Fault{Vector: 2, Addr: 400, Write: true}, 0},
		{impl.Ins{Op: impl.OpOne, Size: 2, Ea: abs(301), Sub: 1}, impl.Fault{Vector: 3, Addr: 301}, 0},
		{impl.Ins{Op: impl.OpOne, Size: 2, Ea: abs(400), Sub: 2}, impl.Fault{Vector: 2, Addr: 400, Write: true}, 0},
		{impl.Ins{Op: impl.OpBcd, Size: 1, Reg: 3, Ea: by(impl.MdData, 3), Sub: 1}, impl.Fault{Vector: 4}, 0},
		{impl.Ins{Op: impl.OpAddr, Size: 2, Reg: 3, Ea: abs(512)}, impl.Fault{Vector: 2, Addr: 512}, 0},
		{impl.Ins{Op: impl.OpMul, Size: 2, Reg: 3, Ea: abs(65535)}, impl.Fault{Vector: 3, Addr: 65535}, 0},
	} {
		for _, length := range []int{1, 2, 3, 5, 16} {
			for place := range length {
				for _, at := range []int{0, 20, 65471} {
					l := bearingRow(length)
					l[place] = k.x
					c := cpuElsewhere()
					c.R.D[3] = 0x12fa
					want := k.fault
					want.Word, want.PC = wantedWords(k.x)[0], at+2*len(wordsOfRow(l[:place]))+k.behind
					_, done, fault := checkWithout(t, c, l, at)
					if done != place || fault != want {
						t.Error(l, at, done, fault, want)
					}
					// what was done ahead stands
					after, _, _, _ := impl.RunRow(c, l, at, make([]bool, length))
					ahead, _, _ := wantedRow(c, l[:place], at, make([]bool, place))
					if !sameRegs(after.R, ahead.R) || !slices.Equal(after.Bus.Bytes, ahead.Bus.Bytes) {
						t.Error(l, at, after.R, ahead.R)
					}
				}
			}
		}
	}
}

// At a fault all flags are seen, though they are set anew behind it.
func TestFlagsAheadOfAFaultAreNotDead(t *testing.T) {
	add, to := impl.Ins{Op: impl.OpAdd, Size: 1, Ea: now(200)}, ofData(impl.OpTo, 0)
	div := impl.Ins{Op: impl.OpDiv, Size: 2, Ea: now(0)}
	c := cpuElsewhere()
	c.R.D[0], c.R.Flags = 100, 14
	l := []impl.Ins{to, add, div, add}
	c.R.D[1] = 0x3064
	after, done, fault := checkRow(t, c, l, 20, []bool{true, false, true, false})
	if text, _, _ := checkWithout(t, c, l, 20); text != "x.x." || done != 2 || fault != (impl.Fault{Vector: 5, PC: 30, Word: wantedWords(div)[0]}) || after.R.Flags != flagC+flagX || after.R.D[0] != 0x302c || after.R.PC != 26 {
		t.Error(text, done, fault, after.R)
	}
}

func TestRowsOfTwoAndThreeOfAllKinds(t *testing.T) {
	s := &sundry{seed: 1414}
	l := straightKinds()
	for _, first := range l {
		for _, second := range l {
			checkWithout(t, sundryCpu(s), []impl.Ins{first, second}, s.below(65472))
			checkWithout(t, sundryCpu(s), []impl.Ins{first, second, l[s.below(len(l))]}, s.below(65472))
		}
	}
}

func TestSundryRowsWithoutDeadFlags(t *testing.T) {
	s := &sundry{seed: 1415}
	skipped, ended, faulted := 0, 0, map[int]int{}
	for range 3000 {
		l := sundryRow(s, s.below(17))
		c := sundryCpu(s)
		c.Bus.Log = logRow(s.of([]int{0, 0, 1, 398, 400}))
		text, done, fault := checkWithout(t, c, l, s.of([]int{0, 20, 65471, s.below(65472)}))
		faulted[fault.Vector]++
		if skips := strings.Count(text[:done], "x"); skips > 0 {
			skipped += skips
			ended += min(fault.Vector, 1)
		}
	}
	if skipped < 1000 || ended < 100 || faulted[0] < 300 || faulted[2] < 30 || faulted[3] < 30 || faulted[4] < 30 || faulted[5] < 5 {
		t.Error(skipped, ended, faulted)
	}
}

// With any skips a row is each instruction with its own, one behind the other.
func TestSundryRowsWithSundrySkips(t *testing.T) {
	s := &sundry{seed: 1416}
	for range 1500 {
		l := sundryRow(s, s.below(17))
		skip := make([]bool, len(l))
		for i := range skip {
			skip[i] = s.below(2) == 0
		}
		c, at := sundryCpu(s), s.below(65472)
		want, wantDone, wantFault := checkRow(t, c, l, at, skip)
		one, done, fault := c, 0, impl.Fault{}
		for done < len(l) && fault.Vector == 0 {
			one, fault, _ = impl.DoIns(one, l[done], at, skip[done])
			at += 2 * len(wantedWords(l[done]))
			if fault.Vector == 0 {
				done++
			}
		}
		if !sameCpus(one, want) || done != wantDone || fault != wantFault {
			t.Fatal(l, skip, one.R, done, fault, want.R, wantDone, wantFault)
		}
	}
}

// Laid at its place a row without skips, and with those that are dead, does what so many steps do, as long as it writes into none of its words.
func TestRowsDoWhatStepsDo(t *testing.T) {
	s := &sundry{seed: 1417}
	held := 0
	for range 2000 {
		l := sundryRow(s, s.below(17))
		c := sundryCpu(s)
		c.R.PC = 2 * s.below(160)
		layIns(c, c.R.PC, l...)
		want, wantDone, wantFault, _ := impl.StepsCpu(c, len(l))
		words := c.Bus.Bytes[c.R.PC : c.R.PC+2*len(wordsOfRow(l))]
		if !slices.Equal(words, want.Bus.Bytes[c.R.PC:c.R.PC+len(words)]) {
			continue
		}
		held++
		dead, _ := impl.DeadFlags(l)
		for _, skip := range [][]bool{make([]bool, len(l)), dead} {
			got, done, fault, ok := impl.RunRow(c, l, c.R.PC, skip)
			if !ok || done != wantDone || fault != wantFault || !sameCpus(got, want) {
				t.Fatal(l, c.R, got.R, done, fault, ok, want.R, wantDone, wantFault)
			}
		}
	}
	if held < 1000 {
		t.Error("hardly any were held against steps:", held)
	}
}

// A row is done as it was handed in, though it writes where it would lie.
func TestARowDoesNotReadItsWords(t *testing.T) {
	l := []impl.Ins{{Op: impl.OpFrom, Size: 2, Reg: 1, Ea: abs(104)}, {Op: impl.OpOne, Size: 2, Ea: by(impl.MdData, 2), Sub: 2}}
	after, done, fault := checkRow(t, cpuElsewhere(), l, 100, []bool{false, false})
	if done != 2 || fault != (impl.Fault{}) || after.R.D[2] != 65535-39612 || after.R.PC != 106 {
		t.Error(after.R, done, fault)
	}
}

func refusesDo(t *testing.T, c impl.Cpu, x impl.Ins, at int) {
	t.Helper()
	for _, skip := range []bool{false, true} {
		if after, fault, ok := impl.DoIns(c, x, at, skip); !isNoCpu(after) || fault != (impl.Fault{}) || ok {
			t.Fatal("DoIns", c, x, at, skip, after, fault, ok)
		}
	}
}

func refusesRow(t *testing.T, c impl.Cpu, l []impl.Ins, at int, skip []bool) {
	t.Helper()
	if after, done, fault, ok := impl.RunRow(c, l, at, skip); !isNoCpu(after) || done != 0 || fault != (impl.Fault{}) || ok {
		t.Fatal("RunRow", c, l, at, skip, after, done, fault, ok)
	}
}

func TestWrongProcessorsDoNothing(t *testing.T) {
	var l []impl.Cpu
	for _, r := range wrongRegs() {
		l = append(l, impl.Cpu{R: r, Bus: fullBus(1)})
	}
	for _, b := range wrongBuses() {
		l = append(l, impl.Cpu{R: cpuWith().R, Bus: b})
	}
	for _, c := range []impl.Cpu{{}, {Stop: true}, {Halt: true}, {Stop: true, Halt: true}} {
		l = append(l, c)
		if c.Stop || c.Halt {
			c.R, c.Bus = cpuWith().R, fullBus(2)
			l = append(l, c)
		}
	}
	for i, c := range l {
		refusesDo(t, c, ofData(impl.OpAdd, 0), 20)
		refusesDo(t, c, flowOf(i%3), 65535)
		refusesRow(t, c, nil, 20, nil)
		refusesRow(t, c, bearingRow(i%17), 20, make([]bool, i%17))
	}
}

func TestWrongInstructionsAreNotDone(t *testing.T) {
	c := cpuWith()
	for _, x := range wrongInstructions() {
		refusesDo(t, c, x, 20)
		refusesRow(t, c, []impl.Ins{x}, 20, []bool{false})
	}
	for _, x := range slices.Concat(wrongInstructions()[:60], notStraight()) {
		for _, length := range []int{1, 2, 5, 16} {
			for place := range length {
				l := bearingRow(length)
				l[place] = x
				refusesRow(t, c, l, 20, make([]bool, length))
			}
		}
	}
	// a fault ahead of it does not hide it
	refusesRow(t, c, []impl.Ins{{Op: impl.OpDiv, Size: 2, Ea: now(0)}, flowOf(4)}, 20, make([]bool, 2))
	refusesRow(t, c, []impl.Ins{{Op: impl.OpDiv, Size: 2, Ea: now(0)}, {}}, 20, make([]bool, 2))
}

func TestMoreThanARowMayHaveIsNotDone(t *testing.T) {
	c := cpuWith()
	for _, length := range []int{17, 18, 32, 1000} {
		refusesRow(t, c, slices.Repeat([]impl.Ins{flowOf(2)}, length), 20, make([]bool, length))
		refusesRow(t, c, slices.Repeat([]impl.Ins{flowOf(2)}, length), 20, make([]bool, 16))
		refusesRow(t, c, slices.Repeat([]impl.Ins{flowOf(2)}, 16), 20, make([]bool, length))
	}
}

func TestSkipsThatAreNotAsMany(t *testing.T) {
	for length := range 17 {
		for skips := range 40 {
			if skips != length {
				refusesRow(t, cpuWith(), bearingRow(length), 20, make([]bool, skips))
			}
		}
		if length > 0 {
			refusesRow(t, cpuWith(), bearingRow(length), 20, nil)
		}
	}
}

func TestPlacesThatAreNone(t *testing.T) {
	for _, at := range append([]int{-1, -2, -64, -65536, 65536, 65537, 131072, 1 << 32, math.MaxInt, math.MaxInt - 63, math.MinInt}, wrongWords...) {
		refusesDo(t, cpuWith(), flowOf(2), at)
		refusesDo(t, cpuWith(), longIns(), at)
		for _, length := range []int{0, 1, 16} {
			refusesRow(t, cpuWith(), bearingRow(length), at, make([]bool, length))
		}
	}
	for length := range 17 {
		for at := 65472; at < 65536; at++ {
			refusesRow(t, cpuWith(), bearingRow(length), at, make([]bool, length))
		}
		checkRow(t, cpuWith(), slices.Repeat([]impl.Ins{longIns()}, length), 65471, make([]bool, length))
	}
	if after, done, _, ok := impl.RunRow(cpuWith(), slices.Repeat([]impl.Ins{longIns()}, 16), 65471, make([]bool, 16)); after.R.PC != 65535 || done != 16 || !ok {
		t.Error(after.R, done, ok)
	}
}

func roomySkips(length int) []bool { return slices.Repeat([]bool{true, false}, 20)[:length] }

// answersOfRows: what each function that answers a processor answers of this one.
func answersOfRows(c impl.Cpu, l []impl.Ins, skip []bool) []impl.Cpu {
	var all []impl.Cpu
	for _, x := range l {
		for _, skipped := range []bool{false, true} {
			after, _, _ := impl.DoIns(c, x, 200, skipped)
			all = append(all, after)
		}
	}
	none, _, _, _ := impl.RunRow(c, nil, 200, nil)
	many, _, _, _ := impl.RunRow(c, l, 200, skip)
	return append(all, none, many)
}

// rowsOfMemory: such as read and write, such as fault with a log, and such as only move registers.
func rowsOfMemory() [][]impl.Ins {
	return [][]impl.Ins{
		roomyRow(16), roomyRow(1), roomyRow(0),
		{{Op: impl.OpTo, Size: 2, Ea: abs(200)}, {Op: impl.OpFrom, Size: 1, Ea: by(impl.MdBefore, 3)}, {Op: impl.OpOne, Size: 2, Ea: abs(450), Sub: 1}},
		{ofData(impl.OpAdd, 0), {Op: impl.OpDiv, Size: 2, Reg: 1, Ea: now(0)}},
	}
}

func TestRowsWriteIntoNone(t *testing.T) {
	for _, logged := range []int{0, 1, 399, 400} {
		for _, l := range rowsOfMemory() {
			c, m := roomyCpu(logged)
			skip := roomySkips(len(l))
			want, wantRow, wantSkip := m.clone(), slices.Clone(l[:cap(l)]), slices.Clone(skip[:cap(skip)])
			answersOfRows(c, l, skip)
			if !m.same(want) || !slices.Equal(l[:cap(l)], wantRow) || !slices.Equal(skip[:cap(skip)], wantSkip) {
				t.Fatal("an argument's memory was changed", logged, l)
			}
		}
	}
}

func TestRowsAnswerNewMemory(t *testing.T) {
	for _, logged := range []int{0, 1, 399, 400} {
		for _, l := range rowsOfMemory() {
			c, m := roomyCpu(logged)
			skip := roomySkips(len(l))
			plain := answersOfRows(cloneCpu(c), l, skip)
			first, second := answersOfRows(c, l, skip), answersOfRows(c, l, skip)
			m.spoil()
			for _, d := range second {
				memoryOfCpu(d).spoil()
			}
			for i, want := range plain {
				if !sameCpus(first[i], want) {
					t.Fatal("an answer shares memory", logged, l, i)
				}
				memoryOfCpu(first[i]).spoil()
			}
		}
	}
}

func TestNoTwoListsOfARowsProcessorShareMemory(t *testing.T) {
	c, _ := roomyCpu(2)
	c.R.D = c.R.A
	for i, d := range answersOfRows(c, roomyRow(16), roomySkips(16)) {
		want := cloneCpu(d)
		spoil(d.R.D)
		if !slices.Equal(d.R.A, want.R.A) || !slices.Equal(d.Bus.Bytes, want.Bus.Bytes) {
			t.Fatal("D is shared", i)
		}
		spoil(d.R.A)
		if !slices.Equal(d.Bus.Bytes, want.Bus.Bytes) {
			t.Fatal("A is shared", i)
		}
	}
}
