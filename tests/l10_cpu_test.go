package tests

import (
	"math"
	"slices"
	"testing"

	"loop.example/g00389/impl"
)

// Tables tell here in numbers what each operation and each fault of chapter 10 leaves; all instructions together are held against the bench.

func now(ext int) impl.Operand { return impl.Operand{Mode: impl.MdNow, Ext: ext} }

func abs(ext int) impl.Operand { return impl.Operand{Mode: impl.MdAbs, Ext: ext} }

func by(mode int, reg int) impl.Operand { return impl.Operand{Mode: mode, Reg: reg} }

func plus(reg int, ext int) impl.Operand {
	return impl.Operand{Mode: impl.MdPlus, Reg: reg, Ext: ext}
}

func access(kind int, size int, addr int, value int, code int) impl.Access {
	return impl.Access{Kind: kind, Size: size, Addr: addr, Value: value, Code: code}
}

// checkLeaves: a step without a fault leaves just what is told, and PC behind the instruction, if nothing else is told.
func checkLeaves(t *testing.T, c impl.Cpu, tell func(*impl.Cpu)) {
	t.Helper()
	want := cloneCpu(c)
	_, length, _ := wantedFetch(c)
	want.R.PC = c.R.PC + 2*length
	tell(&want)
	got, fault, ok := impl.StepCpu(c)
	if !ok || fault != (impl.Fault{}) || !sameCpus(got, want) {
		x, _, _ := wantedFetch(c)
		t.Errorf("StepCpu of %v with %v: %v, %v, log %v, %v, %v; want %v, %v, log %v", x, c.R, got.R, got.Stop, got.Bus.Log, fault, ok, want.R, want.Stop, want.Bus.Log)
	}
	checkCpuStep(t, c)
}

// checkFaults: a step with a fault leaves all registers, and the memory, and puts what was asked for behind the log.
func checkFaults(t *testing.T, c impl.Cpu, wantFault impl.Fault, log ...impl.Access) {
	t.Helper()
	want := cloneCpu(c)
	want.Bus.Log = append(want.Bus.Log, log...)
	got, fault, ok := impl.StepCpu(c)
	if !ok || fault != wantFault {
		x, _, _ := wantedFetch(c)
		t.Errorf("StepCpu of %v with %v tells %v, %v; want %v", x, c.R, fault, ok, wantFault)
	}
	if !sameCpus(got, want) {
		x, _, _ := wantedFetch(c)
		t.Errorf("StepCpu of %v with %v and a fault: %v, log %v; want log %v", x, c.R, got.R, got.Bus.Log, want.Bus.Log)
	}
	checkCpuStep(t, c)
}

func TestConstantsOfTheProcessor(t *testing.T) {
	got := []int{impl.MaxSteps, impl.VecBus, impl.VecOdd, impl.VecBad, impl.VecZero, impl.VecRight, impl.VecTrace, impl.VecTrap}
	if !slices.Equal(got, []int{60, 2, 3, 4, 5, 8, 9, 18}) {
		t.Error(got)
	}
}

func TestNewCpu(t *testing.T) {
	for _, length := range []int{0, 1, 2, 100, 383, 384} {
		for _, pc := range edgeWords {
			ram := fullBytes(length)[:length]
			want := impl.Cpu{R: impl.Regs{D: []int{0, 0, 0, 0}, A: []int{0, 0, 0, 384}, PC: pc, Mask: 7, Super: true}}
			want.Bus.Bytes = append(slices.Clone(ram), make([]int, 512-length)...)
			if c, ok := impl.NewCpu(ram, pc); !sameCpus(c, want) || !impl.GoodCpu(c) || !ok {
				t.Fatal(length, pc, c, ok)
			}
		}
	}
}

func TestGoodCpus(t *testing.T) {
	for _, r := range edgeRegs() {
		if !impl.GoodCpu(impl.Cpu{R: r, Bus: fullBus(1)}) {
			t.Fatal(r)
		}
	}
	for _, logged := range []int{0, 1, 399, 400} {
		for _, c := range []impl.Cpu{{}, {Stop: true}, {Halt: true}} {
			c.R, c.Bus = unlikeRegs(), fullBus(logged)
			if !impl.GoodCpu(c) {
				t.Fatal(logged, c.Stop, c.Halt)
			}
		}
	}
}

func TestFetchInsNamedEdges(t *testing.T) {
	short, long := shortIns(), longIns()
	shortWord, longWord := wantedWords(short)[0], wantedWords(long)[0]
	none, bad := impl.Ins{}, impl.Fault{}
	for _, k := range []struct {
		pc, word, next int
		x              impl.Ins
		length         int
		fault          impl.Fault
	}{
		{0, shortWord, 5, short, 1, bad}, {0, longWord, 5, long, 2, bad},
		// the last words of each part of the memory: where no second word is asked for there may be none
		{382, shortWord, 5, short, 1, bad}, {382, longWord, 5, long, 2, bad}, {384, longWord, 5, long, 2, bad}, {444, longWord, 5, long, 2, bad},
		{446, shortWord, 0, short, 1, bad}, {446, longWord, 0, none, 0, impl.Fault{Vector: 2, PC: 446, Addr: 448, Word: longWord}},
		{496, shortWord, 5, short, 1, bad}, {496, longWord, 5, long, 2, bad}, {508, longWord, 5, long, 2, bad},
		{510, shortWord, 0, short, 1, bad}, {510, longWord, 0, none, 0, impl.Fault{Vector: 2, PC: 510, Addr: 512, Word: longWord}},
		// a first word that is none is not known: Word is 0
		{448, longWord, 5, none, 0, impl.Fault{Vector: 2, PC: 448, Addr: 448}}, {494, longWord, 5, none, 0, impl.Fault{Vector: 2, PC: 494, Addr: 494}},
		{512, 0, 0, none, 0, impl.Fault{Vector: 2, PC: 512, Addr: 512}}, {65534, 0, 0, none, 0, impl.Fault{Vector: 2, PC: 65534, Addr: 65534}},
		{1, 0, 0, none, 0, impl.Fault{Vector: 3, PC: 1, Addr: 1}}, {383, 0, 0, none, 0, impl.Fault{Vector: 3, PC: 383, Addr: 383}},
		{449, 0, 0, none, 0, impl.Fault{Vector: 3, PC: 449, Addr: 449}}, {511, 0, 0, none, 0, impl.Fault{Vector: 3, PC: 511, Addr: 511}},
		{513, 0, 0, none, 0, impl.Fault{Vector: 3, PC: 513, Addr: 513}}, {65535, 0, 0, none, 0, impl.Fault{Vector: 3, PC: 65535, Addr: 65535}},
		// words that are no good instruction: an Op that is none, a Sub too great, a number that is no byte, a status that is none
		{20, 0, 5, none, 0, impl.Fault{Vector: 4, PC: 20}}, {20, 65535, 5, none, 0, impl.Fault{Vector: 4, PC: 20, Word: 65535}},
		{20, 40960, 5, none, 0, impl.Fault{Vector: 4, PC: 20, Word: 40960}}, {20, shortWord + 1, 5, none, 0, impl.Fault{Vector: 4, PC: 20, Word: shortWord + 1}},
		{20, longWord - 1024, 256, none, 0, impl.Fault{Vector: 4, PC: 20, Word: longWord - 1024}}, {20, 31971, 1024, none, 0, impl.Fault{Vector: 4, PC: 20, Word: 31971}},
		{446, 0, 0, none, 0, impl.Fault{Vector: 4, PC: 446}},
		// the second word is fetched by the Mode alone, whatever the Op is
		{446, 224, 0, none, 0, impl.Fault{Vector: 2, PC: 446, Addr: 448, Word: 224}}, {444, 224, 0, none, 0, impl.Fault{Vector: 4, PC: 444, Word: 224}},
	} {
		for _, c := range []impl.Cpu{{}, {Stop: true}, {Halt: true}} {
			c.R, c.Bus = unlikeRegs(), fullBus(2)
			c.R.PC = k.pc
			if k.pc%2 == 0 && k.pc < 512 {
				layWord(c, k.pc, k.word)
			}
			if k.pc%2 == 0 && k.pc < 510 {
				layWord(c, k.pc+2, k.next)
			}
			if x, length, fault, ok := impl.FetchIns(c); x != k.x || length != k.length || fault != k.fault || !ok {
				t.Error(k, x, length, fault, ok)
			}
			checkFetch(t, c)
		}
	}
}

func TestFetchInsOfEveryWord(t *testing.T) {
	c := cpuWith()
	for word := range 65536 {
		layWord(c, 100, word)
		for _, next := range []int{0, 255, 65535}[:1+word/128%2+word/64%2] {
			layWord(c, 102, next)
			checkFetch(t, c)
		}
	}
}

func TestFetchInsAtEveryPlace(t *testing.T) {
	for _, x := range []impl.Ins{shortIns(), longIns()} {
		c := cpuWith()
		for addr := 0; addr < 508; addr += 4 {
			layIns(c, addr, x)
		}
		for pc := range 65536 {
			if pc < 1100 || pc%997 == 0 || pc > 65500 {
				c.R.PC = pc
				checkFetch(t, c)
				checkCpuStep(t, c)
			}
		}
	}
}

// A fetch that fails is put behind the log, though the instruction is not known.
func TestStepsThatCanNotBeFetched(t *testing.T) {
	for _, k := range []struct {
		pc, word int
		fault    impl.Fault
		log      []impl.Access
	}{
		{101, 0, impl.Fault{Vector: 3, PC: 101, Addr: 101}, []impl.Access{access(3, 2, 101, 0, impl.BusOdd)}},
		{449, 0, impl.Fault{Vector: 3, PC: 449, Addr: 449}, []impl.Access{access(3, 2, 449, 0, impl.BusOdd)}},
		{65535, 0, impl.Fault{Vector: 3, PC: 65535, Addr: 65535}, []impl.Access{access(3, 2, 65535, 0, impl.BusOdd)}},
		{450, 0, impl.Fault{Vector: 2, PC: 450, Addr: 450}, []impl.Access{access(3, 2, 450, 0, impl.BusHole)}},
		{65534, 0, impl.Fault{Vector: 2, PC: 65534, Addr: 65534}, []impl.Access{access(3, 2, 65534, 0, impl.BusHole)}},
		{446, 7648, impl.Fault{Vector: 2, PC: 446, Addr: 448, Word: 7648}, []impl.Access{access(3, 2, 448, 0, impl.BusHole)}},
		{510, 7648, impl.Fault{Vector: 2, PC: 510, Addr: 512, Word: 7648}, []impl.Access{access(3, 2, 512, 0, impl.BusHole)}},
		{100, 0, impl.Fault{Vector: 4, PC: 100}, nil},
		{100, 65535, impl.Fault{Vector: 4, PC: 100, Word: 65535}, nil},
	} {
		for _, logged := range []int{0, 3, 399, 400} {
			c := cpuWith()
			c.R.PC, c.Bus.Log = k.pc, logRow(logged)
			if k.pc < 512 {
				layWord(c, k.pc&^1, k.word)
			}
			checkFaults(t, c, k.fault, k.log[:min(len(k.log), 400-logged)]...)
		}
	}
}

func TestOperationsOnData(t *testing.T) {
	const c, v, z, n, x = flagC, flagV, flagZ, flagN, flagX
	for _, k := range []struct{ op, size, flags, d, by, then, told int }{
		{impl.OpTo, 1, 31, 0x1234, 0x00, 0x1200, x + z}, {impl.OpTo, 1, 15, 0x1234, 0x80, 0x1280, n}, {impl.OpTo, 1, 16, 0x1234, 0x7f, 0x127f, x},
		{impl.OpTo, 2, 31, 0x1234, 0, 0, x + z}, {impl.OpTo, 2, 15, 0x1234, 0x8000, 0x8000, n}, {impl.OpTo, 2, 0, 0x1234, 0x00ff, 0x00ff, 0},
		// what FlagX was is not added
		{impl.OpAdd, 1, 31, 0x1201, 0x01, 0x1202, 0}, {impl.OpAdd, 1, 0, 0x12ff, 0x01, 0x1200, c + z + x}, {impl.OpAdd, 1, 16, 0x127f, 0x01, 0x1280, v + n}, {impl.OpAdd, 1, 0, 0x1280, 0x80, 0x1200, c + v + z + x},
		{impl.OpAdd, 2, 31, 0xffff, 1, 0, c + z + x}, {impl.OpAdd, 2, 16, 0x7fff, 1, 0x8000, v + n}, {impl.OpAdd, 2, 0, 0x00ff, 1, 0x0100, 0}, {impl.OpAdd, 2, 31, 1, 2, 3, 0},
		{impl.OpSub, 1, 16, 0x1200, 0x01, 0x12ff, c + n + x}, {impl.OpSub, 1, 0, 0x1280, 0x01, 0x127f, v}, {impl.OpSub, 1, 31, 0x1205, 0x05, 0x1200, z}, {impl.OpSub, 1, 31, 0x1205, 0x04, 0x1201, 0},
		{impl.OpSub, 2, 0, 0, 1, 0xffff, c + n + x}, {impl.OpSub, 2, 31, 0x8000, 1, 0x7fff, v}, {impl.OpSub, 2, 16, 0x0100, 1, 0x00ff, 0},
		{impl.OpAnd, 1, 31, 0x12f0, 0x0f, 0x1200, x + z}, {impl.OpAnd, 1, 0, 0xfff0, 0x90, 0xff90, n}, {impl.OpAnd, 2, 15, 0xf0f0, 0x8fff, 0x80f0, n}, {impl.OpAnd, 2, 16, 0xff00, 0x00ff, 0, x + z}, {impl.OpAnd, 2, 0, 0x1234, 0x0f0f, 0x0204, 0},
		{impl.OpOr, 1, 15, 0x1200, 0x00, 0x1200, z}, {impl.OpOr, 1, 16, 0x120f, 0x80, 0x128f, x + n}, {impl.OpOr, 2, 31, 0x0f0f, 0x00f0, 0x0fff, x}, {impl.OpOr, 2, 0, 0x8000, 1, 0x8001, n},
		{impl.OpEor, 1, 31, 0x1255, 0x55, 0x1200, x + z}, {impl.OpEor, 1, 0, 0x1255, 0xaa, 0x12ff, n}, {impl.OpEor, 2, 15, 0x1234, 0x1234, 0, z}, {impl.OpEor, 2, 16, 0x0ff0, 0xffff, 0xf00f, x + n},
		{impl.OpCmp, 1, 0, 0x1200, 0x01, 0x1200, c + n}, {impl.OpCmp, 1, 31, 0x1201, 0x01, 0x1201, x + z}, {impl.OpCmp, 1, 16, 0x1280, 0x01, 0x1280, x + v},
		{impl.OpCmp, 2, 15, 0, 1, 0, c + n}, {impl.OpCmp, 2, 16, 0x8000, 1, 0x8000, x + v}, {impl.OpCmp, 2, 0, 5, 5, 5, z}, {impl.OpCmp, 2, 31, 7, 5, 7, x},
		{impl.OpMul, 2, 31, 0x0100, 0x0100, 0, x + z + v}, {impl.OpMul, 2, 15, 3, 5, 15, 0}, {impl.OpMul, 2, 16, 0xffff, 0xffff, 1, x + v}, {impl.OpMul, 2, 0, 0x4000, 2, 0x8000, n},
		{impl.OpMul, 2, 0, 0xffff, 2, 0xfffe, n + v}, {impl.OpMul, 2, 1, 7, 0, 0, z}, {impl.OpMul, 2, 0, 0xffff, 1, 0xffff, n},
		{impl.OpDiv, 2, 31, 7, 2, 3, x}, {impl.OpDiv, 2, 15, 1, 2, 0, z}, {impl.OpDiv, 2, 16, 0xffff, 1, 0xffff, x + n}, {impl.OpDiv, 2, 0, 0xffff, 0xffff, 1, 0}, {impl.OpDiv, 2, 2, 0xffff, 2, 0x7fff, 0}, {impl.OpDiv, 2, 0, 0, 5, 0, z},
	} {
		for _, reg := range regNumbers {
			cpu := cpuWith(impl.Ins{Op: k.op, Size: k.size, Reg: reg, Ea: now(k.by)})
			cpu.R.D[reg], cpu.R.Flags = k.d, k.flags
			checkLeaves(t, cpu, func(w *impl.Cpu) { w.R.D[reg], w.R.Flags = k.then, k.told })
		}
	}
}

// readRow: an operand that is read, with the register that leads to it, where it is read and the register then.
type readRow struct {
	size, mode, reg, ext int
	a, addr, then        int
}

func readRows() []readRow {
	return []readRow{
		{1, impl.MdAt, 0, 0, 207, 207, 207}, {2, impl.MdAt, 1, 0, 382, 382, 382}, {1, impl.MdAt, 3, 0, 511, 511, 511}, {2, impl.MdAt, 2, 0, 384, 384, 384},
		{1, impl.MdAfter, 0, 0, 207, 207, 208}, {2, impl.MdAfter, 0, 0, 208, 208, 210}, {1, impl.MdAfter, 3, 0, 208, 208, 210}, {2, impl.MdAfter, 3, 0, 208, 208, 210}, {2, impl.MdAfter, 2, 0, 510, 510, 512},
		{1, impl.MdBefore, 1, 0, 207, 206, 206}, {2, impl.MdBefore, 1, 0, 208, 206, 206}, {1, impl.MdBefore, 3, 0, 208, 206, 206}, {2, impl.MdBefore, 3, 0, 2, 0, 0}, {1, impl.MdBefore, 2, 0, 512, 511, 511},
		{1, impl.MdPlus, 2, 9, 207, 216, 207}, {2, impl.MdPlus, 2, 65534, 208, 206, 208}, {2, impl.MdPlus, 3, 2, 65534, 0, 65534}, {1, impl.MdPlus, 0, 65535, 65535, 65534, 65535},
		{1, impl.MdAbs, 0, 447, 207, 447, 207}, {2, impl.MdAbs, 0, 446, 207, 446, 207}, {2, impl.MdAbs, 0, 496, 207, 496, 207},
	}
}

func TestOperandsThatAreRead(t *testing.T) {
	for _, k := range readRows() {
		if k.addr >= 512 {
			continue
		}
		for _, op := range []int{impl.OpTo, impl.OpAdd, impl.OpSub, impl.OpAnd, impl.OpOr, impl.OpEor, impl.OpCmp} {
			c := cpuWith(impl.Ins{Op: op, Size: k.size, Reg: 1, Ea: impl.Operand{Mode: k.mode, Reg: k.reg, Ext: k.ext}})
			c.R.A[k.reg], c.R.Flags = k.a, 31
			v := 0x35
			if k.size == 2 {
				v = 0x8135
			}
			copy(c.Bus.Bytes[k.addr:], wantedBytes(k.size, v))
			want := checkCpuStep(t, c)
			if !slices.Equal(want.Bus.Log, []impl.Access{access(1, k.size, k.addr, v, 0)}) || want.R.A[k.reg] != k.then {
				t.Error(k, op, want.Bus.Log, want.R)
			}
			if op == impl.OpTo {
				checkLeaves(t, c, func(w *impl.Cpu) {
					w.R.D[1] = map[int]int{1: 0x5635, 2: 0x8135}[k.size]
					w.R.Flags = map[int]int{1: flagX, 2: flagX + flagN}[k.size]
					w.R.A[k.reg] = k.then
					w.Bus.Log = []impl.Access{access(1, k.size, k.addr, v, 0)}
				})
			}
		}
	}
}

func TestOperandsOfRegisters(t *testing.T) {
	for _, from := range regNumbers {
		for _, to := range regNumbers {
			c := cpuWith(impl.Ins{Op: impl.OpTo, Size: 2, Reg: to, Ea: by(impl.MdData, from)})
			checkLeaves(t, c, func(w *impl.Cpu) { w.R.D[to] = c.R.D[from]; w.R.Flags = marksOf(2, c.R.D[from]) })
			c = cpuWith(impl.Ins{Op: impl.OpTo, Size: 1, Reg: to, Ea: by(impl.MdData, from)})
			checkLeaves(t, c, func(w *impl.Cpu) {
				w.R.D[to] = c.R.D[to]/256*256 + c.R.D[from]%256
				w.R.Flags = marksOf(1, c.R.D[from]%256)
			})
			c = cpuWith(impl.Ins{Op: impl.OpTo, Size: 2, Reg: to, Ea: by(impl.MdAddr, from)})
			checkLeaves(t, c, func(w *impl.Cpu) { w.R.D[to] = c.R.A[from] })
		}
	}
}

// OpAddr and OpLea: no flag changes; what is taken stands, though the way moved the same register.
func TestAddressesAreTaken(t *testing.T) {
	for flags := range 32 {
		for _, reg := range regNumbers {
			for _, k := range []struct {
				op   int
				ea   impl.Operand
				want int
				log  []impl.Access
			}{
				{impl.OpAddr, now(0), 0, nil}, {impl.OpAddr, now(65535), 65535, nil},
				{impl.OpAddr, by(impl.MdData, 3), 57072, nil}, {impl.OpAddr, by(impl.MdAddr, 3), 260, nil},
				{impl.OpAddr, abs(384), 0x9876, []impl.Access{access(1, 2, 384, 0x9876, 0)}},
				{impl.OpAddr, by(impl.MdAfter, reg), 0x1357, []impl.Access{access(1, 2, 200+20*reg, 0x1357, 0)}},
				{impl.OpAddr, by(impl.MdBefore, reg), 0x2468, []impl.Access{access(1, 2, 198+20*reg, 0x2468, 0)}},
				{impl.OpLea, by(impl.MdAt, 2), 240, nil}, {impl.OpLea, abs(449), 449, nil}, {impl.OpLea, abs(65535), 65535, nil},
				{impl.OpLea, plus(3, 0), 260, nil}, {impl.OpLea, plus(3, 65535), 259, nil}, {impl.OpLea, plus(0, 65336), 0, nil}, {impl.OpLea, plus(1, 300), 520, nil},
			} {
				c := cpuWith(impl.Ins{Op: k.op, Size: 2, Reg: reg, Ea: k.ea})
				c.R.Flags = flags
				layWord(c, 384, 0x9876)
				layWord(c, 200+20*reg, 0x1357)
				layWord(c, 198+20*reg, 0x2468)
				checkLeaves(t, c, func(w *impl.Cpu) { w.R.A[reg], w.Bus.Log = k.want, k.log })
			}
		}
	}
}

func TestOpFromWrites(t *testing.T) {
	for _, k := range readRows() {
		if k.addr >= 384 && k.addr < 496 || k.addr >= 512 {
			continue
		}
		for _, v := range []struct{ d, told1, told2 int }{{0x1200, flagX + flagZ, flagX}, {0, flagX + flagZ, flagX + flagZ}, {0x8034, flagX, flagX + flagN}, {0x00ff, flagX + flagN, flagX}} {
			c := cpuWith(impl.Ins{Op: impl.OpFrom, Size: k.size, Reg: 1, Ea: impl.Operand{Mode: k.mode, Reg: k.reg, Ext: k.ext}})
			c.R.A[k.reg], c.R.D[1], c.R.Flags = k.a, v.d, 31
			checkLeaves(t, c, func(w *impl.Cpu) {
				w.R.A[k.reg] = k.then
				w.R.Flags = map[int]int{1: v.told1, 2: v.told2}[k.size]
				copy(w.Bus.Bytes[k.addr:], wantedBytes(2, v.d)[2-k.size:])
				w.Bus.Log = []impl.Access{access(2, k.size, k.addr, map[int]int{1: v.d % 256, 2: v.d}[k.size], 0)}
			})
		}
	}
	for _, from := range regNumbers {
		for _, to := range regNumbers {
			c := cpuWith(impl.Ins{Op: impl.OpFrom, Size: 1, Reg: from, Ea: by(impl.MdData, to)})
			c.R.Flags = 15
			checkLeaves(t, c, func(w *impl.Cpu) {
				w.R.D[to] = c.R.D[to]/256*256 + c.R.D[from]%256
				w.R.Flags = marksOf(1, c.R.D[from]%256)
			})
			c = cpuWith(impl.Ins{Op: impl.OpFrom, Size: 2, Reg: from, Ea: by(impl.MdData, to)})
			c.R.Flags = 31
			checkLeaves(t, c, func(w *impl.Cpu) { w.R.D[to] = c.R.D[from]; w.R.Flags = flagX + marksOf(2, c.R.D[from]) })
		}
	}
}

// oneRow: what OpOne makes of a value.
type oneRow struct{ sub, size, flags, was, then, told int }

func oneRows() []oneRow {
	const c, v, z, n, x = flagC, flagV, flagZ, flagN, flagX
	return []oneRow{
		{0, 1, 31, 0x12, 0, x + z}, {0, 1, 0, 0, 0, z}, {0, 2, 15, 0x8000, 0, z}, {0, 2, 16, 0xffff, 0, x + z},
		{1, 1, 0, 0x01, 0xff, c + n + x}, {1, 1, 31, 0, 0, z}, {1, 1, 16, 0x80, 0x80, c + v + n + x}, {1, 1, 0, 0xff, 1, c + x},
		{1, 2, 0, 0x8000, 0x8000, c + v + n + x}, {1, 2, 31, 0, 0, z}, {1, 2, 0, 0xffff, 1, c + x}, {1, 2, 0, 0x80, 0xff80, c + n + x},
		{2, 1, 31, 0xff, 0, x + z}, {2, 1, 15, 0x7f, 0x80, n}, {2, 1, 16, 0x80, 0x7f, x}, {2, 2, 16, 0x00ff, 0xff00, x + n}, {2, 2, 0, 0xffff, 0, z}, {2, 2, 15, 0xf00f, 0x0ff0, 0},
		{3, 1, 31, 0x80, 0x80, x + n}, {3, 1, 15, 0, 0, z}, {3, 1, 1, 0x7f, 0x7f, 0}, {3, 2, 15, 0, 0, z}, {3, 2, 0, 0x0080, 0x0080, 0}, {3, 2, 18, 0x8000, 0x8000, x + n},
	}
}

func TestOpOneOnData(t *testing.T) {
	for _, k := range oneRows() {
		for _, reg := range regNumbers {
			c := cpuWith(impl.Ins{Op: impl.OpOne, Size: k.size, Ea: by(impl.MdData, reg), Sub: k.sub})
			c.R.D[reg], c.R.Flags = k.was, k.flags
			if k.size == 1 {
				c.R.D[reg] += 0xa500
			}
			checkLeaves(t, c, func(w *impl.Cpu) { w.R.D[reg], w.R.Flags = c.R.D[reg]-k.was+k.then, k.told })
		}
	}
}

// The place is looked for once, though it is read and written; Sub 0 does not read, Sub 3 does not write.
func TestOpOneOnMemory(t *testing.T) {
	for _, k := range oneRows() {
		for _, m := range readRows() {
			if m.size != k.size || m.addr >= 384 && m.addr < 496 || m.addr >= 512 {
				continue
			}
			c := cpuWith(impl.Ins{Op: impl.OpOne, Size: k.size, Ea: impl.Operand{Mode: m.mode, Reg: m.reg, Ext: m.ext}, Sub: k.sub})
			c.R.A[m.reg], c.R.Flags = m.a, k.flags
			copy(c.Bus.Bytes[m.addr:], wantedBytes(k.size, k.was))
			reads, writes := access(1, k.size, m.addr, k.was, 0), access(2, k.size, m.addr, k.then, 0)
			checkLeaves(t, c, func(w *impl.Cpu) {
				w.R.A[m.reg], w.R.Flags = m.then, k.told
				copy(w.Bus.Bytes[m.addr:], wantedBytes(k.size, k.then))
				w.Bus.Log = [][]impl.Access{{writes}, {reads, writes}, {reads, writes}, {reads}}[k.sub]
			})
		}
	}
}

func TestOpShiftNamedEdges(t *testing.T) {
	const c, v, z, n, x = flagC, flagV, flagZ, flagN, flagX
	for _, k := range []struct{ kind, size, times, flags, was, then, told int }{
		{impl.ShAsl, 1, 1, 0, 0x1240, 0x1280, v + n}, {impl.ShAsl, 1, 2, 0, 0x1240, 0x1200, c + v + z + x}, {impl.ShAsl, 2, 4, 31, 0x1000, 0, c + v + z + x}, {impl.ShAsl, 1, 3, 16, 0x1220, 0x1200, c + v + z + x},
		{impl.ShAsr, 1, 1, 16, 0x1281, 0x12c0, c + n + x}, {impl.ShAsr, 2, 4, 31, 0x8000, 0xf800, n},
		{impl.ShLsl, 1, 1, 0, 0x1240, 0x1280, n}, {impl.ShLsl, 2, 1, 0, 0x8000, 0, c + z + x}, {impl.ShLsr, 1, 1, 31, 0x1280, 0x1240, 0}, {impl.ShLsr, 2, 4, 0, 0x000f, 0, c + z + x},
		{impl.ShRol, 1, 1, 0, 0x1281, 0x1203, c}, {impl.ShRol, 2, 4, 16, 0x1234, 0x2341, c + x}, {impl.ShRor, 1, 1, 16, 0x1201, 0x1280, c + n + x}, {impl.ShRor, 2, 4, 0, 0x1234, 0x4123, 0},
		{impl.ShRoxl, 1, 1, 16, 0x1200, 0x1201, 0}, {impl.ShRoxl, 2, 1, 0, 0x8000, 0, c + z + x}, {impl.ShRoxr, 1, 1, 16, 0x1200, 0x1280, n}, {impl.ShRoxr, 2, 2, 0, 0x0001, 0x8000, n},
	} {
		for _, reg := range regNumbers {
			cpu := cpuWith(impl.Ins{Op: impl.OpShift, Size: k.size, Reg: reg, Ea: by(impl.MdData, k.times-1), Sub: k.kind})
			cpu.R.D[reg], cpu.R.Flags = k.was, k.flags
			checkLeaves(t, cpu, func(w *impl.Cpu) { w.R.D[reg], w.R.Flags = k.then, k.told })
		}
	}
}

func TestOpShiftOfEveryKind(t *testing.T) {
	for _, kind := range shiftKinds {
		for _, size := range sizes {
			for times := range 4 {
				for _, flags := range []int{0, 15, 16, 31} {
					for i, v := range edgeWords {
						c := cpuWith(impl.Ins{Op: impl.OpShift, Size: size, Reg: i % 4, Ea: by(impl.MdData, times), Sub: kind})
						c.R.D[i%4], c.R.Flags = v, flags
						checkCpuStep(t, c)
					}
				}
			}
		}
	}
}

func TestBranchesTakenAndNot(t *testing.T) {
	for cond := range 16 {
		for flags := range 32 {
			c := cpuWith(impl.Ins{Op: impl.OpBranch, Size: 2, Reg: cond / 8, Ea: now(50), Sub: cond % 8})
			c.R.Flags = flags
			checkLeaves(t, c, func(w *impl.Cpu) { w.R.PC = map[bool]int{true: 152, false: 104}[wantedCond(cond, flags)] })
		}
	}
	for _, k := range []struct{ at, ext, want int }{
		{100, 0, 102}, {100, 2, 104}, {100, 65534, 100}, {100, 65535, 101}, {100, 65433, 65535}, {100, 65434, 0}, {100, 65435, 1},
		{0, 65534, 0}, {0, 65533, 65535}, {0, 65535, 1}, {508, 65535, 509}, {508, 65025, 65535}, {508, 65026, 0}, {100, 400, 502}, {100, 1, 103},
	} {
		for _, cond := range []int{impl.CcTrue, impl.CcFalse} {
			c := cpuWith()
			c.R.PC, c.R.Flags = k.at, 31
			layIns(c, k.at, impl.Ins{Op: impl.OpBranch, Size: 2, Ea: now(k.ext), Sub: cond})
			checkLeaves(t, c, func(w *impl.Cpu) { w.R.PC = map[int]int{impl.CcTrue: k.want, impl.CcFalse: k.at + 4}[cond] })
		}
	}
}

// A jump's place may be odd or in a hole: that is found out by whom fetches there.
func TestJumps(t *testing.T) {
	for _, k := range []struct {
		ea   impl.Operand
		want int
	}{
		{by(impl.MdAt, 0), 200}, {by(impl.MdAt, 1), 220}, {by(impl.MdAt, 3), 260}, {plus(2, 10), 250}, {plus(2, 65296), 0}, {plus(3, 65535), 259}, {plus(3, 0), 260},
		{abs(0), 0}, {abs(65535), 65535}, {abs(449), 449}, {abs(302), 302},
	} {
		length := 1 + map[bool]int{true: 1}[k.ea.Mode != impl.MdAt]
		c := cpuWith(impl.Ins{Op: impl.OpJump, Size: 2, Ea: k.ea})
		c.R.Flags = 31
		checkLeaves(t, c, func(w *impl.Cpu) { w.R.PC = k.want })
		// with Sub 1 the address is that of A's last one ahead of what is put on the stack
		c = cpuWith(impl.Ins{Op: impl.OpJump, Size: 2, Ea: k.ea, Sub: 1})
		c.R.Flags = 21
		checkLeaves(t, c, func(w *impl.Cpu) {
			w.R.PC, w.R.A[3] = k.want, 258
			w.Bus.Bytes[258], w.Bus.Bytes[259] = 0, 100+2*length
			w.Bus.Log = []impl.Access{access(2, 2, 258, 100+2*length, 0)}
		})
	}
}

func TestOpFlowReturns(t *testing.T) {
	for _, pc := range edgeWords {
		c := cpuWith(impl.Ins{Op: impl.OpFlow, Size: 2})
		c.R.Flags, c.R.Trace = 31, true
		layWord(c, 260, pc)
		checkLeaves(t, c, func(w *impl.Cpu) {
			w.R.PC, w.R.A[3] = pc, 262
			w.Bus.Log = []impl.Access{access(1, 2, 260, pc, 0)}
		})
	}
}

// Both words come off the stack that is in use at first: the status, then PC; where the state changes the stacks do so behind that.
func TestOpFlowResumes(t *testing.T) {
	for _, k := range []struct {
		word        int
		mask, flags int
		super       bool
		trace       bool
	}{
		{0, 0, 0, false, false}, {256, 0, 0, true, false}, {512, 0, 0, false, true}, {768, 0, 0, true, true}, {31, 0, 31, false, false}, {256 + 224, 7, 0, true, false},
		{1023, 7, 31, true, true}, {1024, 0, 0, false, false}, {1024 + 256 + 32*3 + 9, 3, 9, true, false}, {65535, 7, 31, true, true}, {64512 + 16, 0, 16, false, false},
	} {
		for _, pc := range []int{0, 1, 300, 65535} {
			c := cpuWith(impl.Ins{Op: impl.OpFlow, Size: 2, Sub: 1})
			c.R.Flags = 21
			layWord(c, 260, k.word)
			layWord(c, 262, pc)
			checkLeaves(t, c, func(w *impl.Cpu) {
				w.R.PC, w.R.Mask, w.R.Flags, w.R.Super, w.R.Trace = pc, k.mask, k.flags, k.super, k.trace
				w.R.A[3] = 264
				if !k.super {
					w.R.A[3], w.R.Other = 300, 264
				}
				w.Bus.Log = []impl.Access{access(1, 2, 260, k.word, 0), access(1, 2, 262, pc, 0)}
			})
		}
	}
}

func TestOpFlowDoesNothing(t *testing.T) {
	for flags := range 32 {
		c := cpuWith(impl.Ins{Op: impl.OpFlow, Size: 2, Sub: 2})
		c.R.Flags = flags
		checkLeaves(t, c, func(w *impl.Cpu) {})
	}
}

func TestTheStatusIsTaken(t *testing.T) {
	for status := range 1024 {
		for _, x := range []impl.Ins{{Op: impl.OpFlow, Size: 2, Ea: now(status), Sub: 3}, {Op: impl.OpStatus, Size: 2, Ea: now(status)}} {
			c := cpuWith(x)
			c.R.Flags = 21
			checkLeaves(t, c, func(w *impl.Cpu) {
				w.R.Flags, w.R.Mask, w.R.Super, w.R.Trace = status%32, status/32%8, status/256%2 == 1, status >= 512
				if status/256%2 == 0 {
					w.R.A[3], w.R.Other = 300, 260
				}
				w.Stop = x.Op == impl.OpFlow
			})
		}
	}
}

func TestTheStatusIsTold(t *testing.T) {
	for status := range 1024 {
		for _, reg := range regNumbers {
			c := cpuWith(impl.Ins{Op: impl.OpStatus, Size: 2, Reg: reg, Sub: 1})
			c.R.Flags, c.R.Mask, c.R.Super, c.R.Trace = status%32, status/32%8, status/256%2 == 1, status >= 512
			checkLeaves(t, c, func(w *impl.Cpu) { w.R.D[reg] = status })
		}
	}
}

func TestOpFlowSwapsAndExtends(t *testing.T) {
	const z, n, x = flagZ, flagN, flagX
	for _, k := range []struct{ sub, flags, was, then, told int }{
		{5, 31, 0x1234, 0x3412, x}, {5, 15, 0x00ff, 0xff00, n}, {5, 16, 0, 0, x + z}, {5, 0, 0x8000, 0x0080, 0}, {5, 7, 0xffff, 0xffff, n},
		{6, 31, 0x1280, 0xff80, x + n}, {6, 15, 0xff7f, 0x007f, 0}, {6, 0, 0xff00, 0, z}, {6, 16, 0x00ff, 0xffff, x + n}, {6, 3, 0, 0, z}, {6, 0, 0x8001, 1, 0},
	} {
		for _, reg := range regNumbers {
			c := cpuWith(impl.Ins{Op: impl.OpFlow, Size: 2, Reg: reg, Sub: k.sub})
			c.R.D[reg], c.R.Flags = k.was, k.flags
			checkLeaves(t, c, func(w *impl.Cpu) { w.R.D[reg], w.R.Flags = k.then, k.told })
		}
	}
}

// FlagZ stays where the byte is 0, and is no more where it is not; the other flags are worked out anew.
func TestOpBcdNamedEdges(t *testing.T) {
	const c, z, x = flagC, flagZ, flagX
	for _, k := range []struct{ sub, flags, a, b, then, told int }{
		{0, 0, 0x1258, 0xff67, 0x1225, c + x}, {0, 16, 0x1258, 0xff67, 0x1226, c + x}, {0, 15, 0x1210, 0x05, 0x1215, 0}, {0, 31, 0x1210, 0x05, 0x1216, 0},
		{0, 0, 0x1200, 0x00, 0x1200, 0}, {0, z, 0x1200, 0x00, 0x1200, z}, {0, 15, 0x1200, 0x00, 0x1200, z}, {0, 11, 0x1200, 0x00, 0x1200, 0}, {0, 16, 0x1299, 0x00, 0x1200, c + x}, {0, 20, 0x1299, 0x00, 0x1200, c + z + x},
		{0, z, 0x1299, 0x99, 0x1298, c + x}, {0, 16, 0x1299, 0x99, 0x1299, c + x}, {0, z, 0x1250, 0x50, 0x1200, c + z + x},
		{1, 0, 0x1242, 0xff07, 0x1235, 0}, {1, 16, 0x1242, 0x07, 0x1234, 0}, {1, 0, 0x1200, 0x01, 0x1299, c + x}, {1, 31, 0x1207, 0x42, 0x1264, c + x},
		{1, 0, 0x1299, 0x99, 0x1200, 0}, {1, 15, 0x1299, 0x99, 0x1200, z}, {1, 16, 0x1299, 0x99, 0x1299, c + x}, {1, 20, 0x1210, 0x09, 0x1200, z}, {1, z, 0x1201, 0x00, 0x1201, 0},
	} {
		for _, reg := range regNumbers {
			cpu := cpuWith(impl.Ins{Op: impl.OpBcd, Size: 1, Reg: reg, Ea: by(impl.MdData, (reg+1)%4), Sub: k.sub})
			cpu.R.D[reg], cpu.R.D[(reg+1)%4], cpu.R.Flags = k.a, k.b, k.flags
			checkLeaves(t, cpu, func(w *impl.Cpu) { w.R.D[reg], w.R.Flags = k.then, k.told })
		}
	}
}

func TestOpBcdOfManyBytes(t *testing.T) {
	for a := range 256 {
		for _, b := range []int{0, 1, 9, 10, 0x10, 0x49, 0x50, 0x51, 0x99, 0x9a, 0xa0, 0xff, a} {
			for _, flags := range []int{0, 4, 16, 31} {
				for sub := range 2 {
					c := cpuWith(impl.Ins{Op: impl.OpBcd, Size: 1, Reg: 2, Ea: by(impl.MdData, 1), Sub: sub})
					c.R.D[2], c.R.D[1], c.R.Flags = a+0xab00, b+0xcd00, flags
					checkCpuStep(t, c)
				}
			}
		}
	}
	for v := range 256 { // a byte with itself
		for sub := range 2 {
			c := cpuWith(impl.Ins{Op: impl.OpBcd, Size: 1, Reg: 3, Ea: by(impl.MdData, 3), Sub: sub})
			c.R.D[3] = v
			checkCpuStep(t, c)
		}
	}
}

// faultRow: an instruction at 100, what is changed ahead, what the step tells, and what it puts behind the log. Word is filled in.
type faultRow struct {
	x     impl.Ins
	ahead func(*impl.Cpu)
	fault impl.Fault
	log   []impl.Access
}

func nothing(*impl.Cpu) {}

func setA(reg int, v int) func(*impl.Cpu) {
	return func(c *impl.Cpu) { c.R.A[reg] = v }
}

func setWord(reg int, addr int, word int) func(*impl.Cpu) {
	return func(c *impl.Cpu) {
		c.R.A[reg] = addr
		layWord(*c, addr, word)
	}
}

func readFaultRows() []faultRow {
	const odd, hole = impl.BusOdd, impl.BusHole
	to := func(op int, size int, ea impl.Operand) impl.Ins { return impl.Ins{Op: op, Size: size, Reg: 1, Ea: ea} }
	return []faultRow{
		{to(impl.OpTo, 2, abs(449)), nothing, impl.Fault{Vector: 3, PC: 100, Addr: 449}, []impl.Access{access(1, 2, 449, 0, odd)}},
		{to(impl.OpTo, 1, abs(449)), nothing, impl.Fault{Vector: 2, PC: 100, Addr: 449}, []impl.Access{access(1, 1, 449, 0, hole)}},
		{to(impl.OpTo, 2, by(impl.MdAfter, 0)), setA(0, 201), impl.Fault{Vector: 3, PC: 100, Addr: 201}, []impl.Access{access(1, 2, 201, 0, odd)}},
		{to(impl.OpAdd, 1, by(impl.MdBefore, 0)), setA(0, 449), impl.Fault{Vector: 2, PC: 100, Addr: 448}, []impl.Access{access(1, 1, 448, 0, hole)}},
		{to(impl.OpSub, 1, by(impl.MdAfter, 3)), setA(3, 495), impl.Fault{Vector: 2, PC: 100, Addr: 495}, []impl.Access{access(1, 1, 495, 0, hole)}},
		{to(impl.OpAnd, 2, by(impl.MdBefore, 3)), setA(3, 0), impl.Fault{Vector: 2, PC: 100, Addr: 65534}, []impl.Access{access(1, 2, 65534, 0, hole)}},
		{to(impl.OpOr, 2, plus(2, 272)), nothing, impl.Fault{Vector: 2, PC: 100, Addr: 512}, []impl.Access{access(1, 2, 512, 0, hole)}},
		{to(impl.OpEor, 1, by(impl.MdAt, 2)), setA(2, 65535), impl.Fault{Vector: 2, PC: 100, Addr: 65535}, []impl.Access{access(1, 1, 65535, 0, hole)}},
		{to(impl.OpCmp, 2, by(impl.MdBefore, 2)), setA(2, 1), impl.Fault{Vector: 3, PC: 100, Addr: 65535}, []impl.Access{access(1, 2, 65535, 0, odd)}},
		{to(impl.OpAddr, 2, by(impl.MdAfter, 1)), setA(1, 448), impl.Fault{Vector: 2, PC: 100, Addr: 448}, []impl.Access{access(1, 2, 448, 0, hole)}},
		{to(impl.OpMul, 2, by(impl.MdAfter, 1)), setA(1, 513), impl.Fault{Vector: 3, PC: 100, Addr: 513}, []impl.Access{access(1, 2, 513, 0, odd)}},
		{to(impl.OpDiv, 2, by(impl.MdBefore, 1)), setA(1, 496), impl.Fault{Vector: 2, PC: 100, Addr: 494}, []impl.Access{access(1, 2, 494, 0, hole)}},
		{impl.Ins{Op: impl.OpOne, Size: 2, Ea: by(impl.MdAfter, 2), Sub: 1}, setA(2, 201), impl.Fault{Vector: 3, PC: 100, Addr: 201}, []impl.Access{access(1, 2, 201, 0, odd)}},
		{impl.Ins{Op: impl.OpOne, Size: 1, Ea: by(impl.MdBefore, 2), Sub: 2}, setA(2, 496), impl.Fault{Vector: 2, PC: 100, Addr: 495}, []impl.Access{access(1, 1, 495, 0, hole)}},
		{impl.Ins{Op: impl.OpOne, Size: 1, Ea: by(impl.MdAfter, 2), Sub: 3}, setA(2, 448), impl.Fault{Vector: 2, PC: 100, Addr: 448}, []impl.Access{access(1, 1, 448, 0, hole)}},
	}
}

func writeFaultRows() []faultRow {
	const odd, hole, rom = impl.BusOdd, impl.BusHole, impl.BusRom
	from := func(size int, ea impl.Operand) impl.Ins { return impl.Ins{Op: impl.OpFrom, Size: size, Ea: ea} }
	one := func(size int, sub int, ea impl.Operand) impl.Ins {
		return impl.Ins{Op: impl.OpOne, Size: size, Ea: ea, Sub: sub}
	}
	call := func(ea impl.Operand) impl.Ins { return impl.Ins{Op: impl.OpJump, Size: 2, Ea: ea, Sub: 1} }
	wrote := func(vector int, addr int) impl.Fault {
		return impl.Fault{Vector: vector, PC: 100, Addr: addr, Write: true}
	}
	return []faultRow{
		{from(2, by(impl.MdAfter, 1)), setA(1, 384), wrote(2, 384), []impl.Access{access(2, 2, 384, 4660, rom)}},
		{from(1, by(impl.MdBefore, 1)), setA(1, 448), wrote(2, 447), []impl.Access{access(2, 1, 447, 0x34, rom)}},
		{from(1, by(impl.MdBefore, 3)), setA(3, 450), wrote(2, 448), []impl.Access{access(2, 1, 448, 0x34, hole)}},
		{from(2, abs(65535)), nothing, wrote(3, 65535), []impl.Access{access(2, 2, 65535, 4660, odd)}},
		{from(2, plus(2, 1)), nothing, wrote(3, 241), []impl.Access{access(2, 2, 241, 4660, odd)}},
		// what is fixed can be read, so that only the write fails
		{one(2, 1, by(impl.MdAfter, 2)), setWord(2, 400, 5), wrote(2, 400), []impl.Access{access(1, 2, 400, 5, 0), access(2, 2, 400, 65531, rom)}},
		{one(1, 2, by(impl.MdBefore, 3)), setA(3, 402), wrote(2, 400), []impl.Access{access(1, 1, 400, 0x0c, 0), access(2, 1, 400, 0xf3, rom)}},
		{one(2, 0, by(impl.MdAfter, 2)), setA(2, 446), wrote(2, 446), []impl.Access{access(2, 2, 446, 0, rom)}},
		{one(1, 0, by(impl.MdBefore, 2)), setA(2, 512+1), wrote(2, 512), []impl.Access{access(2, 1, 512, 0, hole)}},
		{one(2, 0, by(impl.MdBefore, 2)), setA(2, 301), wrote(3, 299), []impl.Access{access(2, 2, 299, 0, odd)}},
		{call(abs(300)), setA(3, 0), wrote(2, 65534), []impl.Access{access(2, 2, 65534, 104, hole)}},
		{call(abs(300)), setA(3, 1), wrote(3, 65535), []impl.Access{access(2, 2, 65535, 104, odd)}},
		{call(by(impl.MdAt, 3)), setA(3, 386), wrote(2, 384), []impl.Access{access(2, 2, 384, 102, rom)}},
		{call(by(impl.MdAt, 3)), setA(3, 261), wrote(3, 259), []impl.Access{access(2, 2, 259, 102, odd)}},
		{call(plus(0, 4)), setA(3, 514), wrote(2, 512), []impl.Access{access(2, 2, 512, 104, hole)}},
	}
}

func otherFaultRows() []faultRow {
	const odd, hole = impl.BusOdd, impl.BusHole
	div := func(ea impl.Operand) impl.Ins { return impl.Ins{Op: impl.OpDiv, Size: 2, Reg: 1, Ea: ea} }
	flow := func(sub int) impl.Ins { return impl.Ins{Op: impl.OpFlow, Size: 2, Sub: sub} }
	user := func(c *impl.Cpu) { c.R.Super = false }
	bytes := func(a int, b int) func(*impl.Cpu) {
		return func(c *impl.Cpu) { c.R.D[0], c.R.D[1] = a, b }
	}
	bcd := impl.Ins{Op: impl.OpBcd, Size: 1, Ea: by(impl.MdData, 1)}
	bcdLess := impl.Ins{Op: impl.OpBcd, Size: 1, Ea: by(impl.MdData, 1), Sub: 1}
	l := []faultRow{
		// by 0: the place behind is told, what a way had moved is where it was
		{div(now(0)), nothing, impl.Fault{Vector: 5, PC: 104}, nil},
		{div(by(impl.MdData, 2)), func(c *impl.Cpu) { c.R.D[2] = 0 }, impl.Fault{Vector: 5, PC: 102}, nil},
		{div(by(impl.MdAfter, 0)), setWord(0, 200, 0), impl.Fault{Vector: 5, PC: 102}, []impl.Access{access(1, 2, 200, 0, 0)}},
		{div(by(impl.MdBefore, 3)), func(c *impl.Cpu) { layWord(*c, 258, 0) }, impl.Fault{Vector: 5, PC: 102}, []impl.Access{access(1, 2, 258, 0, 0)}},
		{div(abs(384)), func(c *impl.Cpu) { layWord(*c, 384, 0) }, impl.Fault{Vector: 5, PC: 104}, []impl.Access{access(1, 2, 384, 0, 0)}},
		{flow(0), setA(3, 448), impl.Fault{Vector: 2, PC: 100, Addr: 448}, []impl.Access{access(1, 2, 448, 0, hole)}},
		{flow(0), setA(3, 65535), impl.Fault{Vector: 3, PC: 100, Addr: 65535}, []impl.Access{access(1, 2, 65535, 0, odd)}},
		{flow(1), setA(3, 65534), impl.Fault{Vector: 2, PC: 100, Addr: 65534}, []impl.Access{access(1, 2, 65534, 0, hole)}},
		{flow(1), setA(3, 3), impl.Fault{Vector: 3, PC: 100, Addr: 3}, []impl.Access{access(1, 2, 3, 0, odd)}},
		// the first word comes off, the second one is missing: neither the status nor the stack has changed
		{flow(1), setWord(3, 446, 0), impl.Fault{Vector: 2, PC: 100, Addr: 448}, []impl.Access{access(1, 2, 446, 0, 0), access(1, 2, 448, 0, hole)}},
		{flow(1), setWord(3, 510, 1023), impl.Fault{Vector: 2, PC: 100, Addr: 512}, []impl.Access{access(1, 2, 510, 1023, 0), access(1, 2, 512, 0, hole)}},
		{flow(1), user, impl.Fault{Vector: 8, PC: 100}, nil},
		{impl.Ins{Op: impl.OpFlow, Size: 2, Ea: now(0), Sub: 3}, user, impl.Fault{Vector: 8, PC: 100}, nil},
		{impl.Ins{Op: impl.OpStatus, Size: 2, Ea: now(1023)}, user, impl.Fault{Vector: 8, PC: 100}, nil},
		{bcd, bytes(0x0a, 0), impl.Fault{Vector: 4, PC: 100}, nil}, {bcd, bytes(0, 0xa0), impl.Fault{Vector: 4, PC: 100}, nil}, {bcd, bytes(0xff, 0xff), impl.Fault{Vector: 4, PC: 100}, nil},
		{bcdLess, bytes(0xa0, 0), impl.Fault{Vector: 4, PC: 100}, nil}, {bcdLess, bytes(0x99, 0x9a), impl.Fault{Vector: 4, PC: 100}, nil},
	}
	for _, reg := range regNumbers {
		l = append(l, faultRow{impl.Ins{Op: impl.OpFlow, Size: 2, Reg: reg, Sub: 4}, nothing, impl.Fault{Vector: 18 + reg, PC: 102}, nil})
		l = append(l, faultRow{impl.Ins{Op: impl.OpFlow, Size: 2, Reg: reg, Sub: 4}, user, impl.Fault{Vector: 18 + reg, PC: 102}, nil})
	}
	return l
}

func TestAStepThatFaultsLeavesAllRegisters(t *testing.T) {
	for _, k := range slices.Concat(readFaultRows(), writeFaultRows(), otherFaultRows()) {
		for _, logged := range []int{0, 3, 399, 400} {
			for flags := 0; flags < 32; flags += 31 {
				c := cpuWith(k.x)
				c.R.Flags, c.R.Trace, c.Bus.Log = flags, logged == 3, logRow(logged)
				layWord(c, 400, 0x0c22)
				k.ahead(&c)
				k.fault.Word = wantedWords(k.x)[0]
				checkFaults(t, c, k.fault, k.log[:min(len(k.log), 400-logged)]...)
			}
		}
	}
}

// Without Super all that is not privileged is done as with it.
func TestWhatNeedsNoSuper(t *testing.T) {
	for _, x := range goodInstructions() {
		c := cpuWith(x)
		c.R.Super, c.R.Flags = false, 21
		_, fault, ok := impl.StepCpu(c)
		if !ok || (fault.Vector == 8) != wantedPrivileged(x) {
			t.Fatal(x, fault, ok)
		}
	}
}

func TestEveryGoodInstructionDoneOnce(t *testing.T) {
	s := &sundry{seed: 10}
	for _, x := range goodInstructions() {
		for range 4 {
			c := sundryCpu(s)
			y := x
			if (x.Ea.Mode == impl.MdPlus || x.Ea.Mode == impl.MdAbs) && s.below(3) > 0 {
				y.Ea.Ext = s.below(520)
			}
			layIns(c, 100, y)
			checkCpuStep(t, c)
		}
	}
}

// wantedRun: the processor behind at most n steps, how many were done without a fault, and the fault.
func wantedRun(c impl.Cpu, n int) (impl.Cpu, int, impl.Fault) {
	for done := range n {
		if c.Stop || c.Halt {
			return c, done, impl.Fault{}
		}
		after, fault := wantedCpuStep(c)
		if c = after; fault.Vector != 0 {
			return c, done, fault
		}
	}
	return c, n, impl.Fault{}
}

func checkRun(t *testing.T, c impl.Cpu, n int) (int, impl.Fault) {
	t.Helper()
	want, wantDone, wantFault := wantedRun(c, n)
	got, done, fault, ok := impl.StepsCpu(c, n)
	if !ok || done != wantDone || fault != wantFault || !sameCpus(got, want) {
		t.Fatalf("StepsCpu(%d) = %v, log %v, %d, %v, %v; want %v, log %v, %d, %v", n, got.R, got.Bus.Log, done, fault, ok, want.R, want.Bus.Log, wantDone, wantFault)
	}
	return done, fault
}

// countingCpu adds and stores for ever.
func countingCpu() impl.Cpu {
	return cpuWith(
		impl.Ins{Op: impl.OpAdd, Size: 2, Ea: now(3)},
		impl.Ins{Op: impl.OpFrom, Size: 2, Ea: abs(300)},
		impl.Ins{Op: impl.OpBranch, Size: 2, Ea: now(65526)},
	)
}

func TestStepsCpuSoOften(t *testing.T) {
	for n := range 61 {
		c := countingCpu()
		done, fault := checkRun(t, c, n)
		after, _, _, _ := impl.StepsCpu(c, n)
		if done != n || fault != (impl.Fault{}) || after.R.D[0] != 4660+3*((n+2)/3) || after.R.PC != 100+4*(n%3) || len(after.Bus.Log) != (n+1)/3 {
			t.Error(n, done, fault, after.R)
		}
	}
}

func TestStepsCpuOfNoneChangesNothing(t *testing.T) {
	for _, c := range []impl.Cpu{{}, {Stop: true}, {Halt: true}} {
		c.R, c.Bus = unlikeRegs(), fullBus(3)
		if after, done, fault, ok := impl.StepsCpu(c, 0); !sameCpus(after, c) || done != 0 || fault != (impl.Fault{}) || !ok {
			t.Error(c.Stop, c.Halt, after, done, fault, ok)
		}
	}
}

func TestStepsCpuEndsWhereItStopsOrHalts(t *testing.T) {
	for _, n := range []int{1, 2, 60} {
		for _, c := range []impl.Cpu{{Stop: true}, {Halt: true}} {
			c.R, c.Bus = countingCpu().R, countingCpu().Bus
			if after, done, fault, ok := impl.StepsCpu(c, n); !sameCpus(after, c) || done != 0 || fault != (impl.Fault{}) || !ok {
				t.Error(n, after.R, done, fault, ok)
			}
		}
	}
	stop := cpuWith(impl.Ins{Op: impl.OpFlow, Size: 2, Sub: 2}, impl.Ins{Op: impl.OpFlow, Size: 2, Ea: now(0), Sub: 3}, impl.Ins{Op: impl.OpFlow, Size: 2, Sub: 4})
	for n, want := range []int{0, 1, 2, 2, 2} {
		if done, fault := checkRun(t, stop, n); done != want || fault != (impl.Fault{}) {
			t.Error(n, done, fault)
		}
	}
}

func TestStepsCpuEndsAtAFault(t *testing.T) {
	trap := impl.Ins{Op: impl.OpFlow, Size: 2, Reg: 2, Sub: 4}
	idle := impl.Ins{Op: impl.OpFlow, Size: 2, Sub: 2}
	for ahead := range 8 {
		c := cpuWith(append(slices.Repeat([]impl.Ins{idle}, ahead), trap)...)
		for n := range 12 {
			want, wantFault := min(n, ahead), impl.Fault{}
			if n > ahead {
				wantFault = impl.Fault{Vector: 20, PC: 102 + 2*ahead, Word: wantedWords(trap)[0]}
			}
			if done, fault := checkRun(t, c, n); done != want || fault != wantFault {
				t.Error(ahead, n, done, fault)
			}
			if after, _, _, _ := impl.StepsCpu(c, n); after.R.PC != 100+2*want {
				t.Error(ahead, n, after.R)
			}
		}
	}
}

// A program that writes over what it comes to next does what it wrote.
func TestStepsCpuFetchesEachTime(t *testing.T) {
	c := cpuWith(
		impl.Ins{Op: impl.OpFrom, Size: 2, Reg: 1, Ea: abs(104)},
		impl.Ins{Op: impl.OpFlow, Size: 2, Sub: 2},
	)
	c.R.D[1] = wantedWords(impl.Ins{Op: impl.OpFlow, Size: 2, Reg: 1, Sub: 5})[0]
	after, done, fault, ok := impl.StepsCpu(c, 2)
	if want := c.R.D[1]%256*256 + c.R.D[1]/256; after.R.D[1] != want || done != 2 || fault != (impl.Fault{}) || !ok {
		t.Error(after.R, done, fault, ok)
	}
	checkRun(t, c, 2)
}

func TestSundryProgramsStepByStep(t *testing.T) {
	s := &sundry{seed: 7}
	most := 0
	for range 400 {
		c := sundryCpu(s)
		c.R.Super = true
		addr := 100
		for addr < 340 {
			x := sundryIns(s)
			if x.Op == impl.OpJump || x.Op == impl.OpBranch || wantedPrivileged(x) {
				x = impl.Ins{Op: impl.OpBranch, Size: 2, Reg: s.below(2), Ea: now(2 + 4*s.below(4)), Sub: s.below(8)}
			}
			layIns(c, addr, x)
			addr += 2 * len(wantedWords(x))
		}
		for range 30 {
			checkRun(t, c, 60)
			after, done, fault, _ := impl.StepsCpu(c, 60)
			c, most = after, max(most, done)
			if fault.Vector == 0 {
				break
			}
			// it goes on behind what faulted
			_, length, _ := wantedFetch(c)
			c.R.PC = (c.R.PC + 2*max(length, 1)) % 65536
		}
	}
	if most < 8 {
		t.Error("no program ran far:", most)
	}
}

func checkStack(t *testing.T, c impl.Cpu, v int) {
	t.Helper()
	want, fault := onBench(c, func(b *bench) { b.push(v) })
	if got, did, ok := impl.PushWord(c, v); !sameCpus(got, want) || did != (fault.Vector == 0) || !ok {
		t.Fatalf("PushWord(%d) at %d: %v, log %v, %v, %v", v, c.R.A[3], got.R, got.Bus.Log, did, ok)
	}
	told := 0
	want, fault = onBench(c, func(b *bench) { told = b.pop() })
	if got, v, did, ok := impl.PopWord(c); !sameCpus(got, want) || v != told || did != (fault.Vector == 0) || !ok {
		t.Fatalf("PopWord at %d: %v, log %v, %d, %v, %v; want %d", c.R.A[3], got.R, got.Bus.Log, v, did, ok, told)
	}
}

func TestTheStackAtEveryPlace(t *testing.T) {
	for a := range 65536 {
		if a < 700 || a%641 == 0 || a > 65500 {
			c := cpuWith()
			c.R.A[3], c.R.Flags = a, 31
			checkStack(t, c, 4660)
			c.Bus.Log = logRow(399 + a%2)
			checkStack(t, c, 65535-a)
		}
	}
}

func TestPushWordNamedEdges(t *testing.T) {
	const odd, hole, rom = impl.BusOdd, impl.BusHole, impl.BusRom
	for _, k := range []struct{ a, there, code int }{
		{384, 382, 0}, {2, 0, 0}, {260, 258, 0}, {498, 496, 0}, {512, 510, 0},
		{0, 65534, hole}, {65534, 65532, hole}, {450, 448, hole}, {496, 494, hole}, {514, 512, hole}, {386, 384, rom}, {448, 446, rom},
		{1, 65535, odd}, {3, 1, odd}, {65535, 65533, odd}, {385, 383, odd}, {451, 449, odd},
	} {
		for _, c := range []impl.Cpu{{}, {Stop: true}, {Halt: true}} {
			c.R, c.Bus = cpuWith().R, fullBus(2)
			c.R.A[3], c.R.Flags = k.a, 21
			want := cloneCpu(c)
			want.Bus.Log = append(want.Bus.Log, access(2, 2, k.there, 0x1234, k.code))
			if k.code == 0 {
				want.R.A[3] = k.there
				want.Bus.Bytes[k.there], want.Bus.Bytes[k.there+1] = 0x12, 0x34
			}
			if got, did, ok := impl.PushWord(c, 0x1234); !sameCpus(got, want) || did != (k.code == 0) || !ok {
				t.Error(k, got.R, got.Bus.Log, did, ok)
			}
		}
	}
}

func TestPopWordNamedEdges(t *testing.T) {
	const odd, hole = impl.BusOdd, impl.BusHole
	for _, k := range []struct{ a, then, code int }{
		{382, 384, 0}, {0, 2, 0}, {384, 386, 0}, {446, 448, 0}, {496, 498, 0}, {510, 512, 0},
		{448, 448, hole}, {494, 494, hole}, {512, 512, hole}, {65534, 65534, hole}, {65532, 65532, hole},
		{1, 1, odd}, {383, 383, odd}, {449, 449, odd}, {511, 511, odd}, {65535, 65535, odd},
	} {
		for _, c := range []impl.Cpu{{}, {Stop: true}, {Halt: true}} {
			c.R, c.Bus = cpuWith().R, fullBus(2)
			c.R.A[3], c.R.Flags = k.a, 21
			told := 0
			if k.code == 0 {
				layWord(c, k.a, 0x9876)
				told = 0x9876
			}
			want := cloneCpu(c)
			want.R.A[3] = k.then
			want.Bus.Log = append(want.Bus.Log, access(1, 2, k.a, told, k.code))
			if got, v, did, ok := impl.PopWord(c); !sameCpus(got, want) || v != told || did != (k.code == 0) || !ok {
				t.Error(k, got.R, got.Bus.Log, v, did, ok)
			}
		}
	}
}

func TestWhatIsPutOnComesOff(t *testing.T) {
	for _, a := range []int{2, 4, 260, 382, 384, 498, 512} {
		for _, v := range wordsAtEdges() {
			c := cpuWith()
			c.R.A[3] = a
			on, did, ok := impl.PushWord(c, v)
			off, told, back, fine := impl.PopWord(on)
			if told != v || !did || !back || !ok || !fine || !sameRegs(off.R, c.R) || !slices.Equal(off.Bus.Bytes, on.Bus.Bytes) {
				t.Fatal(a, v, told, off.R)
			}
		}
	}
	c, l := cpuWith(), []int{1, 2, 65535, 0, 258}
	for _, v := range l {
		c, _, _ = impl.PushWord(c, v)
	}
	for i := range l {
		after, v, did, ok := impl.PopWord(c)
		if c = after; v != l[len(l)-1-i] || !did || !ok {
			t.Error(i, v, did, ok)
		}
	}
	if c.R.A[3] != 260 || len(c.Bus.Log) != 10 {
		t.Error(c.R, c.Bus.Log)
	}
}

// loggedCpu has an access of each kind in its log.
func loggedCpu() impl.Cpu {
	c := cpuWith()
	c.Bus.Log = []impl.Access{access(1, 1, 5, 5, 0), access(2, 2, 384, 9, 3), access(3, 2, 449, 0, 2)}
	return c
}

// unlikeCpus: each good, and another one than loggedCpu in one thing.
func unlikeCpus() []impl.Cpu {
	var l []impl.Cpu
	add := func(change func(*impl.Cpu)) {
		c := loggedCpu()
		change(&c)
		l = append(l, c)
	}
	for i := range 4 {
		add(func(c *impl.Cpu) { c.R.D[i] ^= 1 })
		add(func(c *impl.Cpu) { c.R.D[i] ^= 32768 })
		add(func(c *impl.Cpu) { c.R.A[i] ^= 1 })
		add(func(c *impl.Cpu) { c.R.A[i] ^= 32768 })
	}
	for i := range 5 {
		add(func(c *impl.Cpu) { c.R.Flags ^= 1 << i })
	}
	for i := range 512 {
		add(func(c *impl.Cpu) { c.Bus.Bytes[i] ^= 1 })
	}
	for i := range 3 {
		add(func(c *impl.Cpu) { c.Bus.Log[i].Kind = []int{2, 1, 2}[i] })
		add(func(c *impl.Cpu) { c.Bus.Log[i].Size = []int{2, 1, 1}[i] })
		add(func(c *impl.Cpu) { c.Bus.Log[i].Addr ^= 1 })
		add(func(c *impl.Cpu) { c.Bus.Log[i].Value ^= 1 })
		add(func(c *impl.Cpu) { c.Bus.Log[i].Code = 1 })
	}
	add(func(c *impl.Cpu) { c.Bus.Log[0], c.Bus.Log[1] = c.Bus.Log[1], c.Bus.Log[0] })
	add(func(c *impl.Cpu) { c.Bus.Log = c.Bus.Log[:2] })
	add(func(c *impl.Cpu) { c.Bus.Log = append(c.Bus.Log, c.Bus.Log[2]) })
	add(func(c *impl.Cpu) { c.Bus.Log = nil })
	add(func(c *impl.Cpu) { c.R.Other ^= 1 })
	add(func(c *impl.Cpu) { c.R.PC ^= 2 })
	add(func(c *impl.Cpu) { c.R.Mask ^= 1 })
	add(func(c *impl.Cpu) { c.R.Super = false })
	add(func(c *impl.Cpu) { c.R.Trace = true })
	add(func(c *impl.Cpu) { c.Stop = true })
	add(func(c *impl.Cpu) { c.Halt = true })
	return l
}

func TestSameCpuAsksForAll(t *testing.T) {
	c := loggedCpu()
	if !impl.SameCpu(c, c) || !impl.SameCpu(c, cloneCpu(c)) {
		t.Error("the same are not the same")
	}
	for i, d := range unlikeCpus() {
		if !impl.GoodCpu(d) || impl.SameCpu(c, d) || impl.SameCpu(d, c) || !impl.SameCpu(d, cloneCpu(d)) {
			t.Fatal(i, d)
		}
	}
}

// The empty list and none are the same, and what lies behind a list is not looked at.
func TestSameCpuOfListsWithRoom(t *testing.T) {
	c, d := cpuWith(), cpuWith()
	c.Bus.Log, d.Bus.Log = nil, []impl.Access{}
	if !impl.SameCpu(c, d) {
		t.Error("no log and an empty one")
	}
	roomy, _ := roomyCpu(3)
	if plain := cloneCpu(roomy); !impl.SameCpu(roomy, plain) || !impl.SameCpu(plain, roomy) {
		t.Error("room behind the lists")
	}
}

func refusesCpu(t *testing.T, c impl.Cpu) {
	t.Helper()
	if impl.GoodCpu(c) {
		t.Fatal("GoodCpu", c)
	}
	if x, length, fault, ok := impl.FetchIns(c); x != (impl.Ins{}) || length != 0 || fault != (impl.Fault{}) || ok {
		t.Fatal("FetchIns", c, x, length, fault, ok)
	}
	refusesCpuStep(t, c)
	for _, n := range []int{0, 1, 60} {
		refusesRun(t, c, n)
	}
	for _, v := range []int{0, 65535} {
		refusesPush(t, c, v)
	}
	if after, v, did, ok := impl.PopWord(c); !isNoCpu(after) || v != 0 || did || ok {
		t.Fatal("PopWord", c, after, v, did, ok)
	}
	good := cpuWith()
	if impl.SameCpu(c, c) || impl.SameCpu(c, good) || impl.SameCpu(good, c) {
		t.Fatal("SameCpu", c)
	}
}

func isNoCpu(c impl.Cpu) bool { return sameCpus(c, impl.Cpu{}) }

func refusesCpuStep(t *testing.T, c impl.Cpu) {
	t.Helper()
	if after, fault, ok := impl.StepCpu(c); !isNoCpu(after) || fault != (impl.Fault{}) || ok {
		t.Fatal("StepCpu", c, after, fault, ok)
	}
}

func refusesRun(t *testing.T, c impl.Cpu, n int) {
	t.Helper()
	if after, done, fault, ok := impl.StepsCpu(c, n); !isNoCpu(after) || done != 0 || fault != (impl.Fault{}) || ok {
		t.Fatal("StepsCpu", n, c, after, done, fault, ok)
	}
}

func refusesPush(t *testing.T, c impl.Cpu, v int) {
	t.Helper()
	if after, did, ok := impl.PushWord(c, v); !isNoCpu(after) || did || ok {
		t.Fatal("PushWord", v, c, after, did, ok)
	}
}

func TestEveryFunctionRefusesWrongCpus(t *testing.T) {
	refusesCpu(t, impl.Cpu{})
	registers, buses := wrongRegs(), wrongBuses()
	for _, r := range registers {
		refusesCpu(t, impl.Cpu{R: r, Bus: fullBus(1)})
		refusesCpu(t, impl.Cpu{R: r, Bus: fullBus(1), Stop: true})
		refusesCpu(t, impl.Cpu{R: r, Bus: buses[len(r.D)%len(buses)]})
	}
	for i, b := range buses {
		refusesCpu(t, impl.Cpu{R: cpuWith().R, Bus: b})
		refusesCpu(t, impl.Cpu{R: cpuWith().R, Bus: b, Halt: true})
		refusesCpu(t, impl.Cpu{R: registers[i%len(registers)], Bus: b})
	}
}

func refusesNewCpu(t *testing.T, ram []int, pc int) {
	t.Helper()
	if c, ok := impl.NewCpu(ram, pc); !isNoCpu(c) || ok {
		t.Fatal("NewCpu", len(ram), pc, c, ok)
	}
}

func TestNewCpuRefusesWrongInputs(t *testing.T) {
	for _, length := range []int{385, 386, 448, 512, 513, 1000} {
		refusesNewCpu(t, make([]int, length), 0)
	}
	for _, v := range wrongBytes {
		for _, at := range []int{0, 1, 383} {
			ram := make([]int, 384)
			ram[at] = v
			refusesNewCpu(t, ram, 100)
		}
	}
	for _, pc := range wrongWords {
		refusesNewCpu(t, nil, pc)
		refusesNewCpu(t, fullBytes(1)[:384], pc)
	}
}

func TestStepCpuRefusesOneThatStopsOrHalts(t *testing.T) {
	for _, c := range []impl.Cpu{{Stop: true}, {Halt: true}, {Stop: true, Halt: true}} {
		c.R, c.Bus = countingCpu().R, countingCpu().Bus
		refusesCpuStep(t, c)
		c.R.PC = 1
		refusesCpuStep(t, c)
	}
}

func TestStepsCpuRefusesWrongNumbers(t *testing.T) {
	for _, n := range []int{-1, -2, -60, 61, 62, 120, 1 << 32, math.MaxInt, math.MinInt} {
		refusesRun(t, countingCpu(), n)
		c := countingCpu()
		c.Stop = true
		refusesRun(t, c, n)
	}
}

func TestPushWordRefusesWhatIsNoWord(t *testing.T) {
	for _, v := range wrongWords {
		refusesPush(t, cpuWith(), v)
		c := cpuWith()
		c.R.A[3] = 1
		refusesPush(t, c, v)
	}
}

// cpuMemory is all the memory that the lists of a processor have, room behind them and all.
type cpuMemory struct {
	data, addr, bytes []int
	log               []impl.Access
}

func (m cpuMemory) clone() cpuMemory {
	return cpuMemory{slices.Clone(m.data), slices.Clone(m.addr), slices.Clone(m.bytes), slices.Clone(m.log)}
}

func (m cpuMemory) same(o cpuMemory) bool {
	return slices.Equal(m.data, o.data) && slices.Equal(m.addr, o.addr) && slices.Equal(m.bytes, o.bytes) && slices.Equal(m.log, o.log)
}

func (m cpuMemory) spoil() {
	spoil(m.data)
	spoil(m.addr)
	spoil(m.bytes)
	log := m.log[:cap(m.log)]
	for i := range log {
		log[i].Kind = -9
	}
}

func memoryOfCpu(c impl.Cpu) cpuMemory { return cpuMemory{c.R.D, c.R.A, c.Bus.Bytes, c.Bus.Log} }

// roomyCpu has room behind all its lists, filled with what no list has.
func roomyCpu(logged int) (impl.Cpu, cpuMemory) {
	c := impl.Cpu{}
	var m cpuMemory
	c.R, m.data, m.addr = roomyRegs()
	c.R.A[3], c.R.PC = 260, 100
	c.Bus, m.bytes, m.log = roomyBus(logged)
	return c, m
}

// memoryIns: what reads, writes, moves registers, uses the stack, faults with a log, and changes the stacks.
func memoryIns() []impl.Ins {
	return []impl.Ins{
		{Op: impl.OpTo, Size: 2, Ea: abs(200)},
		{Op: impl.OpFrom, Size: 1, Ea: by(impl.MdBefore, 3)},
		{Op: impl.OpOne, Size: 2, Ea: abs(450), Sub: 1},
		{Op: impl.OpJump, Size: 2, Ea: by(impl.MdAt, 3), Sub: 1},
		{Op: impl.OpFlow, Size: 2, Sub: 1},
		{Op: impl.OpFlow, Size: 2, Ea: now(0), Sub: 3},
		{Op: impl.OpFlow, Size: 2, Sub: 4},
		{Op: impl.OpDiv, Size: 2, Reg: 1, Ea: by(impl.MdAfter, 3)},
	}
}

// answersOfCpu: what each function that answers a processor answers of this one.
func answersOfCpu(c impl.Cpu) []impl.Cpu {
	stepped, _, _ := impl.StepCpu(c)
	none, _, _, _ := impl.StepsCpu(c, 0)
	many, _, _, _ := impl.StepsCpu(c, 60)
	on, _, _ := impl.PushWord(c, 4660)
	off, _, _, _ := impl.PopWord(c)
	high := c
	high.R.PC = 1
	missed, _, _ := impl.StepCpu(high)
	return []impl.Cpu{stepped, none, many, on, off, missed}
}

func TestProcessorsWriteIntoNone(t *testing.T) {
	for _, logged := range []int{0, 1, 398, 399, 400} {
		for _, x := range memoryIns() {
			c, m := roomyCpu(logged)
			layIns(c, 100, x)
			want := m.clone()
			answersOfCpu(c)
			impl.FetchIns(c)
			impl.GoodCpu(c)
			impl.SameCpu(c, c)
			if !m.same(want) {
				t.Fatal("an argument's memory was changed", logged, x)
			}
		}
	}
	bytes := append(fullBytes(1)[:384], slices.Repeat([]int{-7}, 40)...)
	want := slices.Clone(bytes)
	if _, ok := impl.NewCpu(bytes[:200], 5); !ok || !slices.Equal(bytes, want) {
		t.Error("NewCpu changed its bytes", ok)
	}
}

func TestProcessorsAnswerNewMemory(t *testing.T) {
	for _, logged := range []int{0, 1, 399, 400} {
		for _, x := range memoryIns() {
			c, m := roomyCpu(logged)
			layIns(c, 100, x)
			plain := answersOfCpu(cloneCpu(c))
			first, second := answersOfCpu(c), answersOfCpu(c)
			m.spoil()
			for _, d := range second {
				memoryOfCpu(d).spoil()
			}
			for i, want := range plain {
				if !sameCpus(first[i], want) {
					t.Fatal("an answer shares memory", logged, x, i)
				}
				memoryOfCpu(first[i]).spoil()
			}
		}
	}
}

// The lists of one answer are three of numbers, though an argument's may be one.
func TestNoTwoListsOfAProcessorShareMemory(t *testing.T) {
	c, _ := roomyCpu(2)
	layIns(c, 100, impl.Ins{Op: impl.OpFlow, Size: 2, Sub: 2})
	c.R.D = c.R.A
	made, _ := impl.NewCpu(fullBytes(1)[:100], 0)
	for i, d := range append(answersOfCpu(c), made) {
		want := cloneCpu(d)
		spoil(d.R.D)
		if !slices.Equal(d.R.A, want.R.A) || !slices.Equal(d.Bus.Bytes, want.Bus.Bytes) {
			t.Fatal("D is shared", i)
		}
		spoil(d.R.A)
		if !slices.Equal(d.Bus.Bytes, want.Bus.Bytes) {
			t.Fatal("A is shared", i)
		}
	}
}

func TestNewCpuAnswersNewMemory(t *testing.T) {
	bytes := fullBytes(1)[:384]
	first, _ := impl.NewCpu(bytes, 7)
	second, _ := impl.NewCpu(bytes, 7)
	want := cloneCpu(first)
	spoil(bytes)
	memoryOfCpu(second).spoil()
	if !sameCpus(first, want) {
		t.Error("NewCpu's answer shares memory", first)
	}
}
