package tests

import (
	"fmt"
	"slices"
	"strconv"
	"testing"

	"loop.example/g00389/impl"
)

// What chapter 10 must answer is worked out here on a bench: each part by what the tests of the chapters before work it out with
// (rows of adders, texts of bits, letters an address), a fault being given up by a panic, behind which the registers are those from ahead.

const flagC, flagV, flagZ, flagN, flagX = impl.FlagC, impl.FlagV, impl.FlagZ, impl.FlagN, impl.FlagX

// bench is a processor in the middle of a step: at is where the instruction lies, word its first word.
type bench struct {
	r        impl.Regs
	bus      impl.Bus
	stop     bool
	at, word int
}

func cloneCpu(c impl.Cpu) impl.Cpu {
	c.R, c.Bus = cloneRegs(c.R), cloneBus(c.Bus)
	return c
}

func sameCpus(a impl.Cpu, b impl.Cpu) bool {
	return sameRegs(a.R, b.R) && sameBus(a.Bus, b.Bus) && a.Stop == b.Stop && a.Halt == b.Halt
}

func (b *bench) touch(kind int, size int, addr int, value int) int {
	bus, told, code := wantedTouch(b.bus, kind, size, addr, value)
	b.bus = bus
	if code != impl.BusOk {
		vector := map[int]int{impl.BusHole: 2, impl.BusOdd: 3, impl.BusRom: 2}[code]
		panic(impl.Fault{Vector: vector, PC: b.at, Addr: addr, Word: b.word, Write: kind == impl.AccWrite})
	}
	return told
}

func (b *bench) push(v int) {
	there := walk(b.r.A[3], 2, addressAhead)
	b.touch(impl.AccWrite, 2, there, v)
	b.r.A[3] = there
}

func (b *bench) pop() int {
	v := b.touch(impl.AccRead, 2, b.r.A[3], 0)
	b.r.A[3] = walk(b.r.A[3], 2, addressBehind)
	return v
}

func (b *bench) fetch() (impl.Ins, int) {
	next := 0
	b.word = b.touch(impl.AccFetch, 2, b.at, 0)
	if slices.Contains(extModes, numberOfBits(bitText(2, b.word)[8:11])) {
		next = b.touch(impl.AccFetch, 2, walk(b.at, 2, addressBehind), 0)
	}
	x, length, ok := wantedDecoded(b.word, next)
	if !ok {
		panic(impl.Fault{Vector: 4, PC: b.at, Word: b.word})
	}
	return x, length
}

// lowest: of a word its byte, or all of it.
func lowest(size int, v int) int {
	return wantedValue(wantedBytes(2, v)[2-size:])
}

// operand: how it is read and how it is written; its place is looked for here, once.
func (b *bench) operand(x impl.Ins) (func() int, func(int)) {
	o := x.Ea
	switch o.Mode {
	case impl.MdData:
		return func() int { return lowest(x.Size, b.r.D[o.Reg]) }, func(v int) { b.r = wantedPut(b.r, x.Size, o.Reg, v) }
	case impl.MdAddr:
		return func() int { return b.r.A[o.Reg] }, nil
	case impl.MdNow:
		return func() int { return o.Ext }, nil
	}
	r, addr := wantedPlace(b.r, x.Size, o)
	b.r = r
	return func() int { return b.touch(impl.AccRead, x.Size, addr, 0) }, func(v int) { b.touch(impl.AccWrite, x.Size, addr, v) }
}

func wantedLogic(size int, flags int, v int) int { return flags&flagX + marksOf(size, v) }

// wantedBits: a rule tells a digit for the bits 00, 01, 10 and 11.
func wantedBits(rule string, size int, a int, b int) int {
	p, q, text := bitText(size, a), bitText(size, b), ""
	for i := range p {
		at := numberOfBits(p[i:i+1] + q[i:i+1])
		text += rule[at : at+1]
	}
	return numberOfBits(text)
}

func (b *bench) toData(x impl.Ins, v int) {
	d, flags := lowest(x.Size, b.r.D[x.Reg]), 0
	made := v
	switch x.Op {
	case impl.OpAdd:
		made, flags = wantedSum(x.Size, 0, d, v)
	case impl.OpSub:
		made, flags = wantedDifference(x.Size, 0, d, v)
	case impl.OpCmp:
		_, flags = wantedDifference(x.Size, 0, d, v)
		made, flags = d, flags&^flagX+b.r.Flags&flagX
	case impl.OpTo:
		flags = wantedLogic(x.Size, b.r.Flags, made)
	case impl.OpAnd, impl.OpOr, impl.OpEor:
		made = wantedBits(map[int]string{impl.OpAnd: "0001", impl.OpOr: "0111", impl.OpEor: "0110"}[x.Op], x.Size, d, v)
		flags = wantedLogic(x.Size, b.r.Flags, made)
	case impl.OpMul:
		upper, lower := wantedPair(int64(d) * int64(v))
		made, flags = lower, wantedLogic(2, b.r.Flags, lower)
		if upper > 0 {
			flags += flagV
		}
	case impl.OpDiv:
		if v == 0 {
			panic(impl.Fault{Vector: 5, PC: b.r.PC, Word: b.word})
		}
		made, flags = d/v, wantedLogic(2, b.r.Flags, d/v)
	}
	b.r = wantedPut(b.r, x.Size, x.Reg, made)
	b.r.Flags = flags
}

func (b *bench) one(x impl.Ins) {
	read, write := b.operand(x)
	switch x.Sub {
	case 0:
		write(0)
		b.r.Flags = wantedLogic(x.Size, b.r.Flags, 0)
	case 1:
		v, flags := wantedDifference(x.Size, 0, 0, read())
		write(v)
		b.r.Flags = flags
	case 2:
		v := greatestOf(x.Size) - read()
		write(v)
		b.r.Flags = wantedLogic(x.Size, b.r.Flags, v)
	case 3:
		b.r.Flags = wantedLogic(x.Size, b.r.Flags, read())
	}
}

func (b *bench) flow(x impl.Ins) {
	switch x.Sub {
	case 0:
		b.r.PC = b.pop()
	case 1:
		status := b.pop() % 1024
		b.r.PC = b.pop()
		b.r = wantedWithStatus(b.r, status)
	case 3:
		b.r = wantedWithStatus(b.r, x.Ea.Ext)
		b.stop = true
	case 4:
		panic(impl.Fault{Vector: 18 + x.Reg, PC: b.r.PC, Word: b.word})
	case 5:
		bytes := wantedBytes(2, b.r.D[x.Reg])
		slices.Reverse(bytes)
		b.r.D[x.Reg] = wantedValue(bytes)
		b.r.Flags = wantedLogic(2, b.r.Flags, b.r.D[x.Reg])
	case 6:
		_, b.r.D[x.Reg] = wantedPair(int64(signedNumber(1, lowest(1, b.r.D[x.Reg]))))
		b.r.Flags = wantedLogic(2, b.r.Flags, b.r.D[x.Reg])
	}
}

func (b *bench) decimal(x impl.Ins) {
	a, errA := strconv.Atoi(fmt.Sprintf("%x", lowest(1, b.r.D[x.Reg])))
	c, errC := strconv.Atoi(fmt.Sprintf("%x", lowest(1, b.r.D[x.Ea.Reg])))
	if errA != nil || errC != nil {
		panic(impl.Fault{Vector: 4, PC: b.at, Word: b.word})
	}
	v, carry := wantedDecimalSum(b.r.Flags/16, a, c)
	if x.Sub == 1 {
		v, carry = wantedDecimalDifference(b.r.Flags/16, a, c)
	}
	b.r = wantedPut(b.r, 1, x.Reg, v)
	flags := carry * (flagC + flagX)
	if v == 0 {
		flags += b.r.Flags & flagZ
	}
	b.r.Flags = flags
}

func (b *bench) shift(x impl.Ins) {
	v, over := lowest(x.Size, b.r.D[x.Reg]), 0
	for range x.Ea.Reg + 1 {
		v, b.r.Flags = wantedShift(x.Sub, x.Size, b.r.Flags, v)
		over |= b.r.Flags & flagV
	}
	b.r = wantedPut(b.r, x.Size, x.Reg, v)
	b.r.Flags |= over
}

func (b *bench) carryOut(x impl.Ins) {
	switch x.Op {
	case impl.OpFrom:
		_, write := b.operand(x)
		v := lowest(x.Size, b.r.D[x.Reg])
		write(v)
		b.r.Flags = wantedLogic(x.Size, b.r.Flags, v)
	case impl.OpAddr:
		read, _ := b.operand(x)
		b.r.A[x.Reg] = read()
	case impl.OpLea:
		_, b.r.A[x.Reg] = wantedPlace(b.r, x.Size, x.Ea)
	case impl.OpOne:
		b.one(x)
	case impl.OpShift:
		b.shift(x)
	case impl.OpBranch:
		if wantedCond(8*x.Reg+x.Sub, b.r.Flags) {
			b.r.PC = walk(b.at, 2+x.Ea.Ext, addressBehind)
		}
	case impl.OpJump:
		_, there := wantedPlace(b.r, x.Size, x.Ea)
		if x.Sub == 1 {
			b.push(b.r.PC)
		}
		b.r.PC = there
	case impl.OpFlow:
		b.flow(x)
	case impl.OpBcd:
		b.decimal(x)
	case impl.OpStatus:
		if x.Sub == 0 {
			b.r = wantedWithStatus(b.r, x.Ea.Ext)
		} else {
			b.r.D[x.Reg] = wantedStatus(b.r)
		}
	default:
		read, _ := b.operand(x)
		b.toData(x, read())
	}
}

// onBench does something on a bench: the processor then, and the fault at which it was given up.
func onBench(c impl.Cpu, do func(*bench)) (after impl.Cpu, fault impl.Fault) {
	b := &bench{r: cloneRegs(c.R), bus: cloneBus(c.Bus), stop: c.Stop, at: c.R.PC}
	defer func() {
		if told := recover(); told != nil {
			after, fault = impl.Cpu{R: cloneRegs(c.R), Bus: b.bus, Stop: c.Stop, Halt: c.Halt}, told.(impl.Fault)
		}
	}()
	do(b)
	return impl.Cpu{R: b.r, Bus: b.bus, Stop: b.stop, Halt: c.Halt}, impl.Fault{}
}

func wantedCpuStep(c impl.Cpu) (impl.Cpu, impl.Fault) {
	return onBench(c, func(b *bench) {
		x, length := b.fetch()
		if wantedPrivileged(x) && !b.r.Super {
			panic(impl.Fault{Vector: 8, PC: b.at, Word: b.word})
		}
		b.r.PC = walk(b.at, 2*length, addressBehind)
		b.carryOut(x)
	})
}

func wantedFetch(c impl.Cpu) (x impl.Ins, length int, fault impl.Fault) {
	_, fault = onBench(c, func(b *bench) { x, length = b.fetch() })
	return x, length, fault
}

func checkCpuStep(t *testing.T, c impl.Cpu) impl.Cpu {
	t.Helper()
	want, wantFault := wantedCpuStep(c)
	got, fault, ok := impl.StepCpu(c)
	if !ok || fault != wantFault {
		x, _, _ := wantedFetch(c)
		t.Fatalf("StepCpu of %v with %v tells %v, %v; want %v", x, c.R, fault, ok, wantFault)
	}
	if !sameCpus(got, want) {
		x, _, _ := wantedFetch(c)
		t.Fatalf("StepCpu of %v with %v: %v, %v, log %v; want %v, %v, log %v", x, c.R, got.R, got.Stop, got.Bus.Log, want.R, want.Stop, want.Bus.Log)
	}
	return got
}

func checkFetch(t *testing.T, c impl.Cpu) {
	t.Helper()
	want, wantLength, wantFault := wantedFetch(c)
	if x, length, fault, ok := impl.FetchIns(c); x != want || length != wantLength || fault != wantFault || !ok {
		t.Fatalf("FetchIns at %d = %v, %d, %v, %v; want %v, %d, %v", c.R.PC, x, length, fault, ok, want, wantLength, wantFault)
	}
}

func layWord(c impl.Cpu, addr int, word int) {
	copy(c.Bus.Bytes[addr:], wantedBytes(2, word))
}

func layIns(c impl.Cpu, addr int, l ...impl.Ins) {
	for i, word := range wordsOfRow(l) {
		layWord(c, addr+2*i, word)
	}
}

// cpuWith: with these instructions from 100 on, where its PC is; no two registers alike, and the memory full.
func cpuWith(l ...impl.Ins) impl.Cpu {
	c := impl.Cpu{
		R:   impl.Regs{D: []int{4660, 22136, 39612, 57072}, A: []int{200, 220, 240, 260}, Other: 300, PC: 100, Mask: 5, Super: true},
		Bus: fullBus(0),
	}
	layIns(c, 100, l...)
	return c
}

// sundry gives numbers that look like any, and are always the same ones.
type sundry struct{ seed uint64 }

func (s *sundry) below(n int) int {
	s.seed = s.seed*6364136223846793005 + 1442695040888963407
	return int(s.seed>>33) % n
}

func (s *sundry) of(l []int) int { return l[s.below(len(l))] }

// sundryCpu: registers that lead to all parts of the memory and to their edges, with bytes of all kinds, many of them 0 or decimal.
func sundryCpu(s *sundry) impl.Cpu {
	c := cpuWith()
	words := append(valuesOf(2), 0x0009, 0x0099, 0x1250, 0x8049, 0xff00)
	for i := range 4 {
		c.R.D[i] = s.of(words)
		c.R.A[i] = s.of(edgeAddresses)
		if s.below(2) == 0 {
			c.R.A[i] = 2 * s.below(192)
		}
	}
	c.R.Other, c.R.Flags, c.R.Mask = s.of(edgeAddresses), s.below(32), s.below(8)
	c.R.Super, c.R.Trace = s.below(3) > 0, s.below(3) == 0
	for i := range c.Bus.Bytes {
		c.Bus.Bytes[i] = s.of([]int{0, 0, 0x25, 0x99, 0x80, 255, 1, s.below(256), s.below(256)})
	}
	c.Bus.Log = logRow(s.of([]int{0, 0, 1, 2, 398, 399, 400}))
	return c
}

// sundryIns: any good instruction, whose Ext leads into the memory often.
func sundryIns(s *sundry) impl.Ins {
	l := goodInstructions()
	x := l[s.below(len(l))]
	if (x.Ea.Mode == impl.MdPlus || x.Ea.Mode == impl.MdAbs) && s.below(4) > 0 {
		x.Ea.Ext = s.below(520)
	}
	return x
}
