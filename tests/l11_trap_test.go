package tests

import (
	"math"
	"slices"
	"testing"

	"loop.example/g00389/impl"
)

// Tables tell here in numbers what lies on the stack behind an exception; processors of all kinds are held against what is worked out
// on the bench of chapter 10 and by the accesses of chapter 4, one by one.

// wantedFrame asks which vectors have a long frame by their numbers.
func wantedFrame(c impl.Cpu, f impl.Fault) []int {
	frame := []int{f.PC, wantedStatus(c.R)}
	if f.Vector > 3 {
		return frame
	}
	info := 0
	if f.Write {
		info++
	}
	if c.R.Super {
		info += 2
	}
	return append(frame, f.Word, f.Addr, info)
}

func wantedEntered(c impl.Cpu, f impl.Fault) impl.Cpu {
	after := cloneCpu(c)
	after.Stop = false
	after.R = wantedWithStatus(after.R, c.R.Flags+32*c.R.Mask+256)
	for _, word := range wantedFrame(c, f) {
		there, code := walk(after.R.A[3], 2, addressAhead), 0
		if after.Bus, _, code = wantedTouch(after.Bus, impl.AccWrite, 2, there, word); code != impl.BusOk {
			after.Halt = true
			return after
		}
		after.R.A[3] = there
	}
	after.Bus, after.R.PC, _ = wantedTouch(after.Bus, impl.AccRead, 2, 2*f.Vector, 0)
	return after
}

// wantedWhole: the vectors that came, in order, at most two.
func wantedWhole(c impl.Cpu) (impl.Cpu, []int) {
	var came []int
	after, fault := wantedCpuStep(c)
	if fault.Vector != 0 {
		after = wantedEntered(after, fault)
		came = append(came, fault.Vector)
	}
	if c.R.Trace && !after.Halt && slices.Contains([]int{0, 5, 18, 19, 20, 21}, fault.Vector) {
		after = wantedEntered(after, impl.Fault{Vector: 9, PC: after.R.PC})
		came = append(came, 9)
	}
	return after, came
}

func wantedFirst(came []int) int {
	if len(came) == 0 {
		return 0
	}
	return came[0]
}

func checkEnters(t *testing.T, c impl.Cpu, f impl.Fault) impl.Cpu {
	t.Helper()
	want := wantedEntered(c, f)
	got, ok := impl.EnterFault(c, f)
	if !ok || !sameCpus(got, want) {
		t.Fatalf("EnterFault of %v with %v: %v, %v, %v, log %v, %v; want %v, %v, %v, log %v", f, c.R, got.R, got.Stop, got.Halt, got.Bus.Log, ok, want.R, want.Stop, want.Halt, want.Bus.Log)
	}
	return got
}

func checkWhole(t *testing.T, c impl.Cpu) (impl.Cpu, []int) {
	t.Helper()
	want, came := wantedWhole(c)
	got, vector, ok := impl.StepWhole(c)
	if !ok || vector != wantedFirst(came) || !sameCpus(got, want) {
		x, _, _ := wantedFetch(c)
		t.Fatalf("StepWhole of %v with %v: %v, %v, %v, log %v, %d, %v; want %v, %v, %v, log %v, %v", x, c.R, got.R, got.Stop, got.Halt, got.Bus.Log, vector, ok, want.R, want.Stop, want.Halt, want.Bus.Log, came)
	}
	return got, came
}

func vectorsOfFaults() []int {
	var l []int
	for vector := 2; vector <= 21; vector++ {
		l = append(l, vector)
	}
	return l
}

// faultOf: no two numbers of it alike.
func faultOf(vector int) impl.Fault {
	f := impl.Fault{Vector: vector, PC: 0x1234, Word: 0x5678}
	if vector <= 3 {
		f.Addr, f.Write = 0x9abc, true
	}
	return f
}

func TestGoodFaultsOfEveryVector(t *testing.T) {
	for vector := -70; vector <= 70; vector++ {
		f := impl.Fault{Vector: vector}
		if impl.GoodFault(f) != (vector >= 2 && vector <= 21) {
			t.Error(vector)
		}
	}
	for _, vector := range []int{math.MinInt, -1 << 32, 1 << 32, 1<<32 + 4, 1<<16 + 4, math.MaxInt} {
		if impl.GoodFault(impl.Fault{Vector: vector}) {
			t.Error(vector)
		}
	}
}

func TestGoodFaultsOfWords(t *testing.T) {
	for _, vector := range vectorsOfFaults() {
		for _, v := range edgeWords {
			if !impl.GoodFault(impl.Fault{Vector: vector, PC: v}) || !impl.GoodFault(impl.Fault{Vector: vector, Word: v}) {
				t.Error(vector, v)
			}
			if impl.GoodFault(impl.Fault{Vector: vector, Addr: v}) != (v == 0 || vector <= 3) {
				t.Error("Addr", vector, v)
			}
		}
		if impl.GoodFault(impl.Fault{Vector: vector, Write: true}) != (vector <= 3) {
			t.Error("Write", vector)
		}
		if impl.GoodFault(impl.Fault{Vector: vector, PC: 65535, Word: 65535, Addr: 65535, Write: true}) != (vector <= 3) {
			t.Error("all of it", vector)
		}
	}
}

// wrongFaults: each not good by one thing.
func wrongFaults() []impl.Fault {
	var l []impl.Fault
	for _, vector := range []int{math.MinInt, -2, -1, 0, 1, 22, 23, 31, 32, 1<<32 + 4, math.MaxInt} {
		l = append(l, impl.Fault{Vector: vector}, impl.Fault{Vector: vector, PC: 5, Word: 6})
	}
	for _, vector := range vectorsOfFaults() {
		for _, v := range append(slices.Clone(wrongWords), -1, 65536) {
			l = append(l, impl.Fault{Vector: vector, PC: v}, impl.Fault{Vector: vector, Addr: v}, impl.Fault{Vector: vector, Word: v})
		}
		if vector > 3 {
			l = append(l, impl.Fault{Vector: vector, Addr: 1}, impl.Fault{Vector: vector, Addr: 65535}, impl.Fault{Vector: vector, Write: true})
		}
	}
	return l
}

func TestIsLongFrameOfEachVector(t *testing.T) {
	for _, vector := range vectorsOfFaults() {
		for _, f := range []impl.Fault{{Vector: vector}, faultOf(vector)} {
			if long, ok := impl.IsLongFrame(f); long != (vector == impl.VecBus || vector == impl.VecOdd) || !ok {
				t.Error(f, long, ok)
			}
		}
	}
}

func TestInfoOf(t *testing.T) {
	for _, k := range []struct {
		write, super bool
		info         int
	}{{false, false, 0}, {true, false, 1}, {false, true, 2}, {true, true, 3}} {
		for _, vector := range []int{2, 3} {
			for _, f := range []impl.Fault{{Vector: vector, Write: k.write}, {Vector: vector, PC: 9, Addr: 65535, Word: 7, Write: k.write}} {
				for _, c := range []impl.Cpu{{}, {Stop: true}, {Halt: true}} {
					c.R, c.Bus = cpuWith().R, cpuWith().Bus
					c.R.Super, c.R.Trace, c.R.Flags = k.super, !k.super, 31
					if info, ok := impl.InfoOf(c, f); info != k.info || !ok {
						t.Error(k, f, info, ok)
					}
				}
			}
		}
	}
}

func TestFrameOfNamedEdges(t *testing.T) {
	for _, k := range []struct {
		super, trace bool
		flags, mask  int
		f            impl.Fault
		frame        []int
	}{
		{true, false, 0, 7, impl.Fault{Vector: 4, PC: 10, Word: 7}, []int{10, 480}},
		{true, false, 0, 7, impl.Fault{Vector: 2, PC: 2, Word: 3, Addr: 448, Write: true}, []int{2, 480, 3, 448, 3}},
		{false, false, 0, 0, impl.Fault{Vector: 5, PC: 65535, Word: 65535}, []int{65535, 0}},
		{false, false, 31, 5, impl.Fault{Vector: 8, PC: 1, Word: 2}, []int{1, 191}},
		{true, true, 31, 7, impl.Fault{Vector: 9, PC: 0}, []int{0, 1023}},
		{false, true, 1, 0, impl.Fault{Vector: 21, PC: 102}, []int{102, 513}},
		{false, true, 16, 1, impl.Fault{Vector: 3, PC: 100, Addr: 201, Word: 4660}, []int{100, 560, 4660, 201, 0}},
		{false, false, 4, 6, impl.Fault{Vector: 3, PC: 65535, Addr: 65535, Word: 65535, Write: true}, []int{65535, 196, 65535, 65535, 1}},
		{true, false, 2, 3, impl.Fault{Vector: 2, PC: 0, Addr: 0, Word: 0}, []int{0, 354, 0, 0, 2}},
	} {
		for _, c := range []impl.Cpu{{}, {Stop: true}, {Halt: true}} {
			c.R, c.Bus = cpuWith().R, fullBus(2)
			c.R.Super, c.R.Trace, c.R.Flags, c.R.Mask = k.super, k.trace, k.flags, k.mask
			if frame, ok := impl.FrameOf(c, k.f); !slices.Equal(frame, k.frame) || !ok {
				t.Error(k, frame, ok)
			}
		}
	}
}

func TestFrameOfEachVectorAndStatus(t *testing.T) {
	for status := range 1024 {
		c := cpuWith()
		c.R = wantedWithStatus(c.R, status)
		for _, vector := range vectorsOfFaults() {
			f := faultOf(vector)
			if frame, ok := impl.FrameOf(c, f); !slices.Equal(frame, wantedFrame(c, f)) || !ok {
				t.Fatal(status, f, frame, ok)
			}
		}
	}
}

func TestVectorAtNamedEdges(t *testing.T) {
	for _, c := range []impl.Cpu{{}, {Stop: true}, {Halt: true}} {
		c.R, c.Bus = cpuWith().R, fullBus(1)
		for vector := range 32 {
			layWord(c, 2*vector, 0x8001+257*vector)
		}
		for vector := -70; vector <= 300; vector++ {
			want, good := 0, vector >= 0 && vector <= 31
			if good {
				want = 0x8001 + 257*vector
			}
			if v, ok := impl.VectorAt(c, vector); v != want || ok != good {
				t.Error(vector, v, ok)
			}
		}
	}
}

// No vector leads into a hole, though what lies there may.
func TestVectorAtOfAnyWord(t *testing.T) {
	c := cpuWith()
	for _, v := range []int{0, 1, 448, 495, 512, 65535} {
		for _, vector := range []int{0, 1, 31} {
			layWord(c, 2*vector, v)
			if told, ok := impl.VectorAt(c, vector); told != v || !ok {
				t.Error(vector, v, told, ok)
			}
		}
	}
}

// checkEntered: behind an exception is just what is told, and the log goes on with these accesses.
func checkEntered(t *testing.T, c impl.Cpu, f impl.Fault, log []impl.Access, tell func(*impl.Cpu)) {
	t.Helper()
	want := cloneCpu(c)
	want.Bus.Log = append(want.Bus.Log, log...)
	tell(&want)
	if got, ok := impl.EnterFault(c, f); !ok || !sameCpus(got, want) {
		t.Errorf("EnterFault of %v with %v: %v, %v, %v, log %v, %v; want %v, %v, %v, log %v", f, c.R, got.R, got.Stop, got.Halt, got.Bus.Log, ok, want.R, want.Stop, want.Halt, want.Bus.Log)
	}
	checkEnters(t, c, f)
}

// With Super the stack in use goes on, and the other one stays.
func TestEnterFaultWithSuper(t *testing.T) {
	c := cpuWith()
	c.R.Flags = 21
	layWord(c, 8, 0x4321)
	log := []impl.Access{access(2, 2, 258, 4660, 0), access(2, 2, 256, 437, 0), access(1, 2, 8, 0x4321, 0)}
	checkEntered(t, c, impl.Fault{Vector: 4, PC: 4660, Word: 9}, log, func(c *impl.Cpu) {
		c.R.A[3], c.R.PC = 256, 0x4321
		layWord(*c, 258, 4660)
		layWord(*c, 256, 437)
	})
	layWord(c, 6, 65535)
	log = []impl.Access{
		access(2, 2, 258, 4660, 0), access(2, 2, 256, 437, 0), access(2, 2, 254, 22136, 0), access(2, 2, 252, 449, 0), access(2, 2, 250, 2, 0),
		access(1, 2, 6, 65535, 0),
	}
	checkEntered(t, c, impl.Fault{Vector: 3, PC: 4660, Word: 22136, Addr: 449}, log, func(c *impl.Cpu) {
		c.R.A[3], c.R.PC = 250, 65535
		for i, word := range []int{2, 449, 22136, 437, 4660} {
			layWord(*c, 250+2*i, word)
		}
	})
}

// Without Super the other stack comes into use: what was put there, and where the one that was in use was, is kept.
func TestEnterFaultWithoutSuper(t *testing.T) {
	c := cpuWith()
	c.R.Super, c.R.Flags = false, 3
	layWord(c, 10, 0x0201)
	log := []impl.Access{access(2, 2, 298, 102, 0), access(2, 2, 296, 163, 0), access(1, 2, 10, 0x0201, 0)}
	checkEntered(t, c, impl.Fault{Vector: 5, PC: 102, Word: 9}, log, func(c *impl.Cpu) {
		c.R.Super, c.R.A[3], c.R.Other, c.R.PC = true, 296, 260, 0x0201
		layWord(*c, 298, 102)
		layWord(*c, 296, 163)
	})
	layWord(c, 4, 1)
	log = []impl.Access{
		access(2, 2, 298, 100, 0), access(2, 2, 296, 163, 0), access(2, 2, 294, 22136, 0), access(2, 2, 292, 450, 0), access(2, 2, 290, 1, 0),
		access(1, 2, 4, 1, 0),
	}
	checkEntered(t, c, impl.Fault{Vector: 2, PC: 100, Word: 22136, Addr: 450, Write: true}, log, func(c *impl.Cpu) {
		c.R.Super, c.R.A[3], c.R.Other, c.R.PC = true, 290, 260, 1
		for i, word := range []int{1, 450, 22136, 163, 100} {
			layWord(*c, 290+2*i, word)
		}
	})
}

func TestEnterFaultOfOneThatTracesOrStops(t *testing.T) {
	for _, trace := range []bool{false, true} {
		for _, stop := range []bool{false, true} {
			for _, super := range []bool{false, true} {
				c := cpuWith()
				c.R.Trace, c.R.Super, c.Stop = trace, super, stop
				got := checkEnters(t, c, faultOf(18))
				if got.R.Trace || !got.R.Super || got.Stop || got.Halt {
					t.Error(trace, stop, super, got.R, got.Stop, got.Halt)
				}
				c.R.A[3], c.R.Other = 1, 1
				got = checkEnters(t, c, faultOf(18))
				if got.R.Trace || !got.R.Super || got.Stop || !got.Halt || got.R.PC != 100 {
					t.Error("halted", trace, stop, super, got.R, got.Stop, got.Halt)
				}
			}
		}
	}
}

func TestEnterFaultOfEachVectorAndStatus(t *testing.T) {
	for status := range 1024 {
		c := cpuWith()
		c.R = wantedWithStatus(c.R, status)
		vectors := vectorsOfFaults()
		f := faultOf(vectors[status%len(vectors)])
		got := checkEnters(t, c, f)
		if got.R.Mask != status/32%8 || got.R.Flags != status%32 || !got.R.Super || got.R.Trace {
			t.Fatal(status, got.R)
		}
		if status%32 == status/32 {
			for _, vector := range vectors {
				checkEnters(t, c, faultOf(vector))
			}
		}
	}
}

// checkOnStack is promise 11: what comes off the stack is the frame, the word that was pushed last first, and then the stack is as it was.
func checkOnStack(t *testing.T, c impl.Cpu, f impl.Fault) {
	t.Helper()
	frame, fine := impl.FrameOf(c, f)
	got, ok := impl.EnterFault(c, f)
	if !fine || !ok || got.Halt {
		t.Fatal(f, c.R, got.Halt, fine, ok)
	}
	if there, ok := impl.VectorAt(got, f.Vector); got.R.PC != there || !ok {
		t.Fatal(f, c.R, got.R.PC, there)
	}
	for _, word := range slices.Backward(frame) {
		after, v, did, ok := impl.PopWord(got)
		if got = after; v != word || !did || !ok {
			t.Fatal(f, c.R, frame, v, did, ok)
		}
	}
	back, _ := impl.WithStatus(got.R, frame[1])
	if back.PC = c.R.PC; !sameRegs(back, c.R) {
		t.Fatal("the status and the stacks do not come back", f, c.R, back)
	}
}

func TestWhatLiesOnTheStackIsTheFrame(t *testing.T) {
	s := &sundry{seed: 11}
	for range 3000 {
		c := sundryCpu(s)
		c.Bus.Log = c.Bus.Log[:min(len(c.Bus.Log), 380)]
		c.Stop = s.below(4) == 0
		// down to 0, up to what is fixed, and where devices are
		c.R.A[3], c.R.Other = s.of([]int{10, 12, 384, 506, 510, 512, 2 * (6 + s.below(186))}), s.of([]int{10, 12, 384, 506, 510, 512, 2 * (6 + s.below(186))})
		f := faultOf(2 + s.below(20))
		f.PC, f.Word = s.of(edgeWords), s.below(65536)
		if f.Vector <= 3 {
			f.Addr, f.Write = s.of(edgeAddresses), s.below(2) == 0
		}
		checkEnters(t, c, f)
		checkOnStack(t, c, f)
	}
}

// A frame may lie where the vector is: then it is read as it is behind the pushes.
func TestEnterFaultReadsItsVectorBehindThePushes(t *testing.T) {
	for _, k := range []struct{ a, vector, pc int }{
		{10, 4, 4660}, {12, 4, 416}, {12, 5, 4660}, {10, 3, 416}, {14, 3, 449}, {12, 3, 22136}, {14, 2, 3}, {12, 2, 449},
	} {
		c := cpuWith()
		c.R.A[3] = k.a
		f := impl.Fault{Vector: k.vector, PC: 4660}
		if k.vector <= 3 {
			f.Word, f.Addr, f.Write = 22136, 449, true
		}
		if got := checkEnters(t, c, f); got.R.PC != k.pc || got.Halt {
			t.Error(k, got.R)
		}
	}
}

// haltRow: with the stack there so many words of a long frame are put, then one fails, with this code.
type haltRow struct{ a, put, code int }

func haltRows() []haltRow {
	const odd, hole, rom = impl.BusOdd, impl.BusHole, impl.BusRom
	return []haltRow{
		{0, 0, hole}, {1, 0, odd}, {261, 0, odd}, {386, 0, rom}, {448, 0, rom}, {450, 0, hole}, {496, 0, hole}, {514, 0, hole}, {65535, 0, odd},
		{2, 1, hole}, {4, 2, hole}, {6, 3, hole}, {8, 4, hole},
		{498, 1, hole}, {500, 2, hole}, {502, 3, hole}, {504, 4, hole},
	}
}

func TestEnterFaultHaltsAtEachPush(t *testing.T) {
	for _, k := range haltRows() {
		for _, super := range []bool{false, true} {
			for _, vector := range []int{2, 3, 4, 9, 21} {
				c := cpuWith()
				c.R.Super, c.R.Trace, c.R.Flags, c.Stop = super, true, 10, super
				c.R.A[3], c.R.Other = k.a, 300
				if !super {
					c.R.A[3], c.R.Other = 300, k.a
				}
				f := faultOf(vector)
				frame := wantedFrame(c, f)
				if len(frame) <= k.put {
					continue
				}
				var log []impl.Access
				for i, word := range frame[:k.put] {
					log = append(log, access(2, 2, k.a-2-2*i, word, 0))
				}
				log = append(log, access(2, 2, (k.a-2-2*k.put+65536)%65536, frame[k.put], k.code))
				checkEntered(t, c, f, log, func(c *impl.Cpu) {
					c.Halt, c.Stop, c.R.Super, c.R.Trace = true, false, true, false
					c.R.A[3], c.R.Other = k.a-2*k.put, 300
					for i, word := range frame[:k.put] {
						layWord(*c, k.a-2-2*i, word)
					}
				})
			}
		}
	}
}

// A short frame is whole where a long one is not.
func TestShortFramesNeedLessRoom(t *testing.T) {
	for _, a := range []int{4, 6, 8, 500, 502, 504} {
		c := cpuWith()
		c.R.A[3] = a
		if got := checkEnters(t, c, faultOf(4)); got.Halt || got.R.A[3] != a-4 {
			t.Error(a, got.R)
		}
		if got := checkEnters(t, c, faultOf(3)); !got.Halt || got.R.PC != 100 {
			t.Error(a, got.R)
		}
	}
}

func TestEnterFaultWithAFullLog(t *testing.T) {
	for _, logged := range []int{390, 394, 395, 396, 397, 398, 399, 400} {
		for _, vector := range []int{2, 4} {
			for _, a := range []int{260, 8, 2, 1} {
				c := cpuWith()
				c.Bus.Log, c.R.A[3] = logRow(logged), a
				got := checkEnters(t, c, faultOf(vector))
				if len(got.Bus.Log) > 400 || !slices.Equal(got.Bus.Log[:logged], c.Bus.Log) {
					t.Error(logged, vector, a, len(got.Bus.Log))
				}
			}
		}
	}
}

func TestEnterFaultAtEveryPlaceOfTheStack(t *testing.T) {
	for a := range 530 {
		for _, place := range []int{a, 65535 - a} {
			c := cpuWith()
			c.R.A[3], c.R.Other = place, 65535-place
			checkEnters(t, c, faultOf(2))
			checkEnters(t, c, faultOf(5))
			c.R.A[3], c.R.Other, c.R.Super = c.R.Other, c.R.A[3], false
			checkEnters(t, c, faultOf(3))
			checkEnters(t, c, faultOf(18))
		}
	}
}

// wholeCpu has a vector for each exception: 65536 less 2 for each.
func wholeCpu(l ...impl.Ins) impl.Cpu {
	c := cpuWith(l...)
	for _, vector := range vectorsOfFaults() {
		layWord(c, 2*vector, 65536-2*vector)
	}
	return c
}

func TestStepWholeWithoutAFault(t *testing.T) {
	for _, x := range []impl.Ins{
		{Op: impl.OpFlow, Size: 2, Sub: 2},
		{Op: impl.OpAdd, Size: 2, Ea: now(3)},
		{Op: impl.OpFrom, Size: 2, Ea: by(impl.MdBefore, 3)},
		{Op: impl.OpJump, Size: 2, Ea: abs(300), Sub: 1},
		{Op: impl.OpFlow, Size: 2, Ea: now(256), Sub: 3},
	} {
		c := wholeCpu(x)
		want, _, _ := impl.StepCpu(c)
		got, vector, ok := impl.StepWhole(c)
		if !sameCpus(got, want) || vector != 0 || !ok {
			t.Error(x, got.R, vector, ok)
		}
		// with Trace the exception comes behind the step, at the place where it led
		c.R.Trace = true
		traced, _, _ := impl.StepCpu(c)
		entered, _ := impl.EnterFault(traced, impl.Fault{Vector: 9, PC: want.R.PC})
		got, vector, ok = impl.StepWhole(c)
		if !sameCpus(got, entered) || vector != 9 || !ok || got.R.PC != 65518 || got.Stop {
			t.Error("traced", x, got.R, vector, ok)
		}
		checkWhole(t, c)
	}
}

// tracedRow: what a step leaves on the stack, the word that was pushed last first, the vector that it tells, and PC then.
type tracedRow struct {
	x      impl.Ins
	ahead  func(*impl.Cpu)
	vector int
	pc     int
	stack  []int
}

func tracedRows() []tracedRow {
	flow := func(sub int, reg int) impl.Ins { return impl.Ins{Op: impl.OpFlow, Size: 2, Reg: reg, Sub: sub} }
	status := func(ext int) impl.Ins { return impl.Ins{Op: impl.OpStatus, Size: 2, Ea: now(ext)} }
	stop := func(ext int) impl.Ins { return impl.Ins{Op: impl.OpFlow, Size: 2, Ea: now(ext), Sub: 3} }
	div := impl.Ins{Op: impl.OpDiv, Size: 2, Ea: now(0)}
	trace := func(c *impl.Cpu) { c.R.Trace = true }
	return []tracedRow{
		{flow(2, 0), nothing, 0, 102, nil},
		{flow(2, 0), trace, 9, 65518, []int{928, 102}},
		// by 0, and traps: what traces comes behind, at their vector, with a status that traces no more
		{div, nothing, 5, 65526, []int{416, 104}},
		{div, trace, 5, 65518, []int{416, 65526, 928, 104}},
		{flow(4, 0), nothing, 18, 65500, []int{416, 102}},
		{flow(4, 0), trace, 18, 65518, []int{416, 65500, 928, 102}},
		{flow(4, 3), trace, 21, 65518, []int{416, 65494, 928, 102}},
		// others are done again: nothing traces
		{impl.Ins{Op: impl.OpTo, Size: 2, Ea: abs(449)}, trace, 3, 65530, []int{2, 449, 3264, 928, 100}},
		{impl.Ins{Op: impl.OpTo, Size: 2, Ea: abs(450)}, trace, 2, 65532, []int{2, 450, 3264, 928, 100}},
		{impl.Ins{Op: impl.OpBcd, Size: 1, Ea: by(impl.MdData, 1)}, func(c *impl.Cpu) { c.R.Trace, c.R.D[1] = true, 255 }, 4, 65528, []int{928, 100}},
		{flow(2, 0), func(c *impl.Cpu) { c.R.Trace, c.R.PC = true, 512 }, 2, 65532, []int{2, 512, 0, 928, 512}},
		{flow(2, 0), func(c *impl.Cpu) { c.R.Trace, c.R.PC = true, 101 }, 3, 65530, []int{2, 101, 0, 928, 101}},
		// what turns it on is not traced, what turns it off is, with the status behind it
		{status(928), nothing, 0, 104, nil},
		{status(416), trace, 9, 65518, []int{416, 104}},
		{status(1023), trace, 9, 65518, []int{1023, 104}},
		{stop(928), nothing, 0, 104, nil},
		{stop(416), trace, 9, 65518, []int{416, 104}},
		{stop(928), trace, 9, 65518, []int{928, 104}},
	}
}

func TestStepWholeWithTraceAndWithout(t *testing.T) {
	for _, k := range tracedRows() {
		c := wholeCpu(k.x)
		k.ahead(&c)
		after, vector, ok := impl.StepWhole(c)
		if vector != k.vector || after.R.PC != k.pc || after.R.A[3] != 260-2*len(k.stack) || after.Halt || !ok {
			t.Error(k.x, c.R, vector, after.R, after.Halt, ok)
		}
		for i, word := range k.stack {
			if v, _ := impl.PeekWord(after.Bus, after.R.A[3]+2*i); v != word {
				t.Error(k.x, c.R, i, v, word)
			}
		}
		if stops := len(k.stack) == 0 && k.x.Op == impl.OpFlow && k.x.Sub == 3; after.Stop != stops {
			t.Error("Stop", k.x, c.R, after.Stop)
		}
		checkWhole(t, c)
	}
}

// Without Super the step itself is done on the one stack, and the exceptions on the other.
func TestStepWholeWithoutSuper(t *testing.T) {
	call := impl.Ins{Op: impl.OpJump, Size: 2, Ea: abs(300), Sub: 1}
	c := wholeCpu(call)
	c.R.Super, c.R.Trace = false, true
	after, vector, ok := impl.StepWhole(c)
	if vector != 9 || !ok || after.R.A[3] != 296 || after.R.Other != 258 || !after.R.Super || after.R.Trace || after.R.PC != 65518 {
		t.Error(vector, ok, after.R)
	}
	log := []impl.Access{access(2, 2, 258, 104, 0), access(2, 2, 298, 300, 0), access(2, 2, 296, 672, 0), access(1, 2, 18, 65518, 0)}
	if !slices.Equal(after.Bus.Log, log) {
		t.Error(after.Bus.Log)
	}
	checkWhole(t, c)
	// what lets Super go: the trace comes back to the stack that was in use
	c = wholeCpu(impl.Ins{Op: impl.OpStatus, Size: 2, Ea: now(5)})
	c.R.Trace = true
	after, vector, ok = impl.StepWhole(c)
	if vector != 9 || !ok || after.R.A[3] != 256 || after.R.Other != 300 || after.R.Flags != 5 || after.R.Mask != 0 {
		t.Error(vector, ok, after.R)
	}
	checkWhole(t, c)
}

func TestStepWholeOfEachFault(t *testing.T) {
	for _, k := range slices.Concat(readFaultRows(), writeFaultRows(), otherFaultRows()) {
		for _, trace := range []bool{false, true} {
			for _, other := range []int{300, 2, 6, 8, 1} {
				c := wholeCpu(k.x)
				layWord(c, 400, 0x0c22)
				c.R.Trace, c.R.Other, c.R.Flags = trace, other, 9
				k.ahead(&c)
				_, came := checkWhole(t, c)
				if wantedFirst(came) != k.fault.Vector {
					t.Fatal(k.x, came, k.fault)
				}
				c.R.Super = false
				checkWhole(t, c)
			}
		}
	}
}

func TestStepWholeThatHalts(t *testing.T) {
	trap := impl.Ins{Op: impl.OpFlow, Size: 2, Reg: 2, Sub: 4}
	for _, k := range []struct {
		x      impl.Ins
		a      int
		trace  bool
		vector int
		then   int
		halts  bool
	}{
		{trap, 0, false, 20, 0, true}, {trap, 2, false, 20, 0, true}, {trap, 4, false, 20, 0, false},
		// it halts at the first one: the other does not come
		{trap, 0, true, 20, 0, true}, {trap, 2, true, 20, 0, true}, {trap, 504, true, 20, 496, false},
		// it halts at the one that traces
		{trap, 4, true, 20, 0, true}, {trap, 6, true, 20, 0, true}, {trap, 8, true, 20, 0, false}, {trap, 500, true, 20, 496, true}, {trap, 502, true, 20, 496, true},
		{impl.Ins{Op: impl.OpFlow, Size: 2, Sub: 2}, 1, true, 9, 1, true}, {impl.Ins{Op: impl.OpFlow, Size: 2, Sub: 2}, 2, true, 9, 0, true},
		{impl.Ins{Op: impl.OpFlow, Size: 2, Sub: 2}, 1, false, 0, 1, false},
		// one that stopped does so no more, though it halts
		{impl.Ins{Op: impl.OpFlow, Size: 2, Ea: now(256), Sub: 3}, 1, true, 9, 1, true},
	} {
		c := wholeCpu(k.x)
		c.R.A[3], c.R.Trace = k.a, k.trace
		after, vector, ok := impl.StepWhole(c)
		if vector != k.vector || after.R.A[3] != k.then || after.Halt != k.halts || after.Stop || !ok {
			t.Error(k, vector, after.R, after.Stop, after.Halt, ok)
		}
		checkWhole(t, c)
	}
}

func TestEveryGoodInstructionDoneWhole(t *testing.T) {
	s := &sundry{seed: 1111}
	kinds := map[[2]int]int{}
	for _, x := range goodInstructions() {
		rounds := 2
		if x.Op == impl.OpFlow {
			rounds = 24
		}
		for range rounds {
			c := sundryCpu(s)
			layIns(c, 100, x)
			c.R.Trace = s.below(2) == 0
			c.R.Other = s.of([]int{2, 4, 8, 10, 300, 301, 384, 500, 510, 512})
			_, came := checkWhole(t, c)
			kinds[[2]int{wantedFirst(came), len(came)}]++
		}
	}
	for _, k := range [][2]int{{0, 0}, {9, 1}, {2, 1}, {3, 1}, {4, 1}, {5, 1}, {5, 2}, {8, 1}, {18, 1}, {18, 2}, {21, 1}, {21, 2}} {
		if kinds[k] == 0 {
			t.Error("never seen", k)
		}
	}
}

func wantedWholeRun(c impl.Cpu, n int) (impl.Cpu, []int) {
	var l []int
	for range n {
		if c.Stop || c.Halt {
			break
		}
		after, came := wantedWhole(c)
		c, l = after, append(l, wantedFirst(came))
	}
	return c, l
}

func checkWholeRun(t *testing.T, c impl.Cpu, n int) (impl.Cpu, []int) {
	t.Helper()
	want, wantVectors := wantedWholeRun(c, n)
	got, vectors, ok := impl.RunWhole(c, n)
	if !ok || !slices.Equal(vectors, wantVectors) || !sameCpus(got, want) {
		t.Fatalf("RunWhole(%d) of %v = %v, %v, %v, log %v, %v, %v; want %v, %v, %v, log %v, %v", n, c.R, got.R, got.Stop, got.Halt, got.Bus.Log, vectors, ok, want.R, want.Stop, want.Halt, want.Bus.Log, wantVectors)
	}
	return got, vectors
}

// trappingCpu traps for ever: each trap comes back to the next instruction, and what traces to the one behind that.
func trappingCpu() impl.Cpu {
	c := wholeCpu(
		impl.Ins{Op: impl.OpFlow, Size: 2, Reg: 1, Sub: 4},
		impl.Ins{Op: impl.OpBranch, Size: 2, Ea: now(65532)},
	)
	resume := impl.Ins{Op: impl.OpFlow, Size: 2, Sub: 1}
	layIns(c, 150, resume)
	layWord(c, 38, 150)
	layWord(c, 18, 150)
	return c
}

func TestRunWholeSoOften(t *testing.T) {
	for _, trace := range []bool{false, true} {
		for _, n := range []int{0, 1, 2, 3, 30, 59, 60} {
			c := trappingCpu()
			c.R.Trace = trace
			if _, vectors := checkWholeRun(t, c, n); len(vectors) != n {
				t.Error(trace, n, vectors)
			}
		}
	}
	if _, vectors := checkWholeRun(t, trappingCpu(), 7); !slices.Equal(vectors, []int{19, 0, 0, 19, 0, 0, 19}) {
		t.Error(vectors)
	}
	c := trappingCpu()
	c.R.Trace = true
	// the trap and its trace, the way back from each, the branch with its trace, the way back from that
	if _, vectors := checkWholeRun(t, c, 7); !slices.Equal(vectors, []int{19, 0, 0, 9, 0, 19, 0}) {
		t.Error(vectors)
	}
}

func TestRunWholeOfNoneChangesNothing(t *testing.T) {
	for _, c := range []impl.Cpu{{}, {Stop: true}, {Halt: true}} {
		c.R, c.Bus = trappingCpu().R, fullBus(3)
		c.R.Trace = true
		if got, vectors, ok := impl.RunWhole(c, 0); !sameCpus(got, c) || len(vectors) != 0 || !ok {
			t.Error(got.R, vectors, ok)
		}
	}
}

func TestRunWholeEndsWhereItStopsOrHalts(t *testing.T) {
	for _, c := range []impl.Cpu{{Stop: true}, {Halt: true}} {
		c.R, c.Bus = trappingCpu().R, trappingCpu().Bus
		for _, n := range []int{1, 2, 60} {
			if got, vectors, ok := impl.RunWhole(c, n); !sameCpus(got, c) || len(vectors) != 0 || !ok {
				t.Error(n, got.R, vectors, ok)
			}
		}
	}
	nop, stop := impl.Ins{Op: impl.OpFlow, Size: 2, Sub: 2}, impl.Ins{Op: impl.OpFlow, Size: 2, Ea: now(256), Sub: 3}
	for _, n := range []int{3, 4, 60} {
		got, vectors := checkWholeRun(t, wholeCpu(nop, nop, stop, nop), n)
		if !slices.Equal(vectors, []int{0, 0, 0}) || !got.Stop || got.R.PC != 108 {
			t.Error(n, vectors, got.R)
		}
	}
}

// The vector leads to what can not be fetched, and that again there, each time with a long frame, until one lies on the vector itself.
func TestRunWholeUntilTheStackIsFull(t *testing.T) {
	c := cpuWith(impl.Ins{Op: impl.OpFlow, Size: 2, Sub: 4})
	c.R.A[3] = 84
	layWord(c, 36, 512)
	layWord(c, 4, 512)
	got, vectors := checkWholeRun(t, c, 60)
	if !slices.Equal(vectors, []int{18, 2, 2, 2, 2, 2, 2, 2, 2, 4}) || !got.Halt || got.R.A[3] != 0 || got.R.PC != 0 {
		t.Error(vectors, got.R, got.Halt)
	}
}

func TestRunWholeStepByStep(t *testing.T) {
	s := &sundry{seed: 111}
	for range 250 {
		c := sundryCpu(s)
		c.R.A[3], c.R.Other = s.of([]int{260, 300, 340, 384, 512}), s.of([]int{260, 300, 340, 384, 512})
		for i := range 20 {
			layIns(c, 100+4*i, sundryIns(s))
		}
		for _, vector := range vectorsOfFaults() {
			layWord(c, 2*vector, 100+4*s.below(20))
		}
		checkWholeRun(t, c, s.of([]int{5, 20, 60}))
	}
}

func refusesFault(t *testing.T, c impl.Cpu, f impl.Fault) {
	t.Helper()
	if after, ok := impl.EnterFault(c, f); !isNoCpu(after) || ok {
		t.Fatal("EnterFault", c, f, after, ok)
	}
	if frame, ok := impl.FrameOf(c, f); len(frame) != 0 || ok {
		t.Fatal("FrameOf", c, f, frame, ok)
	}
	if info, ok := impl.InfoOf(c, f); info != 0 || ok {
		t.Fatal("InfoOf", c, f, info, ok)
	}
}

func refusesWhole(t *testing.T, c impl.Cpu) {
	t.Helper()
	if after, vector, ok := impl.StepWhole(c); !isNoCpu(after) || vector != 0 || ok {
		t.Fatal("StepWhole", c, after, vector, ok)
	}
}

func refusesWholeRun(t *testing.T, c impl.Cpu, n int) {
	t.Helper()
	if after, vectors, ok := impl.RunWhole(c, n); !isNoCpu(after) || len(vectors) != 0 || ok {
		t.Fatal("RunWhole", n, c, after, vectors, ok)
	}
}

func TestExceptionsRefuseWrongFaults(t *testing.T) {
	c := cpuWith()
	for _, f := range wrongFaults() {
		if impl.GoodFault(f) {
			t.Error("GoodFault", f)
		}
		if long, ok := impl.IsLongFrame(f); long || ok {
			t.Error("IsLongFrame", f, long, ok)
		}
		refusesFault(t, c, f)
	}
}

func TestExceptionsRefuseWrongCpus(t *testing.T) {
	registers, buses := wrongRegs(), wrongBuses()
	l := []impl.Cpu{{}}
	for i, r := range registers {
		l = append(l, impl.Cpu{R: r, Bus: fullBus(1)}, impl.Cpu{R: r, Bus: fullBus(0), Stop: true}, impl.Cpu{R: r, Bus: buses[i%len(buses)]})
	}
	for _, b := range buses {
		l = append(l, impl.Cpu{R: cpuWith().R, Bus: b}, impl.Cpu{R: cpuWith().R, Bus: b, Halt: true})
	}
	for _, c := range l {
		for _, vector := range []int{2, 5} {
			refusesFault(t, c, faultOf(vector))
		}
		refusesFault(t, c, impl.Fault{Vector: 1})
		refusesWhole(t, c)
		for _, n := range []int{-1, 0, 1, 60, 61} {
			refusesWholeRun(t, c, n)
		}
		for _, vector := range []int{-1, 0, 31, 32} {
			if v, ok := impl.VectorAt(c, vector); v != 0 || ok {
				t.Fatal("VectorAt", c, vector, v, ok)
			}
		}
	}
}

func TestInfoOfRefusesShortFrames(t *testing.T) {
	for _, vector := range vectorsOfFaults() {
		if vector <= 3 {
			continue
		}
		if info, ok := impl.InfoOf(cpuWith(), faultOf(vector)); info != 0 || ok {
			t.Error(vector, info, ok)
		}
	}
}

func TestEnterFaultRefusesOneThatHalts(t *testing.T) {
	for _, vector := range vectorsOfFaults() {
		c := cpuWith()
		c.Halt = true
		if after, ok := impl.EnterFault(c, faultOf(vector)); !isNoCpu(after) || ok {
			t.Error(vector, after, ok)
		}
	}
}

func TestStepWholeRefusesOneThatStopsOrHalts(t *testing.T) {
	for _, c := range []impl.Cpu{{Stop: true}, {Halt: true}, {Stop: true, Halt: true}} {
		c.R, c.Bus = trappingCpu().R, trappingCpu().Bus
		for _, trace := range []bool{false, true} {
			c.R.Trace = trace
			refusesWhole(t, c)
		}
		c.R.PC = 1
		refusesWhole(t, c)
	}
}

func TestRunWholeRefusesWrongNumbers(t *testing.T) {
	for _, n := range []int{-1, -2, -60, 61, 62, 120, 1 << 32, math.MaxInt, math.MinInt} {
		refusesWholeRun(t, trappingCpu(), n)
		c := trappingCpu()
		c.Stop = true
		refusesWholeRun(t, c, n)
	}
}

func TestVectorAtRefusesWrongNumbers(t *testing.T) {
	for _, vector := range []int{math.MinInt, -1 << 63 / 2, -32768, -1, 32, 224, 248, 32768, 1 << 62, math.MaxInt} {
		if v, ok := impl.VectorAt(cpuWith(), vector); v != 0 || ok {
			t.Error(vector, v, ok)
		}
	}
}

// answersOfTraps: what each function that answers a processor answers of this one, halted ones among them.
func answersOfTraps(c impl.Cpu) []impl.Cpu {
	short, _ := impl.EnterFault(c, faultOf(4))
	long, _ := impl.EnterFault(c, faultOf(2))
	high := c
	high.R.Other, high.R.Super = 1, false
	halted, _ := impl.EnterFault(high, faultOf(3))
	whole, _, _ := impl.StepWhole(c)
	high.R.PC = 1
	missed, _, _ := impl.StepWhole(high)
	none, _, _ := impl.RunWhole(c, 0)
	many, _, _ := impl.RunWhole(c, 60)
	return []impl.Cpu{short, long, halted, whole, missed, none, many}
}

func listsOfTraps(c impl.Cpu) [][]int {
	short, _ := impl.FrameOf(c, faultOf(4))
	long, _ := impl.FrameOf(c, faultOf(2))
	_, vectors, _ := impl.RunWhole(c, 60)
	return [][]int{short, long, vectors}
}

func TestExceptionsWriteIntoNone(t *testing.T) {
	for _, logged := range []int{0, 1, 398, 399, 400} {
		for _, x := range memoryIns() {
			for _, trace := range []bool{false, true} {
				c, m := roomyCpu(logged)
				layIns(c, 100, x)
				c.R.Trace = trace
				want := m.clone()
				answersOfTraps(c)
				listsOfTraps(c)
				impl.InfoOf(c, faultOf(2))
				impl.VectorAt(c, 4)
				if !m.same(want) {
					t.Fatal("an argument's memory was changed", logged, x)
				}
			}
		}
	}
}

func TestExceptionsAnswerNewMemory(t *testing.T) {
	for _, logged := range []int{0, 1, 399, 400} {
		for _, x := range memoryIns() {
			c, m := roomyCpu(logged)
			layIns(c, 100, x)
			c.R.Trace = logged == 1
			plain, plainLists := answersOfTraps(cloneCpu(c)), listsOfTraps(cloneCpu(c))
			first, second := answersOfTraps(c), answersOfTraps(c)
			lists, others := listsOfTraps(c), listsOfTraps(c)
			m.spoil()
			for _, d := range second {
				memoryOfCpu(d).spoil()
			}
			for _, l := range others {
				spoil(l)
			}
			for i, want := range plainLists {
				if !slices.Equal(lists[i], want) {
					t.Fatal("a list shares memory", logged, x, i)
				}
			}
			for i, want := range plain {
				if !sameCpus(first[i], want) {
					t.Fatal("an answer shares memory", logged, x, i)
				}
				memoryOfCpu(first[i]).spoil()
			}
		}
	}
}

// The lists of one answer are four of numbers, though an argument's may be one.
func TestNoTwoListsOfAnExceptionShareMemory(t *testing.T) {
	c, _ := roomyCpu(2)
	layIns(c, 100, impl.Ins{Op: impl.OpFlow, Size: 2, Sub: 4})
	c.R.D = c.R.A
	for i, d := range answersOfTraps(c) {
		want := cloneCpu(d)
		spoil(d.R.D)
		if !slices.Equal(d.R.A, want.R.A) || !slices.Equal(d.Bus.Bytes, want.Bus.Bytes) {
			t.Fatal("D is shared", i)
		}
		spoil(d.R.A)
		if !slices.Equal(d.Bus.Bytes, want.Bus.Bytes) {
			t.Fatal("A is shared", i)
		}
	}
	after, vectors, _ := impl.RunWhole(c, 60)
	want := cloneCpu(after)
	spoil(vectors)
	if !sameCpus(after, want) || len(vectors) == 0 {
		t.Error("the vectors are shared", vectors)
	}
}
