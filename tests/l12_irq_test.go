package tests

import (
	"math"
	"slices"
	"testing"

	"loop.example/g00389/impl"
)

// Who is heard is asked here level by level, from the highest one down; what a boundary does is worked out by the exceptions and steps
// of chapter 11's tests, and told in numbers for the named edges.

func cloneIrq(q impl.Irq) impl.Irq {
	q.Cpu = cloneCpu(q.Cpu)
	return q
}

func sameIrqs(a impl.Irq, b impl.Irq) bool {
	return sameCpus(a.Cpu, b.Cpu) && a.Line == b.Line && a.Edge == b.Edge
}

func isNoIrq(q impl.Irq) bool { return sameIrqs(q, impl.Irq{}) }

func wantedPending(q impl.Irq) int {
	for _, level := range []int{7, 6, 5, 4, 3, 2, 1} {
		rose := level == 7 && q.Edge
		told := level == q.Line
		for mask := 7; mask >= level; mask-- {
			told = told && q.Cpu.R.Mask != mask
		}
		if rose || told {
			return level
		}
	}
	return 0
}

func wantedLine(q impl.Irq, level int) impl.Irq {
	q = cloneIrq(q)
	q.Edge = q.Edge || [2]int{q.Line, level} != [2]int{7, 7} && level == 7
	q.Line = level
	return q
}

func wantedBoundary(q impl.Irq) (impl.Irq, int) {
	q = cloneIrq(q)
	level := wantedPending(q)
	switch {
	case q.Cpu.Halt || q.Cpu.Stop && level == 0:
		return q, -1
	case level == 0:
		after, came := wantedWhole(q.Cpu)
		q.Cpu = after
		return q, wantedFirst(came)
	}
	q.Cpu = wantedEntered(q.Cpu, impl.Fault{Vector: 10 + level, PC: q.Cpu.R.PC})
	q.Cpu.R.Mask = level
	q.Edge = q.Edge && level < 7
	return q, 100 + level
}

func wantedPlay(q impl.Irq, l []int) (impl.Irq, []int) {
	var told []int
	for _, v := range l {
		if v == -1 {
			after, tells := wantedBoundary(q)
			q, told = after, append(told, tells)
		} else if slices.Contains(levels(), v) {
			q = wantedLine(q, v)
		}
	}
	return q, told
}

func levels() []int { return []int{0, 1, 2, 3, 4, 5, 6, 7} }

func checkBoundary(t *testing.T, q impl.Irq) (impl.Irq, int) {
	t.Helper()
	want, wantTold := wantedBoundary(q)
	got, told, ok := impl.Boundary(q)
	if !ok || told != wantTold || !sameIrqs(got, want) {
		t.Fatalf("Boundary of %v, %v, %v, line %d, %v: %v, %v, %v, log %v, line %d, %v, %d, %v; want %v, %v, %v, log %v, line %d, %v, %d",
			q.Cpu.R, q.Cpu.Stop, q.Cpu.Halt, q.Line, q.Edge, got.Cpu.R, got.Cpu.Stop, got.Cpu.Halt, got.Cpu.Bus.Log, got.Line, got.Edge, told, ok,
			want.Cpu.R, want.Cpu.Stop, want.Cpu.Halt, want.Cpu.Bus.Log, want.Line, want.Edge, wantTold)
	}
	return got, told
}

func checkRunIrq(t *testing.T, q impl.Irq, n int) (impl.Irq, []int) {
	t.Helper()
	want, wantTold := wantedPlay(q, slices.Repeat([]int{-1}, n))
	got, told, ok := impl.RunIrq(q, n)
	if !ok || !slices.Equal(told, wantTold) || !sameIrqs(got, want) {
		t.Fatalf("RunIrq(%d) of %v, line %d, %v: %v, line %d, %v, %v, %v; want %v, line %d, %v, %v", n, q.Cpu.R, q.Line, q.Edge, got.Cpu.R, got.Line, got.Edge, told, ok, want.Cpu.R, want.Line, want.Edge, wantTold)
	}
	return got, told
}

func checkPlayIrq(t *testing.T, c impl.Cpu, l []int) (impl.Irq, []int) {
	t.Helper()
	want, wantTold := wantedPlay(impl.Irq{Cpu: c}, l)
	got, told, ok := impl.PlayIrq(c, l)
	if !ok || !slices.Equal(told, wantTold) || !sameIrqs(got, want) {
		t.Fatalf("PlayIrq of %v, %v: %v, line %d, %v, %v, %v; want %v, line %d, %v, %v", c.R, l, got.Cpu.R, got.Line, got.Edge, told, ok, want.Cpu.R, want.Line, want.Edge, wantTold)
	}
	return got, told
}

// waysToBe: running, stopped and halted, each with a processor of its own.
func waysToBe(make func() impl.Cpu) []impl.Cpu {
	runs, stops, halts := make(), make(), make()
	stops.Stop, halts.Halt = true, true
	return []impl.Cpu{runs, stops, halts}
}

// restingCpu does nothing for ever, from 100 on.
func restingCpu() impl.Cpu {
	return wholeCpu(impl.Ins{Op: impl.OpFlow, Size: 2, Sub: 2}, impl.Ins{Op: impl.OpBranch, Size: 2, Ea: now(65532)})
}

func withMask(c impl.Cpu, mask int) impl.Cpu {
	c.R.Mask = mask
	return c
}

func TestConstantsOfInterrupts(t *testing.T) {
	if got := []int{impl.MaxLines, impl.VecAuto}; !slices.Equal(got, []int{60, 10}) {
		t.Error(got)
	}
}

func TestNewIrq(t *testing.T) {
	for _, logged := range []int{0, 3, 400} {
		for _, c := range waysToBe(func() impl.Cpu { return impl.Cpu{R: unlikeRegs(), Bus: fullBus(logged)} }) {
			q, ok := impl.NewIrq(c)
			if !ok || q.Line != 0 || q.Edge || !sameCpus(q.Cpu, c) || !impl.GoodIrq(q) {
				t.Error(logged, c.Stop, c.Halt, q.Line, q.Edge, ok)
			}
		}
	}
	for _, r := range edgeRegs() {
		c := impl.Cpu{R: r, Bus: fullBus(1)}
		if q, ok := impl.NewIrq(c); !ok || !sameIrqs(q, impl.Irq{Cpu: c}) {
			t.Fatal(r, q, ok)
		}
	}
}

func TestGoodIrqs(t *testing.T) {
	for _, c := range waysToBe(restingCpu) {
		for _, edge := range []bool{false, true} {
			for line := -20; line <= 20; line++ {
				if good := impl.GoodIrq(impl.Irq{Cpu: c, Line: line, Edge: edge}); good != slices.Contains(levels(), line) {
					t.Error(c.Stop, c.Halt, line, edge, good)
				}
			}
			for _, line := range wrongLevels {
				if impl.GoodIrq(impl.Irq{Cpu: c, Line: line, Edge: edge}) {
					t.Error(line, edge)
				}
			}
		}
	}
}

func TestSetLineOfEachLevel(t *testing.T) {
	for _, c := range waysToBe(restingCpu) {
		for _, was := range levels() {
			for _, edge := range []bool{false, true} {
				for _, level := range levels() {
					q := impl.Irq{Cpu: c, Line: was, Edge: edge}
					got, ok := impl.SetLine(q, level)
					if !ok || got.Line != level || !sameCpus(got.Cpu, c) {
						t.Fatal(q.Line, edge, level, got.Line, ok)
					}
					if rises := was < 7 && level == 7; got.Edge != (edge || rises) {
						t.Error(was, edge, level, got.Edge)
					}
					if !sameIrqs(got, wantedLine(q, level)) {
						t.Error("all of it", was, edge, level)
					}
				}
			}
		}
	}
}

// A rise is kept though the line falls again, and though Mask is 7; a line that stays where it is rises no more.
func TestSetLineOneBehindTheOther(t *testing.T) {
	for _, k := range []struct {
		l    []int
		edge bool
	}{
		{nil, false}, {[]int{0}, false}, {[]int{6}, false}, {[]int{7}, true}, {[]int{7, 7}, true}, {[]int{7, 0}, true}, {[]int{7, 0, 7}, true}, {[]int{1, 2, 3, 4, 5, 6}, false}, {[]int{6, 7, 6, 5}, true},
	} {
		q, _ := impl.NewIrq(withMask(restingCpu(), 7))
		for _, level := range k.l {
			q, _ = impl.SetLine(q, level)
		}
		if q.Edge != k.edge {
			t.Error(k, q.Edge)
		}
	}
}

func TestPendingOfNamedEdges(t *testing.T) {
	for _, k := range []struct {
		line, mask int
		edge       bool
		level      int
	}{
		{0, 0, false, 0}, {0, 7, false, 0}, {1, 0, false, 1}, {1, 1, false, 0}, {1, 2, false, 0}, {5, 4, false, 5}, {5, 5, false, 0}, {5, 6, false, 0},
		{6, 5, false, 6}, {6, 6, false, 0}, {6, 7, false, 0}, {7, 6, false, 7}, {7, 0, false, 7}, {7, 7, false, 0},
		{7, 7, true, 7}, {7, 6, true, 7}, {0, 7, true, 7}, {0, 0, true, 7}, {3, 2, true, 7}, {3, 3, true, 7}, {3, 7, true, 7},
	} {
		for _, c := range waysToBe(restingCpu) {
			q := impl.Irq{Cpu: withMask(c, k.mask), Line: k.line, Edge: k.edge}
			if level, ok := impl.PendingOf(q); level != k.level || !ok {
				t.Error(k, c.Stop, c.Halt, level, ok)
			}
		}
	}
}

func TestPendingOfEachLineAndMask(t *testing.T) {
	for status := range 1024 {
		c := restingCpu()
		c.R = wantedWithStatus(c.R, status)
		for _, line := range levels() {
			for _, edge := range []bool{false, true} {
				q := impl.Irq{Cpu: c, Line: line, Edge: edge}
				if level, ok := impl.PendingOf(q); level != wantedPending(q) || !ok {
					t.Fatal(status, line, edge, level, ok)
				}
			}
		}
	}
}

func TestBoundaryOfOneThatHalts(t *testing.T) {
	for _, line := range levels() {
		for _, edge := range []bool{false, true} {
			for _, mask := range levels() {
				q := impl.Irq{Cpu: withMask(restingCpu(), mask), Line: line, Edge: edge}
				q.Cpu.Halt, q.Cpu.R.Trace = true, mask%2 == 0
				if got, told, ok := impl.Boundary(q); !sameIrqs(got, q) || told != -1 || !ok {
					t.Error(line, edge, mask, told, ok)
				}
				checkBoundary(t, q)
			}
		}
	}
}

// checkHeard: behind a boundary is just what is told, and the log goes on with these accesses.
func checkHeard(t *testing.T, q impl.Irq, wantTold int, log []impl.Access, tell func(*impl.Irq)) {
	t.Helper()
	want := cloneIrq(q)
	want.Cpu.Bus.Log = append(want.Cpu.Bus.Log, log...)
	tell(&want)
	if got, told, ok := impl.Boundary(q); !ok || told != wantTold || !sameIrqs(got, want) {
		t.Errorf("Boundary of %v, line %d, %v: %v, %v, %v, log %v, line %d, %v, %d, %v; want %v, %v, %v, log %v, line %d, %v, %d", q.Cpu.R, q.Line, q.Edge,
			got.Cpu.R, got.Cpu.Stop, got.Cpu.Halt, got.Cpu.Bus.Log, got.Line, got.Edge, told, ok, want.Cpu.R, want.Cpu.Stop, want.Cpu.Halt, want.Cpu.Bus.Log, want.Line, want.Edge, wantTold)
	}
	checkBoundary(t, q)
}

// With Super and Mask 2 and FlagX and FlagC the status that was is 337; the vector of level 5 lies at 30.
func TestBoundaryWithSuper(t *testing.T) {
	q := impl.Irq{Cpu: withMask(restingCpu(), 2), Line: 5}
	q.Cpu.R.Flags = 17
	log := []impl.Access{access(2, 2, 258, 100, 0), access(2, 2, 256, 337, 0), access(1, 2, 30, 65506, 0)}
	checkHeard(t, q, 105, log, func(q *impl.Irq) {
		q.Cpu.R.A[3], q.Cpu.R.PC, q.Cpu.R.Mask = 256, 65506, 5
		layWord(q.Cpu, 258, 100)
		layWord(q.Cpu, 256, 337)
	})
	// the trace that was is in the frame, and is no more
	q.Cpu.R.Trace = true
	log[1].Value = 849
	checkHeard(t, q, 105, log, func(q *impl.Irq) {
		q.Cpu.R.A[3], q.Cpu.R.PC, q.Cpu.R.Mask, q.Cpu.R.Trace = 256, 65506, 5, false
		layWord(q.Cpu, 258, 100)
		layWord(q.Cpu, 256, 849)
	})
}

// Without Super the other stack comes into use; the vector of level 1 lies at 22, that of level 7 at 34.
func TestBoundaryWithoutSuper(t *testing.T) {
	q := impl.Irq{Cpu: withMask(restingCpu(), 0), Line: 1}
	q.Cpu.R.Super, q.Cpu.R.PC = false, 65535
	log := []impl.Access{access(2, 2, 298, 65535, 0), access(2, 2, 296, 0, 0), access(1, 2, 22, 65514, 0)}
	checkHeard(t, q, 101, log, func(q *impl.Irq) {
		q.Cpu.R.A[3], q.Cpu.R.Other, q.Cpu.R.PC, q.Cpu.R.Mask, q.Cpu.R.Super = 296, 260, 65514, 1, true
		layWord(q.Cpu, 298, 65535)
		layWord(q.Cpu, 296, 0)
	})
	q.Edge, q.Cpu.R.Mask, q.Cpu.Stop = true, 7, true
	log = []impl.Access{access(2, 2, 298, 65535, 0), access(2, 2, 296, 224, 0), access(1, 2, 34, 65502, 0)}
	checkHeard(t, q, 107, log, func(q *impl.Irq) {
		q.Cpu.R.A[3], q.Cpu.R.Other, q.Cpu.R.PC, q.Cpu.R.Super = 296, 260, 65502, true
		q.Cpu.Stop, q.Edge = false, false
		layWord(q.Cpu, 298, 65535)
		layWord(q.Cpu, 296, 224)
	})
}

func TestBoundaryOfEachLevelAndMask(t *testing.T) {
	for _, line := range levels() {
		for _, mask := range levels() {
			for way := range 16 {
				q := impl.Irq{Cpu: withMask(restingCpu(), mask), Line: line, Edge: way&1 != 0}
				q.Cpu.R.Super, q.Cpu.R.Trace, q.Cpu.Stop = way&2 != 0, way&4 != 0, way&8 != 0
				got, told := checkBoundary(t, q)
				level := wantedPending(q)
				if level == 0 {
					continue
				}
				if told != 100+level || got.Cpu.R.Mask != level || got.Cpu.R.PC != 65536-2*(10+level) || !got.Cpu.R.Super || got.Cpu.R.Trace || got.Cpu.Stop || got.Cpu.Halt {
					t.Error(line, mask, way, told, got.Cpu.R)
				}
				if got.Line != line || got.Edge != (q.Edge && level < 7) {
					t.Error(line, mask, way, got.Line, got.Edge)
				}
			}
		}
	}
}

// What lies on the stack is the frame of chapter 11, with the status that was: it leads back to where the line was heard.
func TestWhatWasHeardComesBack(t *testing.T) {
	for status := range 1024 {
		for _, level := range []int{1, 4, 7} {
			c := restingCpu()
			c.R = wantedWithStatus(c.R, status)
			layIns(c, 150, impl.Ins{Op: impl.OpFlow, Size: 2, Sub: 1})
			layWord(c, 2*(10+level), 150)
			q := impl.Irq{Cpu: c, Line: level, Edge: level == 7}
			if wantedPending(q) == 0 {
				continue
			}
			frame, _ := impl.FrameOf(c, impl.Fault{Vector: 10 + level, PC: 100})
			got, _ := checkBoundary(t, q)
			top, _ := impl.PeekWord(got.Cpu.Bus, got.Cpu.R.A[3])
			next, _ := impl.PeekWord(got.Cpu.Bus, got.Cpu.R.A[3]+2)
			if !slices.Equal([]int{next, top}, frame) || top != status || next != 100 {
				t.Fatal(status, level, next, top, frame)
			}
			back, told := checkBoundary(t, got)
			if told != 0 || !sameRegs(back.Cpu.R, c.R) {
				t.Fatal("it does not come back", status, level, told, back.Cpu.R, c.R)
			}
		}
	}
}

// Level 7 is heard once for each rise, though the line stays, falls, or Mask is 7.
func TestSevenIsHeardOnce(t *testing.T) {
	for _, k := range []struct{ l, told []int }{
		{[]int{7, -1, -1, -1}, []int{107, 0, 0}},
		{[]int{7, 7, -1, -1}, []int{107, 0}},
		{[]int{7, -1, 7, -1}, []int{107, 0}},
		{[]int{7, -1, 6, 7, -1, -1}, []int{107, 107, 0}},
		{[]int{7, -1, 0, -1, 7, -1, -1}, []int{107, 0, 107, 0}},
		{[]int{7, 0, -1, -1}, []int{107, 0}},
		{[]int{7, 0, 7, 0, 7, -1, -1}, []int{107, 0}},
		{[]int{6, -1, 7, -1, 6, -1}, []int{0, 107, 0}},
		{[]int{7, 3, 7, -1, -1, 5, 7, -1, -1}, []int{107, 0, 107, 0}},
	} {
		c := withMask(restingCpu(), 7)
		layWord(c, 34, 100)
		if _, told := checkPlayIrq(t, c, k.l); !slices.Equal(told, k.told) {
			t.Error(k, told)
		}
	}
}

// Where Mask is lowered again while the line is at 7 it is above Mask as any level is.
func TestSevenAboveTheMask(t *testing.T) {
	q := impl.Irq{Cpu: withMask(restingCpu(), 6), Line: 7}
	got, told := checkBoundary(t, q)
	if told != 107 || got.Edge || got.Cpu.R.Mask != 7 {
		t.Error(told, got.Edge, got.Cpu.R)
	}
	got.Cpu.R.PC = 100
	if got, told = checkBoundary(t, got); told != 0 {
		t.Error("heard at Mask 7", told)
	}
	got.Cpu.R.Mask, got.Cpu.R.PC = 0, 100
	if _, told = checkBoundary(t, got); told != 107 {
		t.Error("not heard above Mask 0", told)
	}
}

// With an Edge level 7 is first; what the line tells then must be above 7's mask, until that is gone.
func TestAnEdgeIsHeardAheadOfTheLine(t *testing.T) {
	c := withMask(restingCpu(), 0)
	layIns(c, 150, impl.Ins{Op: impl.OpFlow, Size: 2, Sub: 1})
	for _, level := range []int{3, 7} {
		layWord(c, 2*(10+level), 150)
	}
	got, told := checkPlayIrq(t, c, []int{7, 3, -1, -1, -1, -1, 0, -1})
	if !slices.Equal(told, []int{107, 0, 103, 0, 0}) || got.Cpu.R.Mask != 0 || got.Cpu.R.PC != 102 || got.Cpu.R.A[3] != 260 {
		t.Error(told, got.Cpu.R)
	}
}

func TestBoundaryOfOneThatStops(t *testing.T) {
	for _, mask := range levels() {
		for _, line := range levels() {
			for _, trace := range []bool{false, true} {
				q := impl.Irq{Cpu: withMask(restingCpu(), mask), Line: line}
				q.Cpu.Stop, q.Cpu.R.Trace = true, trace
				got, told := checkBoundary(t, q)
				if line > mask {
					if told != 100+line || got.Cpu.Stop || got.Cpu.R.Mask != line {
						t.Error(mask, line, told, got.Cpu.Stop)
					}
				} else if told != -1 || !sameIrqs(got, q) {
					t.Error(mask, line, told, got.Cpu.R)
				}
			}
		}
	}
}

// One that stops waits until it hears something, and goes on behind the instruction that stopped it.
func TestOneThatStopsGoesOnWhereItHears(t *testing.T) {
	stop, nop := impl.Ins{Op: impl.OpFlow, Size: 2, Ea: now(256 + 32*3), Sub: 3}, impl.Ins{Op: impl.OpFlow, Size: 2, Sub: 2}
	c := wholeCpu(stop, nop)
	layIns(c, 150, impl.Ins{Op: impl.OpFlow, Size: 2, Sub: 1})
	layWord(c, 28, 150)
	got, told := checkPlayIrq(t, c, []int{-1, -1, 3, -1, 4, -1, 0, -1, -1})
	if !slices.Equal(told, []int{0, -1, -1, 104, 0, 0}) || got.Cpu.R.PC != 106 || got.Cpu.Stop || got.Cpu.R.Mask != 3 {
		t.Error(told, got.Cpu.R, got.Cpu.Stop)
	}
}

// One that runs tells what StepWhole tells, whatever the line is that is not heard.
func TestBoundaryOfOneThatRuns(t *testing.T) {
	for _, k := range slices.Concat(readFaultRows(), writeFaultRows(), otherFaultRows()) {
		for _, trace := range []bool{false, true} {
			c := wholeCpu(k.x)
			layWord(c, 400, 0x0c22)
			c.R.Trace = trace
			k.ahead(&c)
			for _, line := range levels() {
				if line > c.R.Mask {
					continue
				}
				want, vector, _ := impl.StepWhole(c)
				got, told := checkBoundary(t, impl.Irq{Cpu: c, Line: line})
				if told != vector || !sameIrqs(got, impl.Irq{Cpu: want, Line: line}) || told != k.fault.Vector {
					t.Fatal(k.x, line, told, vector)
				}
			}
		}
	}
	for _, k := range tracedRows() {
		c := wholeCpu(k.x)
		k.ahead(&c)
		if got, told := checkBoundary(t, impl.Irq{Cpu: c, Line: 5}); told != k.vector || got.Line != 5 || got.Cpu.R.PC != k.pc {
			t.Error(k.x, told, got.Cpu.R)
		}
	}
}

// What lets Mask fall is heard behind its step, not ahead of it.
func TestWhatLowersTheMaskIsDoneFirst(t *testing.T) {
	c := wholeCpu(impl.Ins{Op: impl.OpStatus, Size: 2, Ea: now(256 + 32*4)})
	got, told := checkPlayIrq(t, c, []int{5, -1, -1})
	if !slices.Equal(told, []int{0, 105}) || got.Cpu.R.Mask != 5 {
		t.Error(told, got.Cpu.R)
	}
	if pc, _ := impl.PeekWord(got.Cpu.Bus, 258); pc != 104 {
		t.Error(pc)
	}
}

// A trace comes with its step: the line is heard ahead of the step, or behind the exception.
func TestALineAndATrace(t *testing.T) {
	c := withMask(restingCpu(), 0)
	c.R.Trace = true
	got, told := checkPlayIrq(t, c, []int{-1, 2, -1})
	if !slices.Equal(told, []int{9, 102}) || got.Cpu.R.A[3] != 252 {
		t.Error(told, got.Cpu.R)
	}
	for i, want := range []int{256, 65518, 768, 102} {
		if v, _ := impl.PeekWord(got.Cpu.Bus, 252+2*i); v != want {
			t.Error(i, v, want)
		}
	}
}

// It halts at the first or at the second word: Mask is the level then too, and an Edge is no more.
func TestAnEnteringThatHalts(t *testing.T) {
	for _, k := range haltRows() {
		for _, level := range []int{1, 6, 7} {
			for _, super := range []bool{false, true} {
				q := impl.Irq{Cpu: withMask(restingCpu(), 0), Line: min(level, 6), Edge: level == 7}
				q.Cpu.R.Super, q.Cpu.R.Trace, q.Cpu.R.Flags, q.Cpu.Stop = super, true, 10, super
				q.Cpu.R.A[3], q.Cpu.R.Other = k.a, 300
				if !super {
					q.Cpu.R.A[3], q.Cpu.R.Other = 300, k.a
				}
				frame := []int{100, wantedStatus(q.Cpu.R)}
				if k.put >= len(frame) {
					continue
				}
				var log []impl.Access
				for i, word := range frame[:k.put] {
					log = append(log, access(2, 2, k.a-2-2*i, word, 0))
				}
				log = append(log, access(2, 2, (k.a-2-2*k.put+65536)%65536, frame[k.put], k.code))
				checkHeard(t, q, 100+level, log, func(q *impl.Irq) {
					q.Cpu.Halt, q.Cpu.Stop, q.Edge = true, false, false
					q.Cpu.R.Super, q.Cpu.R.Trace, q.Cpu.R.Mask = true, false, level
					q.Cpu.R.A[3], q.Cpu.R.Other = k.a-2*k.put, 300
					for i, word := range frame[:k.put] {
						layWord(q.Cpu, k.a-2-2*i, word)
					}
				})
			}
		}
	}
}

// Behind an entering that halts nothing is heard any more, also not another rise.
func TestNothingBehindAnEnteringThatHalts(t *testing.T) {
	c := withMask(restingCpu(), 7)
	c.R.A[3] = 1
	got, told := checkPlayIrq(t, c, []int{-1, 7, -1, -1, 0, 7, -1})
	if !slices.Equal(told, []int{0, 107, -1, -1}) || !got.Cpu.Halt || !got.Edge || got.Cpu.R.PC != 102 || got.Cpu.R.A[3] != 1 {
		t.Error(told, got.Cpu.R, got.Cpu.Halt, got.Edge)
	}
}

func TestHeardWithAFullLog(t *testing.T) {
	for _, logged := range []int{396, 397, 398, 399, 400} {
		for _, a := range []int{260, 2, 1} {
			q := impl.Irq{Cpu: withMask(restingCpu(), 3), Line: 4}
			q.Cpu.Bus.Log, q.Cpu.R.A[3] = logRow(logged), a
			if got, told := checkBoundary(t, q); told != 104 || len(got.Cpu.Bus.Log) > 400 || got.Cpu.R.Mask != 4 {
				t.Error(logged, a, told, len(got.Cpu.Bus.Log))
			}
		}
	}
}

func TestHeardAtEveryPlaceOfTheStack(t *testing.T) {
	for a := range 530 {
		for _, place := range []int{a, 65535 - a} {
			q := impl.Irq{Cpu: withMask(restingCpu(), a%5), Line: 5 + a%3, Edge: a%7 == 0}
			q.Cpu.R.A[3], q.Cpu.R.Other, q.Cpu.R.Super = place, 65535-place, a%2 == 0
			checkBoundary(t, q)
			q.Cpu.R.Super = a%2 != 0
			checkBoundary(t, q)
		}
	}
}

func TestRunIrqSoOften(t *testing.T) {
	for _, n := range []int{0, 1, 2, 3, 30, 59, 60} {
		for _, c := range slices.Concat(waysToBe(restingCpu), waysToBe(trappingCpu)) {
			for _, line := range levels() {
				for _, edge := range []bool{false, true} {
					q := impl.Irq{Cpu: c, Line: line, Edge: edge}
					got, told := checkRunIrq(t, q, n)
					if len(told) != n {
						t.Error(n, line, told)
					}
					if n == 0 && !sameIrqs(got, q) {
						t.Error("none changes something", line)
					}
				}
			}
		}
	}
}

func TestRunIrqTellsEachInOrder(t *testing.T) {
	if _, told := checkRunIrq(t, impl.Irq{Cpu: trappingCpu(), Line: 5}, 7); !slices.Equal(told, []int{19, 0, 0, 19, 0, 0, 19}) {
		t.Error(told)
	}
	// the line is heard once: the mask is its level until it comes back
	q := impl.Irq{Cpu: trappingCpu(), Line: 6}
	layWord(q.Cpu, 32, 100)
	if _, told := checkRunIrq(t, q, 5); !slices.Equal(told, []int{106, 19, 0, 0, 19}) {
		t.Error(told)
	}
	// it comes back to a mask that is less: the line is heard again and again
	layWord(q.Cpu, 32, 150)
	if got, told := checkRunIrq(t, q, 6); !slices.Equal(told, []int{106, 0, 106, 0, 106, 0}) || got.Cpu.R.PC != 100 {
		t.Error(told)
	}
	stop := impl.Ins{Op: impl.OpFlow, Size: 2, Ea: now(256 + 32*6), Sub: 3}
	if got, told := checkRunIrq(t, impl.Irq{Cpu: wholeCpu(stop), Line: 5}, 4); !slices.Equal(told, []int{0, -1, -1, -1}) || !got.Cpu.Stop {
		t.Error(told)
	}
	if _, told := checkRunIrq(t, impl.Irq{Cpu: wholeCpu(stop), Edge: true}, 3); told[0] != 107 {
		t.Error(told)
	}
	halted := impl.Irq{Cpu: restingCpu(), Line: 7, Edge: true}
	halted.Cpu.R.A[3] = 2
	if got, told := checkRunIrq(t, halted, 3); !slices.Equal(told, []int{107, -1, -1}) || !got.Cpu.Halt {
		t.Error(told)
	}
}

func TestPlayIrqOfNumbers(t *testing.T) {
	for _, k := range []struct {
		l, told []int
		line    int
		edge    bool
	}{
		{nil, nil, 0, false},
		{[]int{0}, nil, 0, false},
		{[]int{1, 2, 3}, nil, 3, false},
		{[]int{7}, nil, 7, true},
		{[]int{7, 4}, nil, 4, true},
		{[]int{-1}, []int{0}, 0, false},
		{[]int{-1, -1, -1}, []int{0, 0, 0}, 0, false},
		{[]int{5, -1}, []int{0}, 5, false},
		{[]int{6, -1}, []int{106}, 6, false},
		{[]int{-1, 6, -1}, []int{0, 106}, 6, false},
		{[]int{6, 5, -1}, []int{0}, 5, false},
		{[]int{6, 8, -1}, []int{106}, 6, false},
		{[]int{6, -2, -1}, []int{106}, 6, false},
		{[]int{8, 9, 70, 107, -2, -7, -107, 1 << 32, 1<<32 + 7, 1<<32 - 1, 1 << 62, math.MaxInt, math.MinInt}, nil, 0, false},
		{[]int{7, 8, 7, -1}, []int{107}, 7, false},
		{[]int{7, -1, -2, 15, 23, 7}, []int{107}, 7, false},
	} {
		got, told := checkPlayIrq(t, restingCpu(), k.l)
		if !slices.Equal(told, k.told) || got.Line != k.line || got.Edge != k.edge {
			t.Error(k, told, got.Line, got.Edge)
		}
	}
}

func TestPlayIrqOfMostNumbers(t *testing.T) {
	for _, v := range []int{-1, 0, 5, 7, 8, -2, math.MaxInt} {
		for _, length := range []int{59, 60} {
			told := length
			if v != -1 {
				told = 0
			}
			for _, c := range waysToBe(restingCpu) {
				if _, l := checkPlayIrq(t, c, slices.Repeat([]int{v}, length)); len(l) != told {
					t.Error(v, length, l)
				}
			}
		}
		for _, length := range []int{61, 62, 120, 1000} {
			refusesPlayIrq(t, restingCpu(), slices.Repeat([]int{v}, length))
		}
	}
}

// history: what is known of a line from the numbers alone.
type history struct {
	line  int
	risen bool
}

func (h *history) take(level int) {
	h.risen = h.risen || level == 7 && h.line != 7
	h.line = level
}

// checkWhoIsHeard is promise 12: boundary for boundary, by what the numbers told until then.
func checkWhoIsHeard(t *testing.T, c impl.Cpu, l []int) map[int]int {
	t.Helper()
	var h history
	seen := map[int]int{}
	q, _ := impl.NewIrq(c)
	for i, v := range l {
		if v != -1 {
			h.take(v)
			q, _ = impl.SetLine(q, v)
			continue
		}
		mask, halted := q.Cpu.R.Mask, q.Cpu.Halt
		after, told, ok := impl.Boundary(q)
		level := told - 100
		due := !halted && (h.risen || h.line > mask)
		if q = after; !ok || (told > 100) != due {
			t.Fatal(l[:i+1], told, h, mask, ok)
		}
		if due && !(level == 7 && h.risen || level == h.line && level > mask && !h.risen) {
			t.Fatal("not the one that is due", l[:i+1], told, h, mask)
		}
		if due && level == 7 {
			h.risen = false
		}
		if due && after.Cpu.R.Mask != level {
			t.Fatal(l[:i+1], told, after.Cpu.R.Mask)
		}
		seen[told]++
	}
	return seen
}

// eventfulIns: what stops, traps, divides by 0, and changes Mask, Trace and Super.
func eventfulIns(s *sundry) impl.Ins {
	l := []impl.Ins{
		{Op: impl.OpFlow, Size: 2, Ea: now(s.below(1024)), Sub: 3},
		{Op: impl.OpFlow, Size: 2, Reg: s.below(4), Sub: 4},
		{Op: impl.OpDiv, Size: 2, Ea: now(0)},
		{Op: impl.OpStatus, Size: 2, Ea: now(s.below(1024))},
	}
	return l[s.below(len(l))]
}

// eventfulCpu: any instructions, with exceptions that lead back into them, some of them with a frame's way back.
func eventfulCpu(s *sundry) impl.Cpu {
	c := sundryCpu(s)
	c.R.A[3], c.R.Other = s.of([]int{260, 300, 340, 384, 512}), s.of([]int{260, 300, 340, 384, 512})
	for i := range 20 {
		x := sundryIns(s)
		if s.below(4) == 0 {
			x = eventfulIns(s)
		}
		layIns(c, 100+4*i, x)
	}
	layIns(c, 180, impl.Ins{Op: impl.OpFlow, Size: 2, Sub: 1})
	for _, vector := range vectorsOfFaults() {
		layWord(c, 2*vector, 100+4*s.below(21))
		if s.below(2) == 0 {
			layWord(c, 2*vector, 180)
		}
	}
	return c
}

func TestSundryLinesBoundaryByBoundary(t *testing.T) {
	s := &sundry{seed: 12}
	seen := map[int]int{}
	for range 400 {
		c := eventfulCpu(s)
		c.Stop = s.below(5) == 0
		l := make([]int, s.of([]int{10, 30, 60}))
		for i := range l {
			l[i] = s.of([]int{-1, -1, -1, -1, s.below(8), 7, 0})
		}
		checkPlayIrq(t, c, l)
		for told, n := range checkWhoIsHeard(t, c, l) {
			seen[told] += n
		}
	}
	for _, told := range []int{-1, 0, 2, 3, 4, 5, 8, 9, 18, 19, 20, 21, 101, 102, 103, 104, 105, 106, 107} {
		if seen[told] == 0 {
			t.Error("never seen", told)
		}
	}
}

func TestSundryRunsOfBoundaries(t *testing.T) {
	s := &sundry{seed: 122}
	for range 250 {
		q := impl.Irq{Cpu: eventfulCpu(s), Line: s.below(8), Edge: s.below(2) == 0}
		q.Cpu.Stop = s.below(5) == 0
		checkRunIrq(t, q, s.of([]int{5, 20, 60}))
	}
}

// A run is as many boundaries one by one, and a play too.
func TestRunsAndPlaysAreBoundariesOneByOne(t *testing.T) {
	s := &sundry{seed: 1212}
	for range 60 {
		c := eventfulCpu(s)
		one, _ := impl.NewIrq(c)
		one, _ = impl.SetLine(one, 7)
		one, _ = impl.SetLine(one, 4)
		run, told, _ := impl.RunIrq(one, 25)
		play, plays, _ := impl.PlayIrq(c, append([]int{7, 4}, slices.Repeat([]int{-1}, 25)...))
		for i := range 25 {
			after, tells, ok := impl.Boundary(one)
			if one = after; !ok || told[i] != tells {
				t.Fatal(i, told, tells, ok)
			}
		}
		if !sameIrqs(run, one) || !sameIrqs(play, one) || !slices.Equal(told, plays) {
			t.Fatal(told, plays)
		}
	}
}

var wrongLevels = []int{math.MinInt, -1 << 32, -256, -8, -7, -2, -1, 8, 9, 15, 16, 255, 256, 263, 1 << 32, 1<<32 + 7, math.MaxInt}

func refusesLine(t *testing.T, q impl.Irq, level int) {
	t.Helper()
	if after, ok := impl.SetLine(q, level); !isNoIrq(after) || ok {
		t.Fatal("SetLine", q, level, after, ok)
	}
}

func refusesRunIrq(t *testing.T, q impl.Irq, n int) {
	t.Helper()
	if after, told, ok := impl.RunIrq(q, n); !isNoIrq(after) || len(told) != 0 || ok {
		t.Fatal("RunIrq", q, n, after, told, ok)
	}
}

func refusesPlayIrq(t *testing.T, c impl.Cpu, l []int) {
	t.Helper()
	if after, told, ok := impl.PlayIrq(c, l); !isNoIrq(after) || len(told) != 0 || ok {
		t.Fatal("PlayIrq", c, l, after, told, ok)
	}
}

func refusesIrq(t *testing.T, q impl.Irq) {
	t.Helper()
	if impl.GoodIrq(q) {
		t.Fatal("GoodIrq", q)
	}
	for _, level := range []int{-1, 0, 5, 7, 8} {
		refusesLine(t, q, level)
	}
	if level, ok := impl.PendingOf(q); level != 0 || ok {
		t.Fatal("PendingOf", q, level, ok)
	}
	if after, told, ok := impl.Boundary(q); !isNoIrq(after) || told != 0 || ok {
		t.Fatal("Boundary", q, after, told, ok)
	}
	for _, n := range []int{-1, 0, 1, 60, 61} {
		refusesRunIrq(t, q, n)
	}
}

func TestInterruptsRefuseWrongCpus(t *testing.T) {
	registers, buses := wrongRegs(), wrongBuses()
	l := []impl.Cpu{{}, {Stop: true}, {Halt: true}}
	for i, r := range registers {
		l = append(l, impl.Cpu{R: r, Bus: fullBus(1)}, impl.Cpu{R: r, Bus: fullBus(0), Stop: true}, impl.Cpu{R: r, Bus: buses[i%len(buses)]})
	}
	for _, b := range buses {
		l = append(l, impl.Cpu{R: cpuWith().R, Bus: b}, impl.Cpu{R: cpuWith().R, Bus: b, Halt: true})
	}
	for _, c := range l {
		if q, ok := impl.NewIrq(c); !isNoIrq(q) || ok {
			t.Fatal("NewIrq", c, q, ok)
		}
		for _, numbers := range [][]int{nil, {0}, {-1}, {7, -1, 8}} {
			refusesPlayIrq(t, c, numbers)
		}
		refusesIrq(t, impl.Irq{Cpu: c})
		refusesIrq(t, impl.Irq{Cpu: c, Line: 7, Edge: true})
	}
}

func TestInterruptsRefuseWrongLines(t *testing.T) {
	for _, c := range waysToBe(restingCpu) {
		for _, line := range wrongLevels {
			refusesIrq(t, impl.Irq{Cpu: c, Line: line})
			refusesIrq(t, impl.Irq{Cpu: c, Line: line, Edge: true})
		}
		for _, level := range wrongLevels {
			for _, line := range levels() {
				refusesLine(t, impl.Irq{Cpu: c, Line: line}, level)
				refusesLine(t, impl.Irq{Cpu: c, Line: line, Edge: true}, level)
			}
		}
	}
}

func TestRunIrqRefusesWrongNumbers(t *testing.T) {
	for _, n := range []int{-1, -2, -60, 61, 62, 120, 1 << 32, 1<<32 + 5, math.MaxInt, math.MinInt} {
		for _, c := range waysToBe(restingCpu) {
			refusesRunIrq(t, impl.Irq{Cpu: c}, n)
			refusesRunIrq(t, impl.Irq{Cpu: c, Line: 7, Edge: true}, n)
		}
	}
}

// irqNumbers is what the plays of the tests of memory are given, with room behind it.
func irqNumbers() []int {
	l := append(make([]int, 0, 40), 3, -1, 7, -1, 8, -1, 0, -1, -1, 7)
	copy(l[len(l):cap(l)], slices.Repeat([]int{-1}, 30))
	return l
}

// answersOfIrq: what each function that answers an Irq answers of this one, those that are heard and halt among them.
func answersOfIrq(q impl.Irq, l []int) []impl.Irq {
	made, _ := impl.NewIrq(q.Cpu)
	low, _ := impl.SetLine(q, 0)
	high, _ := impl.SetLine(q, 7)
	plain, _, _ := impl.Boundary(low)
	heard, _, _ := impl.Boundary(impl.Irq{Cpu: q.Cpu, Line: 3, Edge: true})
	away := q
	away.Cpu.R.PC, away.Cpu.Halt = 1, true
	halts, _, _ := impl.Boundary(away)
	away.Cpu.Halt, away.Cpu.R.Super, away.Cpu.R.Other, away.Edge = false, false, 1, true
	falls, _, _ := impl.Boundary(away)
	none, _, _ := impl.RunIrq(q, 0)
	many, _, _ := impl.RunIrq(q, 60)
	empty, _, _ := impl.PlayIrq(q.Cpu, nil)
	played, _, _ := impl.PlayIrq(q.Cpu, l)
	waits := q
	waits.Cpu.Stop, waits.Line, waits.Edge = true, 0, false
	stops, _, _ := impl.Boundary(waits)
	return []impl.Irq{made, low, high, plain, heard, halts, falls, none, many, empty, played, stops}
}

func listsOfIrq(q impl.Irq, l []int) [][]int {
	_, many, _ := impl.RunIrq(q, 60)
	_, played, _ := impl.PlayIrq(q.Cpu, l)
	return [][]int{many, played}
}

// roomyIrqs: with room behind all lists, and what reads, writes, faults and stops at PC.
func roomyIrqs(logged int, each func(q impl.Irq, m cpuMemory)) {
	for i, x := range memoryIns() {
		c, m := roomyCpu(logged)
		layIns(c, 100, x)
		c.R.Trace = i%2 == 0
		each(impl.Irq{Cpu: c, Line: i, Edge: i%3 == 0}, m)
	}
}

func TestInterruptsWriteIntoNone(t *testing.T) {
	for _, logged := range []int{0, 1, 398, 399, 400} {
		roomyIrqs(logged, func(q impl.Irq, m cpuMemory) {
			numbers := irqNumbers()
			want, wantNumbers := m.clone(), slices.Clone(numbers[:cap(numbers)])
			answersOfIrq(q, numbers)
			listsOfIrq(q, numbers)
			impl.PendingOf(q)
			impl.GoodIrq(q)
			if !m.same(want) || !slices.Equal(numbers[:cap(numbers)], wantNumbers) {
				t.Fatal("an argument's memory was changed", logged, q.Line)
			}
		})
	}
}

func TestInterruptsAnswerNewMemory(t *testing.T) {
	for _, logged := range []int{0, 1, 399, 400} {
		roomyIrqs(logged, func(q impl.Irq, m cpuMemory) {
			numbers := irqNumbers()
			plain, plainLists := answersOfIrq(cloneIrq(q), irqNumbers()), listsOfIrq(cloneIrq(q), irqNumbers())
			first, second := answersOfIrq(q, numbers), answersOfIrq(q, numbers)
			lists, others := listsOfIrq(q, numbers), listsOfIrq(q, numbers)
			m.spoil()
			spoil(numbers)
			for _, d := range second {
				memoryOfCpu(d.Cpu).spoil()
			}
			for _, l := range others {
				spoil(l)
			}
			for i, want := range plainLists {
				if !slices.Equal(lists[i], want) {
					t.Fatal("a list shares memory", logged, q.Line, i)
				}
				spoil(lists[i])
			}
			for i, want := range plain {
				if !sameIrqs(first[i], want) {
					t.Fatal("an answer shares memory", logged, q.Line, i)
				}
				memoryOfCpu(first[i].Cpu).spoil()
			}
		})
	}
}

// The lists of one answer are four of numbers, though an argument's may be one.
func TestNoTwoListsOfAnInterruptShareMemory(t *testing.T) {
	c, _ := roomyCpu(2)
	layIns(c, 100, impl.Ins{Op: impl.OpFlow, Size: 2, Sub: 4})
	c.R.D = c.R.A
	q := impl.Irq{Cpu: c, Line: 7, Edge: true}
	for i, d := range answersOfIrq(q, irqNumbers()) {
		want := cloneIrq(d)
		spoil(d.Cpu.R.D)
		if !slices.Equal(d.Cpu.R.A, want.Cpu.R.A) || !slices.Equal(d.Cpu.Bus.Bytes, want.Cpu.Bus.Bytes) {
			t.Fatal("D is shared", i)
		}
		spoil(d.Cpu.R.A)
		if !slices.Equal(d.Cpu.Bus.Bytes, want.Cpu.Bus.Bytes) {
			t.Fatal("A is shared", i)
		}
	}
	run, told, _ := impl.RunIrq(q, 60)
	want := cloneIrq(run)
	spoil(told)
	if !sameIrqs(run, want) || len(told) == 0 {
		t.Error("what a run tells is shared", told)
	}
	play, told, _ := impl.PlayIrq(c, irqNumbers())
	want = cloneIrq(play)
	spoil(told)
	if !sameIrqs(play, want) || len(told) == 0 {
		t.Error("what a play tells is shared", told)
	}
}
