package tests

import (
	"fmt"
	"math"
	"slices"
	"strconv"
	"strings"
	"testing"

	"loop.example/g00389/impl"
)

// What chapter 6 must answer is worked out here by counting addresses one by one round the whole of memory,
// and with the status as a row of ten binary digits.

var modes = []int{impl.MdData, impl.MdAddr, impl.MdAt, impl.MdAfter, impl.MdBefore, impl.MdPlus, impl.MdAbs, impl.MdNow}

var extModes = []int{impl.MdPlus, impl.MdAbs, impl.MdNow}

var regModes = []int{impl.MdData, impl.MdAddr, impl.MdAt, impl.MdAfter, impl.MdBefore, impl.MdPlus}

var placeModes = []int{impl.MdAt, impl.MdAfter, impl.MdBefore, impl.MdPlus, impl.MdAbs}

var regNumbers = []int{0, 1, 2, 3}

var edgeWords = []int{0, 1, 2, 3, 255, 256, 32767, 32768, 65532, 65533, 65534, 65535}

var wrongModes = []int{-1, -2, -7, -8, 8, 9, 15, 16, 256, 1 << 32, math.MaxInt, math.MinInt}

var wrongRegNumbers = []int{-1, -2, -4, 4, 5, 7, 256, 1 << 32, math.MaxInt, math.MinInt}

var wrongMasks = []int{-1, -2, -7, 8, 9, 15, 256, 1 << 32, math.MaxInt, math.MinInt}

var wrongStatuses = []int{-1, -2, -256, -1023, 1024, 1025, 2047, 65535, 1 << 32, math.MaxInt, math.MinInt}

func addressBehind(addr int) int {
	if addr == 65535 {
		return 0
	}
	return addr + 1
}

func addressAhead(addr int) int {
	if addr == 0 {
		return 65535
	}
	return addr - 1
}

func walk(addr int, steps int, next func(int) int) int {
	for range steps {
		addr = next(addr)
	}
	return addr
}

func cloneRegs(r impl.Regs) impl.Regs {
	r.D, r.A = slices.Clone(r.D), slices.Clone(r.A)
	return r
}

func sameRegs(a impl.Regs, b impl.Regs) bool {
	return slices.Equal(a.D, b.D) && slices.Equal(a.A, b.A) && a.Other == b.Other && a.PC == b.PC &&
		a.Flags == b.Flags && a.Mask == b.Mask && a.Super == b.Super && a.Trace == b.Trace
}

// unlikeRegs: no two of its words alike, none 0, so that words that change places are seen.
func unlikeRegs() impl.Regs {
	return impl.Regs{D: []int{4660, 22136, 39612, 57072}, A: []int{1000, 2001, 3002, 4004}, Other: 5006, PC: 6008, Flags: 21, Mask: 5, Super: true}
}

func wantedStatus(r impl.Regs) int {
	digit := map[bool]string{false: "0", true: "1"}
	text := digit[r.Trace] + digit[r.Super] + fmt.Sprintf("%03b", r.Mask) + fmt.Sprintf("%05b", r.Flags)
	status, _ := strconv.ParseInt(text, 2, 64)
	return int(status)
}

func wantedWithStatus(r impl.Regs, status int) impl.Regs {
	text := fmt.Sprintf("%010b", status)
	mask, _ := strconv.ParseInt(text[2:5], 2, 64)
	flags, _ := strconv.ParseInt(text[5:], 2, 64)
	w := cloneRegs(r)
	w.Trace, w.Super, w.Mask, w.Flags = strings.HasPrefix(text, "1"), text[1] == '1', int(mask), int(flags)
	if w.Super != r.Super {
		w.A[3], w.Other = r.Other, r.A[3]
	}
	return w
}

func wantedPlace(r impl.Regs, size int, o impl.Operand) (impl.Regs, int) {
	w := cloneRegs(r)
	stride := map[int]int{impl.SizeByte: 1, impl.SizeWord: 2}[size]
	if o.Reg == 3 {
		stride = 2
	}
	switch o.Mode {
	case impl.MdAt:
		return w, r.A[o.Reg]
	case impl.MdAfter:
		w.A[o.Reg] = walk(r.A[o.Reg], stride, addressBehind)
		return w, r.A[o.Reg]
	case impl.MdBefore:
		w.A[o.Reg] = walk(r.A[o.Reg], stride, addressAhead)
		return w, w.A[o.Reg]
	case impl.MdPlus:
		return w, walk(r.A[o.Reg], o.Ext, addressBehind)
	}
	return w, o.Ext
}

func checkPlace(t *testing.T, r impl.Regs, size int, o impl.Operand) {
	t.Helper()
	want, wantAddr := wantedPlace(r, size, o)
	got, addr, ok := impl.PlaceOf(r, size, o)
	if !ok || addr != wantAddr || !sameRegs(got, want) {
		t.Fatalf("PlaceOf(%v, %d, %v) = %v, %d, %v; want %v, %d", r, size, o, got, addr, ok, want, wantAddr)
	}
}

func checkWithStatus(t *testing.T, r impl.Regs, status int) impl.Regs {
	t.Helper()
	want := wantedWithStatus(r, status)
	got, ok := impl.WithStatus(r, status)
	if !ok || !sameRegs(got, want) {
		t.Fatalf("WithStatus(%v, %d) = %v, %v; want %v", r, status, got, ok, want)
	}
	return got
}

// edgeRegs: each word at its edges, each mask, with the flags, Super and Trace at theirs.
func edgeRegs() []impl.Regs {
	var l []impl.Regs
	for i, v := range edgeWords {
		for _, mask := range []int{0, 1, 6, 7} {
			for _, flags := range []int{0, 1, 16, 30, 31} {
				for _, super := range []bool{false, true} {
					for _, trace := range []bool{false, true} {
						r := impl.Regs{D: []int{v, 7, 65535, 0}, A: []int{9, v, 65535, 8}, Other: v, PC: 65535 - v, Flags: flags, Mask: mask, Super: super, Trace: trace}
						r.D[i%4], r.A[i/2%4] = v, v
						l = append(l, r)
					}
				}
			}
		}
	}
	return l
}

func goodOperands() []impl.Operand {
	var l []impl.Operand
	for _, mode := range regModes {
		for _, reg := range regNumbers {
			l = append(l, impl.Operand{Mode: mode, Reg: reg})
		}
	}
	for _, ext := range edgeWords {
		for _, reg := range regNumbers {
			l = append(l, impl.Operand{Mode: impl.MdPlus, Reg: reg, Ext: ext})
		}
		l = append(l, impl.Operand{Mode: impl.MdAbs, Ext: ext}, impl.Operand{Mode: impl.MdNow, Ext: ext})
	}
	return l
}

func TestConstantsOfModes(t *testing.T) {
	if !slices.Equal(modes, []int{0, 1, 2, 3, 4, 5, 6, 7}) {
		t.Error(modes)
	}
}

func TestNewRegs(t *testing.T) {
	r := impl.NewRegs()
	if !sameRegs(r, impl.Regs{D: []int{0, 0, 0, 0}, A: []int{0, 0, 0, 0}, Mask: 7, Super: true}) || !impl.GoodRegs(r) {
		t.Error(r)
	}
}

func TestGoodRegs(t *testing.T) {
	for _, r := range edgeRegs() {
		if !impl.GoodRegs(r) {
			t.Fatal(r)
		}
	}
	for flags := range 32 {
		for mask := range 8 {
			r := unlikeRegs()
			r.Flags, r.Mask = flags, mask
			if !impl.GoodRegs(r) {
				t.Fatal(r)
			}
		}
	}
}

func TestGoodOperands(t *testing.T) {
	for _, o := range goodOperands() {
		if !impl.GoodOperand(o) {
			t.Fatal(o)
		}
	}
}

// Every operand of small fields, held against a list of what is said of each mode.
func TestEveryOperandNearTheEdges(t *testing.T) {
	said := map[int][2]int{ // the greatest Reg, the greatest Ext
		impl.MdData: {3, 0}, impl.MdAddr: {3, 0}, impl.MdAt: {3, 0}, impl.MdAfter: {3, 0}, impl.MdBefore: {3, 0},
		impl.MdPlus: {3, 65535}, impl.MdAbs: {0, 65535}, impl.MdNow: {0, 65535},
	}
	for mode := -3; mode <= 10; mode++ {
		for reg := -3; reg <= 6; reg++ {
			for _, ext := range append([]int{-65536, -2, -1, 65536, 65537, 1 << 32, math.MaxInt, math.MinInt}, edgeWords...) {
				most, is := said[mode]
				want := is && reg >= 0 && reg <= most[0] && ext >= 0 && ext <= most[1]
				if got := impl.GoodOperand(impl.Operand{Mode: mode, Reg: reg, Ext: ext}); got != want {
					t.Fatal(mode, reg, ext, got)
				}
			}
		}
	}
}

func TestPlaceOfNamedEdges(t *testing.T) {
	for _, k := range []struct {
		size, mode, reg, ext int
		a, addr, then        int
	}{
		{1, impl.MdAt, 0, 0, 65535, 65535, 65535}, {2, impl.MdAt, 3, 0, 7, 7, 7},
		{1, impl.MdAfter, 0, 0, 20, 20, 21}, {2, impl.MdAfter, 0, 0, 20, 20, 22}, {1, impl.MdAfter, 3, 0, 20, 20, 22}, {2, impl.MdAfter, 3, 0, 20, 20, 22},
		{1, impl.MdAfter, 2, 0, 65535, 65535, 0}, {2, impl.MdAfter, 2, 0, 65535, 65535, 1}, {2, impl.MdAfter, 1, 0, 65534, 65534, 0},
		{1, impl.MdAfter, 3, 0, 65534, 65534, 0}, {2, impl.MdAfter, 3, 0, 65534, 65534, 0}, {1, impl.MdAfter, 3, 0, 65535, 65535, 1},
		{1, impl.MdBefore, 0, 0, 20, 19, 19}, {2, impl.MdBefore, 0, 0, 20, 18, 18}, {1, impl.MdBefore, 3, 0, 20, 18, 18}, {2, impl.MdBefore, 3, 0, 20, 18, 18},
		{1, impl.MdBefore, 1, 0, 0, 65535, 65535}, {2, impl.MdBefore, 1, 0, 0, 65534, 65534}, {2, impl.MdBefore, 2, 0, 1, 65535, 65535},
		{1, impl.MdBefore, 3, 0, 0, 65534, 65534}, {2, impl.MdBefore, 3, 0, 0, 65534, 65534}, {1, impl.MdBefore, 3, 0, 1, 65535, 65535},
		{1, impl.MdPlus, 2, 0, 20, 20, 20}, {1, impl.MdPlus, 2, 1, 20, 21, 20}, {2, impl.MdPlus, 2, 65535, 20, 19, 20},
		{2, impl.MdPlus, 3, 1, 65535, 0, 65535}, {2, impl.MdPlus, 3, 65535, 65535, 65534, 65535}, {1, impl.MdPlus, 0, 65535, 0, 65535, 0},
		{1, impl.MdAbs, 0, 0, 20, 0, 20}, {2, impl.MdAbs, 0, 65535, 20, 65535, 20},
	} {
		r := unlikeRegs()
		r.A[k.reg] = k.a
		want := cloneRegs(r)
		want.A[k.reg] = k.then
		got, addr, ok := impl.PlaceOf(r, k.size, impl.Operand{Mode: k.mode, Reg: k.reg, Ext: k.ext})
		if addr != k.addr || !sameRegs(got, want) || !ok {
			t.Error(k, got, addr, ok)
		}
	}
}

func TestPlaceOfEveryMode(t *testing.T) {
	for _, size := range sizes {
		for _, reg := range regNumbers {
			for _, a := range edgeWords {
				r := unlikeRegs()
				r.A[reg] = a
				for _, o := range goodOperands() {
					if slices.Contains(placeModes, o.Mode) {
						checkPlace(t, r, size, o)
					}
				}
			}
		}
	}
}

func TestPlaceOfEveryAddress(t *testing.T) {
	for a := range 65536 {
		for _, reg := range []int{1, 3} {
			r := unlikeRegs()
			r.A[reg] = a
			for _, size := range sizes {
				checkPlace(t, r, size, impl.Operand{Mode: impl.MdAfter, Reg: reg})
				checkPlace(t, r, size, impl.Operand{Mode: impl.MdBefore, Reg: reg})
			}
		}
		r := unlikeRegs()
		if _, addr, ok := impl.PlaceOf(r, impl.SizeByte, impl.Operand{Mode: impl.MdPlus, Reg: 2, Ext: a}); addr != (3002+a)%65536 || !ok {
			t.Fatal(a, addr, ok)
		}
		if _, addr, ok := impl.PlaceOf(r, impl.SizeWord, impl.Operand{Mode: impl.MdAbs, Ext: a}); addr != a || !ok {
			t.Fatal(a, addr, ok)
		}
	}
}

func TestPlaceOfLeavesAllElse(t *testing.T) {
	for _, r := range edgeRegs() {
		for _, mode := range placeModes {
			o := impl.Operand{Mode: mode, Reg: r.Flags % 4}
			if mode == impl.MdAbs {
				o.Reg = 0
			}
			checkPlace(t, r, impl.SizeByte, o)
			checkPlace(t, r, impl.SizeWord, o)
		}
	}
}

// What is put before is found after, and the register is where it was.
func TestBeforeAndAfterMeet(t *testing.T) {
	for _, size := range sizes {
		for _, reg := range regNumbers {
			for _, a := range edgeWords {
				r := unlikeRegs()
				r.A[reg] = a
				down, there, _ := impl.PlaceOf(r, size, impl.Operand{Mode: impl.MdBefore, Reg: reg})
				up, again, ok := impl.PlaceOf(down, size, impl.Operand{Mode: impl.MdAfter, Reg: reg})
				if there != again || !sameRegs(up, r) || !ok {
					t.Fatal(size, reg, a, there, again, up)
				}
			}
		}
	}
}

func TestPlaceOfWhatHasNone(t *testing.T) {
	for _, r := range edgeRegs() {
		for _, size := range sizes {
			for _, reg := range regNumbers {
				refusesPlace(t, r, size, impl.Operand{Mode: impl.MdData, Reg: reg})
				refusesPlace(t, r, size, impl.Operand{Mode: impl.MdAddr, Reg: reg})
			}
			refusesPlace(t, r, size, impl.Operand{Mode: impl.MdNow})
			refusesPlace(t, r, size, impl.Operand{Mode: impl.MdNow, Ext: 65535})
		}
	}
}

func TestStatusOfNamedEdges(t *testing.T) {
	for _, k := range []struct {
		flags, mask  int
		super, trace bool
		want         int
	}{
		{0, 0, false, false, 0}, {31, 0, false, false, 31}, {0, 7, false, false, 224}, {0, 0, true, false, 256}, {0, 0, false, true, 512},
		{0, 0, true, true, 768}, {31, 7, true, true, 1023}, {31, 7, false, false, 255}, {0, 7, true, false, 480}, {1, 1, false, true, 545},
	} {
		r := unlikeRegs()
		r.Flags, r.Mask, r.Super, r.Trace = k.flags, k.mask, k.super, k.trace
		if got, ok := impl.StatusOf(r); got != k.want || !ok {
			t.Error(k, got, ok)
		}
		if back := checkWithStatus(t, r, k.want); !sameRegs(back, r) {
			t.Error(k, back)
		}
	}
}

func TestStatusOfAtTheEdges(t *testing.T) {
	for _, r := range edgeRegs() {
		if got, ok := impl.StatusOf(r); got != wantedStatus(r) || !ok {
			t.Fatal(r, got, ok)
		}
	}
}

func TestEveryStatusComesBack(t *testing.T) {
	for from := range 1024 {
		r := wantedWithStatus(unlikeRegs(), from)
		if got, ok := impl.StatusOf(r); got != from || !ok {
			t.Fatal(from, got, ok)
		}
	}
	for status := range 1024 {
		for _, from := range []int{0, 31, 224, 256, 480, 512, 767, 768, 1023} {
			r := wantedWithStatus(unlikeRegs(), from)
			there := checkWithStatus(t, r, status)
			if got, ok := impl.StatusOf(there); got != status || !ok {
				t.Fatal(status, from, got, ok)
			}
			back, ok := impl.WithStatus(there, from)
			if !sameRegs(back, r) || !ok {
				t.Fatal(status, from, back, r)
			}
		}
	}
}

func TestTheStackIsThatOfTheState(t *testing.T) {
	super := unlikeRegs()
	for status := range 1024 {
		there, _ := impl.WithStatus(super, status)
		own, other := 4004, 5006
		if status/256%2 == 0 {
			own, other = 5006, 4004
		}
		if there.A[3] != own || there.Other != other || !slices.Equal(there.A[:3], super.A[:3]) || !slices.Equal(there.D, super.D) || there.PC != super.PC {
			t.Fatal(status, there)
		}
	}
}

func TestWithStatusAtTheEdges(t *testing.T) {
	for _, r := range edgeRegs() {
		for _, status := range []int{0, 1, 31, 32, 224, 255, 256, 480, 511, 512, 544, 768, 1022, 1023} {
			if after := checkWithStatus(t, r, status); !impl.GoodRegs(after) {
				t.Fatal(r, status, after)
			}
		}
	}
}

func wantedPut(r impl.Regs, size int, reg int, v int) impl.Regs {
	w := cloneRegs(r)
	bytes := wantedBytes(impl.SizeWord, w.D[reg])
	copy(bytes[2-size:], wantedBytes(size, v))
	w.D[reg] = wantedValue(bytes)
	return w
}

func TestPutDataNamedEdges(t *testing.T) {
	for _, k := range []struct{ size, before, v, after int }{
		{1, 4660, 255, 4863}, {1, 4660, 0, 4608}, {1, 0, 255, 255}, {1, 65535, 0, 65280}, {1, 255, 1, 1}, {1, 256, 7, 263},
		{2, 4660, 255, 255}, {2, 4660, 0, 0}, {2, 0, 65535, 65535}, {2, 65535, 256, 256}, {2, 65535, 0, 0},
	} {
		for _, reg := range regNumbers {
			r := unlikeRegs()
			r.D[reg] = k.before
			want := cloneRegs(r)
			want.D[reg] = k.after
			if got, ok := impl.PutData(r, k.size, reg, k.v); !sameRegs(got, want) || !ok {
				t.Error(k, reg, got, ok)
			}
		}
	}
}

func TestPutDataOfEveryEdge(t *testing.T) {
	for _, size := range sizes {
		for _, v := range valuesOf(size) {
			for _, reg := range regNumbers {
				for _, before := range edgeWords {
					r := unlikeRegs()
					r.D[reg] = before
					if got, ok := impl.PutData(r, size, reg, v); !sameRegs(got, wantedPut(r, size, reg, v)) || !ok {
						t.Fatal(size, v, reg, before, got, ok)
					}
				}
			}
		}
	}
	for _, r := range edgeRegs() {
		for _, size := range sizes {
			if got, ok := impl.PutData(r, size, 2, 129); !sameRegs(got, wantedPut(r, size, 2, 129)) || !ok {
				t.Fatal(r, size, got, ok)
			}
		}
	}
}

func TestNeedsExt(t *testing.T) {
	for _, mode := range modes {
		if needs, ok := impl.NeedsExt(mode); needs != slices.Contains(extModes, mode) || !ok {
			t.Error(mode, needs, ok)
		}
	}
	for _, mode := range wrongModes {
		if needs, ok := impl.NeedsExt(mode); needs || ok {
			t.Error(mode, needs, ok)
		}
	}
}

func wrongWordLists() [][]int {
	l := [][]int{nil, {}, {1}, {1, 2, 3}, {1, 2, 3, 4, 5}, slices.Repeat([]int{1}, 8)}
	for _, v := range wrongValues(impl.SizeWord) {
		for at := range 4 {
			words := []int{1, 0, 65535, 2}
			words[at] = v
			l = append(l, words)
		}
	}
	return l
}

func wrongRegs() []impl.Regs {
	l := []impl.Regs{{}, {Super: true, Mask: 7}}
	add := func(change func(*impl.Regs)) {
		r := unlikeRegs()
		change(&r)
		l = append(l, r)
	}
	for _, words := range wrongWordLists() {
		add(func(r *impl.Regs) { r.D = words })
		add(func(r *impl.Regs) { r.A = words })
	}
	for _, v := range wrongValues(impl.SizeWord) {
		add(func(r *impl.Regs) { r.Other = v })
		add(func(r *impl.Regs) { r.PC = v })
	}
	for _, flags := range wrongFlags {
		add(func(r *impl.Regs) { r.Flags = flags })
	}
	for _, mask := range wrongMasks {
		add(func(r *impl.Regs) { r.Mask = mask })
	}
	return l
}

func wrongOperands() []impl.Operand {
	var l []impl.Operand
	for _, mode := range wrongModes {
		l = append(l, impl.Operand{Mode: mode}, impl.Operand{Mode: mode, Reg: 1}, impl.Operand{Mode: mode, Ext: 1})
	}
	for _, reg := range wrongRegNumbers {
		for _, mode := range modes {
			l = append(l, impl.Operand{Mode: mode, Reg: reg})
		}
	}
	for _, reg := range []int{1, 2, 3} {
		for _, ext := range []int{0, 1, 65535} {
			l = append(l, impl.Operand{Mode: impl.MdAbs, Reg: reg, Ext: ext}, impl.Operand{Mode: impl.MdNow, Reg: reg, Ext: ext})
		}
	}
	for _, ext := range wrongValues(impl.SizeWord) {
		for _, mode := range modes {
			l = append(l, impl.Operand{Mode: mode, Ext: ext})
		}
	}
	for _, ext := range notZero {
		for _, mode := range []int{impl.MdData, impl.MdAddr, impl.MdAt, impl.MdAfter, impl.MdBefore} {
			for _, reg := range regNumbers {
				l = append(l, impl.Operand{Mode: mode, Reg: reg, Ext: ext})
			}
		}
	}
	return l
}

func refusesPlace(t *testing.T, r impl.Regs, size int, o impl.Operand) {
	t.Helper()
	if after, addr, ok := impl.PlaceOf(r, size, o); !sameRegs(after, impl.Regs{}) || addr != 0 || ok {
		t.Fatalf("PlaceOf(%v, %d, %v) = %v, %d, %v", r, size, o, after, addr, ok)
	}
}

func refusesWithStatus(t *testing.T, r impl.Regs, status int) {
	t.Helper()
	if after, ok := impl.WithStatus(r, status); !sameRegs(after, impl.Regs{}) || ok {
		t.Fatalf("WithStatus(%v, %d) = %v, %v", r, status, after, ok)
	}
}

func refusesPut(t *testing.T, r impl.Regs, size int, reg int, v int) {
	t.Helper()
	if after, ok := impl.PutData(r, size, reg, v); !sameRegs(after, impl.Regs{}) || ok {
		t.Fatalf("PutData(%v, %d, %d, %d) = %v, %v", r, size, reg, v, after, ok)
	}
}

func TestEveryFunctionRefusesWrongRegs(t *testing.T) {
	for _, r := range wrongRegs() {
		if impl.GoodRegs(r) {
			t.Fatal(r)
		}
		if status, ok := impl.StatusOf(r); status != 0 || ok {
			t.Fatal(r, status, ok)
		}
		for _, status := range []int{0, 31, 256, 480, 1023} {
			refusesWithStatus(t, r, status)
		}
		for _, size := range sizes {
			for _, o := range goodOperands() {
				refusesPlace(t, r, size, o)
			}
			for _, reg := range regNumbers {
				refusesPut(t, r, size, reg, 0)
				refusesPut(t, r, size, reg, 255)
			}
		}
	}
}

func TestWrongOperandsAreRefused(t *testing.T) {
	for _, o := range wrongOperands() {
		if impl.GoodOperand(o) {
			t.Fatal(o)
		}
		for _, size := range sizes {
			refusesPlace(t, unlikeRegs(), size, o)
			refusesPlace(t, impl.NewRegs(), size, o)
		}
	}
}

func TestWrongSizesOfOperandsAreRefused(t *testing.T) {
	for _, size := range wrongSizes {
		for _, o := range goodOperands() {
			refusesPlace(t, unlikeRegs(), size, o)
		}
		for _, reg := range regNumbers {
			for _, v := range []int{0, 1, 255, 256, 65535} {
				refusesPut(t, unlikeRegs(), size, reg, v)
			}
		}
	}
}

func TestWrongStatusesAreRefused(t *testing.T) {
	for _, status := range wrongStatuses {
		refusesWithStatus(t, unlikeRegs(), status)
		refusesWithStatus(t, impl.NewRegs(), status)
	}
}

func TestWrongRegistersAndValuesAreRefused(t *testing.T) {
	for _, size := range sizes {
		for _, reg := range wrongRegNumbers {
			refusesPut(t, unlikeRegs(), size, reg, 0)
			refusesPut(t, unlikeRegs(), size, reg, greatestOf(size))
		}
		for _, v := range wrongValues(size) {
			for _, reg := range regNumbers {
				refusesPut(t, unlikeRegs(), size, reg, v)
			}
		}
	}
}

// roomyRegs has room behind both lists, filled with what no list has.
func roomyRegs() (impl.Regs, []int, []int) {
	r := unlikeRegs()
	data := append(r.D, slices.Repeat([]int{-7}, 12)...)
	addr := append(r.A, slices.Repeat([]int{-7}, 12)...)
	r.D, r.A = data[:4], addr[:4]
	return r, data, addr
}

// answersOfRegs: what each function that answers registers answers of these.
func answersOfRegs(r impl.Regs) []impl.Regs {
	var l []impl.Regs
	for _, mode := range placeModes {
		after, _, _ := impl.PlaceOf(r, impl.SizeByte, impl.Operand{Mode: mode})
		l = append(l, after)
	}
	for _, status := range []int{0, 31, 256, 1023} {
		after, _ := impl.WithStatus(r, status)
		l = append(l, after)
	}
	for _, size := range sizes {
		after, _ := impl.PutData(r, size, 1, 200)
		l = append(l, after)
	}
	return append(l, impl.NewRegs())
}

func TestRegsWriteIntoNone(t *testing.T) {
	r, data, addr := roomyRegs()
	wantData, wantAddr := slices.Clone(data), slices.Clone(addr)
	answersOfRegs(r)
	impl.StatusOf(r)
	if !impl.GoodRegs(r) || !slices.Equal(data, wantData) || !slices.Equal(addr, wantAddr) {
		t.Error("an argument's memory was changed", data, addr)
	}
}

func TestRegsAnswerNewMemory(t *testing.T) {
	plain := answersOfRegs(unlikeRegs())
	r, data, addr := roomyRegs()
	first, second := answersOfRegs(r), answersOfRegs(r)
	spoil(data)
	spoil(addr)
	for i := range second {
		spoil(second[i].D)
		spoil(second[i].A)
	}
	for i, want := range plain {
		if !sameRegs(first[i], want) {
			t.Fatal("an answer shares memory", i, first[i], want)
		}
		spoil(first[i].D)
		if !slices.Equal(first[i].A, want.A) {
			t.Fatal("two lists of one answer share memory", i)
		}
	}
}

// Where both lists of an argument are one, those of the answer are two.
func TestOneListTwiceIsAnsweredAsTwo(t *testing.T) {
	r := unlikeRegs()
	r.D = r.A
	for i, after := range answersOfRegs(r) {
		want := slices.Clone(after.A)
		spoil(after.D)
		if !slices.Equal(after.A, want) {
			t.Fatal(i, after)
		}
	}
}
