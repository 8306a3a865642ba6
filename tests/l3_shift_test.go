package tests

import (
	"math"
	"slices"
	"strconv"
	"strings"
	"testing"

	"loop.example/g00389/impl"
)

// What chapter 3 must answer is worked out here on texts of noughts and ones, the highest bit first,
// so that places are moved by cutting and joining texts and not by the program's arithmetic.

var shiftKinds = []int{impl.ShAsl, impl.ShAsr, impl.ShLsl, impl.ShLsr, impl.ShRol, impl.ShRor, impl.ShRoxl, impl.ShRoxr}

var turningKinds = []int{impl.ShRol, impl.ShRor, impl.ShRoxl, impl.ShRoxr}

var wrongKinds = []int{-1, -2, -8, 8, 9, 16, math.MaxInt, math.MinInt}

var wrongCounts = []int{-1, -63, -64, 64, 65, 128, 256, math.MaxInt, math.MinInt}

func bitText(size int, v int) string {
	text := strconv.FormatInt(int64(v), 2)
	return strings.Repeat("0", bitsOf[size]-len(text)) + text
}

func valueOfText(text string) int {
	v, err := strconv.ParseInt(text, 2, 64)
	if err != nil {
		panic(err)
	}
	return int(v)
}

func wantedShift(kind int, size int, flags int, v int) (int, int) {
	text := bitText(size, v)
	first, last := text[:1], text[len(text)-1:]
	extend := strconv.Itoa(flags / impl.FlagX)
	up := func(in string) (string, string) { return text[1:] + in, first }
	down := func(in string) (string, string) { return in + text[:len(text)-1], last }
	var moved, out string
	switch kind {
	case impl.ShAsl, impl.ShLsl:
		moved, out = up("0")
	case impl.ShAsr:
		moved, out = down(first)
	case impl.ShLsr:
		moved, out = down("0")
	case impl.ShRol:
		moved, out = up(first)
	case impl.ShRor:
		moved, out = down(last)
	case impl.ShRoxl:
		moved, out = up(extend)
	case impl.ShRoxr:
		moved, out = down(extend)
	}
	if kind != impl.ShRol && kind != impl.ShRor {
		extend = out
	}
	told := marksOf(size, valueOfText(moved))
	if out == "1" {
		told |= impl.FlagC
	}
	if extend == "1" {
		told |= impl.FlagX
	}
	if kind == impl.ShAsl && moved[:1] != first {
		told |= impl.FlagV
	}
	return valueOfText(moved), told
}

// wantedUnmoved: the flags of count 0.
func wantedUnmoved(kind int, size int, flags int, v int) int {
	told := marksOf(size, v) | flags&impl.FlagX
	if (kind == impl.ShRoxl || kind == impl.ShRoxr) && flags&impl.FlagX != 0 {
		told |= impl.FlagC
	}
	return told
}

func TestConstantsOfShifts(t *testing.T) {
	if !slices.Equal(shiftKinds, []int{0, 1, 2, 3, 4, 5, 6, 7}) {
		t.Error(shiftKinds)
	}
}

func TestShiftOnceEdges(t *testing.T) {
	const c, v, z, n, x = impl.FlagC, impl.FlagV, impl.FlagZ, impl.FlagN, impl.FlagX
	for _, k := range []struct{ kind, size, flags, v, want, told int }{
		{impl.ShAsl, 1, 0, 0, 0, z}, {impl.ShAsl, 1, x, 1, 2, 0}, {impl.ShAsl, 1, 0, 64, 128, v | n}, {impl.ShAsl, 1, 0, 128, 0, c | x | v | z}, {impl.ShAsl, 1, 0, 192, 128, c | x | n}, {impl.ShAsl, 1, 31, 255, 254, c | x | n},
		{impl.ShAsl, 2, x, 128, 256, 0}, {impl.ShAsl, 2, 0, 16384, 32768, v | n}, {impl.ShAsl, 2, 0, 32768, 0, c | x | v | z}, {impl.ShAsl, 2, 0, 65535, 65534, c | x | n},
		{impl.ShAsr, 1, x, 0, 0, z}, {impl.ShAsr, 1, 0, 1, 0, c | x | z}, {impl.ShAsr, 1, x, 128, 192, n}, {impl.ShAsr, 1, 0, 129, 192, c | x | n}, {impl.ShAsr, 1, 0, 255, 255, c | x | n},
		{impl.ShAsr, 2, x, 32768, 49152, n}, {impl.ShAsr, 2, 0, 32769, 49152, c | x | n}, {impl.ShAsr, 2, 0, 128, 64, 0},
		{impl.ShLsl, 1, 0, 64, 128, n}, {impl.ShLsl, 1, 0, 128, 0, c | x | z}, {impl.ShLsl, 1, x, 1, 2, 0}, {impl.ShLsl, 1, 0, 255, 254, c | x | n},
		{impl.ShLsl, 2, 0, 32768, 0, c | x | z}, {impl.ShLsl, 2, 0, 16384, 32768, n}, {impl.ShLsl, 2, x, 255, 510, 0},
		{impl.ShLsr, 1, x, 128, 64, 0}, {impl.ShLsr, 1, 0, 1, 0, c | x | z}, {impl.ShLsr, 1, 0, 255, 127, c | x}, {impl.ShLsr, 2, x, 32768, 16384, 0}, {impl.ShLsr, 2, 0, 65535, 32767, c | x},
		{impl.ShRol, 1, 0, 128, 1, c}, {impl.ShRol, 1, x, 128, 1, c | x}, {impl.ShRol, 1, x, 64, 128, n | x}, {impl.ShRol, 1, 0, 64, 128, n}, {impl.ShRol, 1, 0, 255, 255, c | n}, {impl.ShRol, 1, x, 0, 0, z | x},
		{impl.ShRol, 2, 0, 32768, 1, c}, {impl.ShRol, 2, x, 128, 256, x},
		{impl.ShRor, 1, 0, 1, 128, c | n}, {impl.ShRor, 1, x, 1, 128, c | n | x}, {impl.ShRor, 1, x, 128, 64, x}, {impl.ShRor, 1, 0, 0, 0, z},
		{impl.ShRor, 2, 0, 1, 32768, c | n}, {impl.ShRor, 2, x, 65535, 65535, c | n | x},
		{impl.ShRoxl, 1, 0, 128, 0, c | x | z}, {impl.ShRoxl, 1, x, 128, 1, c | x}, {impl.ShRoxl, 1, x, 0, 1, 0}, {impl.ShRoxl, 1, 15, 0, 0, z}, {impl.ShRoxl, 1, x, 255, 255, c | x | n},
		{impl.ShRoxl, 2, x, 32767, 65535, n}, {impl.ShRoxl, 2, 0, 32768, 0, c | x | z},
		{impl.ShRoxr, 1, x, 0, 128, n}, {impl.ShRoxr, 1, 0, 1, 0, c | x | z}, {impl.ShRoxr, 1, x, 1, 128, c | x | n}, {impl.ShRoxr, 1, 15, 128, 64, 0},
		{impl.ShRoxr, 2, x, 0, 32768, n}, {impl.ShRoxr, 2, 0, 65535, 32767, c | x},
	} {
		if got, told, ok := impl.ShiftOnce(k.kind, k.size, k.flags, k.v); got != k.want || told != k.told || !ok {
			t.Errorf("ShiftOnce(%d, %d, %d, %d) = %d, %d, %v; want %d, %d", k.kind, k.size, k.flags, k.v, got, told, ok, k.want, k.told)
		}
	}
}

func TestShiftOnceOnTexts(t *testing.T) {
	for _, kind := range shiftKinds {
		for _, size := range sizes {
			for _, v := range valuesOf(size) {
				for flags := range 32 {
					want, wantTold := wantedShift(kind, size, flags, v)
					if got, told, ok := impl.ShiftOnce(kind, size, flags, v); got != want || told != wantTold || !ok {
						t.Fatalf("ShiftOnce(%d, %d, %d, %d) = %d, %d, %v; want %d, %d", kind, size, flags, v, got, told, ok, want, wantTold)
					}
				}
			}
		}
	}
}

func TestShiftByEdges(t *testing.T) {
	const c, v, z, n, x = impl.FlagC, impl.FlagV, impl.FlagZ, impl.FlagN, impl.FlagX
	for _, k := range []struct{ kind, size, flags, v, count, want, told int }{
		// the highest bit is another one in a place on the way alone, at the last place alone, and never
		{impl.ShAsl, 1, 0, 64, 2, 0, c | x | v | z}, {impl.ShAsl, 1, 0, 32, 4, 0, v | z}, {impl.ShAsl, 1, 0, 160, 2, 128, v | n}, {impl.ShAsl, 1, 0, 163, 3, 24, c | x | v}, {impl.ShAsl, 1, 0, 32, 2, 128, v | n}, {impl.ShAsl, 1, 0, 240, 3, 128, c | x | n}, {impl.ShAsl, 1, 31, 1, 3, 8, 0},
		{impl.ShAsl, 2, 0, 16384, 3, 0, v | z}, {impl.ShAsl, 2, 0, 40961, 3, 8, c | x | v}, {impl.ShAsl, 2, 0, 1, 15, 32768, v | n}, {impl.ShAsl, 2, 0, 1, 16, 0, c | x | v | z}, {impl.ShAsl, 2, 0, 1, 17, 0, v | z},
		{impl.ShAsr, 1, 0, 128, 63, 255, c | x | n}, {impl.ShAsr, 1, 0, 127, 63, 0, z}, {impl.ShAsr, 1, 0, 128, 8, 255, c | x | n}, {impl.ShAsr, 2, 0, 32768, 15, 65535, n}, {impl.ShAsr, 2, x, 32768, 16, 65535, c | x | n},
		{impl.ShLsl, 1, 0, 1, 8, 0, c | x | z}, {impl.ShLsl, 1, 0, 1, 9, 0, z}, {impl.ShLsl, 2, 0, 1, 16, 0, c | x | z}, {impl.ShLsl, 2, x, 1, 17, 0, z}, {impl.ShLsl, 2, 0, 1, 8, 256, 0},
		{impl.ShLsr, 1, 0, 128, 8, 0, c | x | z}, {impl.ShLsr, 1, 0, 128, 9, 0, z}, {impl.ShLsr, 2, 0, 32768, 16, 0, c | x | z}, {impl.ShLsr, 2, 0, 32768, 17, 0, z}, {impl.ShLsr, 2, x, 65535, 63, 0, z},
		{impl.ShRol, 1, x, 147, 8, 147, c | n | x}, {impl.ShRol, 1, 0, 146, 8, 146, n}, {impl.ShRor, 1, 0, 147, 8, 147, c | n}, {impl.ShRor, 2, x, 4660, 16, 4660, x}, {impl.ShRol, 2, 0, 4660, 8, 13330, 0},
		{impl.ShRoxl, 1, x, 147, 9, 147, c | n | x}, {impl.ShRoxl, 1, 0, 147, 9, 147, n}, {impl.ShRoxr, 1, x, 18, 9, 18, c | x}, {impl.ShRoxr, 2, x, 4660, 17, 4660, c | x}, {impl.ShRoxl, 2, 0, 4661, 17, 4661, 0}, {impl.ShRoxl, 1, x, 0, 8, 128, n},
	} {
		if got, told, ok := impl.ShiftBy(k.kind, k.size, k.flags, k.v, k.count); got != k.want || told != k.told || !ok {
			t.Errorf("ShiftBy(%d, %d, %d, %d, %d) = %d, %d, %v; want %d, %d", k.kind, k.size, k.flags, k.v, k.count, got, told, ok, k.want, k.told)
		}
	}
}

func TestShiftByNoughtPlaces(t *testing.T) {
	for _, kind := range shiftKinds {
		for _, size := range sizes {
			for _, v := range valuesOf(size) {
				for flags := range 32 {
					want := wantedUnmoved(kind, size, flags, v)
					if got, told, ok := impl.ShiftBy(kind, size, flags, v, 0); got != v || told != want || !ok {
						t.Fatalf("ShiftBy(%d, %d, %d, %d, 0) = %d, %d, %v; want %d, %d", kind, size, flags, v, got, told, ok, v, want)
					}
				}
			}
		}
	}
}

func TestSoManyPlacesAreOnePlaceSoOften(t *testing.T) {
	for _, kind := range shiftKinds {
		for _, size := range sizes {
			for _, v := range valuesOf(size) {
				for _, flags := range []int{0, impl.FlagX, 15, 31} {
					want, told, turned := v, flags, 0
					for count := 1; count <= 63; count++ {
						want, told = wantedShift(kind, size, told, want)
						turned |= told & impl.FlagV
						got, gotTold, ok := impl.ShiftBy(kind, size, flags, v, count)
						if got != want || gotTold != told|turned || !ok {
							t.Fatalf("ShiftBy(%d, %d, %d, %d, %d) = %d, %d, %v; want %d, %d", kind, size, flags, v, count, got, gotTold, ok, want, told|turned)
						}
					}
				}
			}
		}
	}
}

func TestIsLeft(t *testing.T) {
	want := []bool{true, false, true, false, true, false, true, false}
	for _, kind := range shiftKinds {
		if up, ok := impl.IsLeft(kind); up != want[kind] || !ok {
			t.Errorf("IsLeft(%d) = %v, %v", kind, up, ok)
		}
	}
}

func TestWhatIsTurnedComesBack(t *testing.T) {
	for _, kind := range turningKinds {
		for _, size := range sizes {
			for _, v := range valuesOf(size) {
				for _, flags := range []int{0, 1, impl.FlagX, 15, 31} {
					for count := range 64 {
						if got, ok := impl.RotateBack(kind, size, flags, v, count); got != v || !ok {
							t.Fatalf("RotateBack(%d, %d, %d, %d, %d) = %d, %v", kind, size, flags, v, count, got, ok)
						}
					}
				}
			}
		}
	}
}

func TestTurnedAllTheWayRound(t *testing.T) {
	for _, kind := range turningKinds {
		for _, size := range sizes {
			round := bitsOf[size]
			if kind == impl.ShRoxl || kind == impl.ShRoxr {
				round++
			}
			for _, v := range valuesOf(size) {
				for _, flags := range []int{0, impl.FlagX} {
					for count := round; count <= 63; count += round {
						got, told, ok := impl.ShiftBy(kind, size, flags, v, count)
						if got != v || told&impl.FlagX != flags || !ok {
							t.Fatalf("ShiftBy(%d, %d, %d, %d, %d) = %d, %d, %v", kind, size, flags, v, count, got, told, ok)
						}
					}
				}
			}
		}
	}
}

func TestCountOnesAndReverseBitsOfEveryValue(t *testing.T) {
	for _, size := range sizes {
		for v := range greatestOf(size) + 1 {
			text := bitText(size, v)
			if n, ok := impl.CountOnes(size, v); n != strings.Count(text, "1") || !ok {
				t.Fatalf("CountOnes(%d, %d) = %d, %v", size, v, n, ok)
			}
			back := []byte(text)
			slices.Reverse(back)
			want := valueOfText(string(back))
			if got, ok := impl.ReverseBits(size, v); got != want || !ok {
				t.Fatalf("ReverseBits(%d, %d) = %d, %v; want %d", size, v, got, ok, want)
			}
		}
	}
}

func TestCountOnesAndReverseBitsEdges(t *testing.T) {
	for _, k := range []struct{ size, v, ones, back int }{
		{1, 0, 0, 0}, {1, 255, 8, 255}, {1, 1, 1, 128}, {1, 128, 1, 1}, {1, 129, 2, 129}, {1, 24, 2, 24}, {1, 6, 2, 96},
		{2, 0, 0, 0}, {2, 65535, 16, 65535}, {2, 1, 1, 32768}, {2, 32768, 1, 1}, {2, 32769, 2, 32769}, {2, 384, 2, 384}, {2, 255, 8, 65280},
	} {
		if n, ok := impl.CountOnes(k.size, k.v); n != k.ones || !ok {
			t.Errorf("CountOnes(%d, %d) = %d, %v; want %d", k.size, k.v, n, ok, k.ones)
		}
		if got, ok := impl.ReverseBits(k.size, k.v); got != k.back || !ok {
			t.Errorf("ReverseBits(%d, %d) = %d, %v; want %d", k.size, k.v, got, ok, k.back)
		}
	}
}

func refusesShifts(t *testing.T, kind int, size int, flags int, v int, count int) {
	t.Helper()
	if got, told, ok := impl.ShiftBy(kind, size, flags, v, count); got != 0 || told != 0 || ok {
		t.Errorf("ShiftBy(%d, %d, %d, %d, %d) = %d, %d, %v", kind, size, flags, v, count, got, told, ok)
	}
	if got, ok := impl.RotateBack(kind, size, flags, v, count); got != 0 || ok {
		t.Errorf("RotateBack(%d, %d, %d, %d, %d) = %d, %v", kind, size, flags, v, count, got, ok)
	}
}

func refusesEveryShift(t *testing.T, kind int, size int, flags int, v int) {
	t.Helper()
	if got, told, ok := impl.ShiftOnce(kind, size, flags, v); got != 0 || told != 0 || ok {
		t.Errorf("ShiftOnce(%d, %d, %d, %d) = %d, %d, %v", kind, size, flags, v, got, told, ok)
	}
	for _, count := range []int{0, 1, 8, 63} {
		refusesShifts(t, kind, size, flags, v, count)
	}
}

func refusesBitCounts(t *testing.T, size int, v int) {
	t.Helper()
	if n, ok := impl.CountOnes(size, v); n != 0 || ok {
		t.Errorf("CountOnes(%d, %d) = %d, %v", size, v, n, ok)
	}
	if got, ok := impl.ReverseBits(size, v); got != 0 || ok {
		t.Errorf("ReverseBits(%d, %d) = %d, %v", size, v, got, ok)
	}
}

func TestShiftsRefuseWrongInputs(t *testing.T) {
	for _, kind := range wrongKinds {
		for _, size := range sizes {
			refusesEveryShift(t, kind, size, 31, 5)
		}
		if up, ok := impl.IsLeft(kind); up || ok {
			t.Errorf("IsLeft(%d) = %v, %v", kind, up, ok)
		}
	}
	for _, kind := range shiftKinds {
		for _, size := range wrongSizes {
			refusesEveryShift(t, kind, size, 31, 5)
		}
		for _, size := range sizes {
			for _, flags := range wrongFlags {
				refusesEveryShift(t, kind, size, flags, 5)
			}
			for _, v := range wrongValues(size) {
				refusesEveryShift(t, kind, size, 31, v)
			}
			for _, count := range wrongCounts {
				refusesShifts(t, kind, size, 31, 5, count)
			}
		}
	}
}

func TestBitCountsRefuseWrongInputs(t *testing.T) {
	for _, size := range wrongSizes {
		refusesBitCounts(t, size, 5)
	}
	for _, size := range sizes {
		for _, v := range wrongValues(size) {
			refusesBitCounts(t, size, v)
		}
	}
}

func TestRotateBackRefusesKindsThatTurnNothing(t *testing.T) {
	for _, kind := range []int{impl.ShAsl, impl.ShAsr, impl.ShLsl, impl.ShLsr, -1, 8} {
		for _, size := range sizes {
			for _, count := range []int{0, 1, 8, 63} {
				if got, ok := impl.RotateBack(kind, size, 0, 5, count); got != 0 || ok {
					t.Errorf("RotateBack(%d, %d, 0, 5, %d) = %d, %v", kind, size, count, got, ok)
				}
			}
		}
	}
}
