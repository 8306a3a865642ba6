package tests

import (
	"math"
	"slices"
	"testing"

	"loop.example/g00389/impl"
)

// What chapter 8 must answer of flags is written out here, one row a condition;
// what it must answer of two values is worked out from them as numbers, without a look at any flag.

// toldRows: of each condition a digit for each of the flags 0 to 15, which are all but FlagX.
var toldRows = []string{
	"1111111111111111", "0000000000000000", // CcTrue, CcFalse
	"1010000010100000", "0101111101011111", // CcHigh, CcLowSame
	"1010101010101010", "0101010101010101", // CcNoCarry, CcCarry
	"1111000011110000", "0000111100001111", // CcUnlike, CcSame
	"1100110011001100", "0011001100110011", // CcNoOver, CcOver
	"1111111100000000", "0000000011111111", // CcPlus, CcMinus
	"1100110000110011", "0011001111001100", // CcAtLeast, CcLess
	"1100000000110000", "0011111111001111", // CcGreater, CcAtMost
}

var wrongConds = []int{-1, -2, -15, -16, 16, 17, 18, 31, 32, 256, 1 << 32, math.MaxInt, math.MinInt}

func wantedCond(cond int, flags int) bool { return toldRows[cond][flags%16] == '1' }

func wantedNeeds(cond int) int {
	const c, v, z, n = impl.FlagC, impl.FlagV, impl.FlagZ, impl.FlagN
	return []int{0, c + z, c, z, v, n, n + v, n + v + z}[cond/2]
}

func wantedCount(flags int) int {
	count := 0
	for cond := range toldRows {
		if wantedCond(cond, flags) {
			count++
		}
	}
	return count
}

// wantedFor: in the order of the conditions, each with its contrary behind it.
func wantedFor(size int, a int, b int) []bool {
	p, q := signedNumber(size, a), signedNumber(size, b)
	half := (greatestOf(size) + 1) / 2
	left := ((a-b)%(2*half) + 2*half) % (2 * half)
	over := p-q < -half || p-q >= half
	var l []bool
	for _, is := range []bool{true, a > b, a >= b, a != b, !over, left < half, p >= q, p > q} {
		l = append(l, is, !is)
	}
	return l
}

func signedNumber(size int, v int) int {
	if v > greatestOf(size)/2 {
		return v - greatestOf(size) - 1
	}
	return v
}

func refusesCond(t *testing.T, cond int, flags int) {
	t.Helper()
	if is, ok := impl.TestCond(cond, flags); is || ok {
		t.Errorf("TestCond(%d, %d) = %v, %v", cond, flags, is, ok)
	}
}

func refusesFor(t *testing.T, size int, a int, b int) {
	t.Helper()
	if l, ok := impl.CondFor(size, a, b); len(l) != 0 || ok {
		t.Errorf("CondFor(%d, %d, %d) = %v, %v", size, a, b, l, ok)
	}
}

func checkFor(t *testing.T, size int, a int, b int) {
	t.Helper()
	l, ok := impl.CondFor(size, a, b)
	if want := wantedFor(size, a, b); !slices.Equal(l, want) || !ok {
		t.Fatalf("CondFor(%d, %d, %d) = %v, %v; want %v", size, a, b, l, ok, want)
	}
	flags, _ := impl.CmpFlags(size, 0, a, b)
	for cond, is := range l {
		if told, ok := impl.TestCond(cond, flags); told != is || !ok {
			t.Fatalf("CondFor(%d, %d, %d)[%d] = %v; TestCond tells %v, %v", size, a, b, cond, is, told, ok)
		}
	}
}

func TestConstantsOfConditions(t *testing.T) {
	got := []int{impl.CcTrue, impl.CcFalse, impl.CcHigh, impl.CcLowSame, impl.CcNoCarry, impl.CcCarry, impl.CcUnlike, impl.CcSame,
		impl.CcNoOver, impl.CcOver, impl.CcPlus, impl.CcMinus, impl.CcAtLeast, impl.CcLess, impl.CcGreater, impl.CcAtMost}
	for cond, k := range got {
		if k != cond {
			t.Error(got)
		}
	}
}

func TestEveryConditionWithEveryFlags(t *testing.T) {
	for cond := range 16 {
		for flags := range 32 {
			if is, ok := impl.TestCond(cond, flags); is != wantedCond(cond, flags) || !ok {
				t.Errorf("TestCond(%d, %d) = %v, %v", cond, flags, is, ok)
			}
		}
	}
}

func TestSignAndOverflowAreLookedAtTogether(t *testing.T) {
	const v, z, n, x = impl.FlagV, impl.FlagZ, impl.FlagN, impl.FlagX
	for _, c := range []struct {
		flags            int
		atLeast, greater bool
	}{
		{0, true, true}, {n | v, true, true}, {n, false, false}, {v, false, false},
		{z, true, false}, {z | n | v, true, false}, {z | n, false, false}, {z | v, false, false},
	} {
		for _, more := range []int{0, x, impl.FlagC, impl.FlagC | x} {
			for cond, want := range map[int]bool{impl.CcAtLeast: c.atLeast, impl.CcLess: !c.atLeast, impl.CcGreater: c.greater, impl.CcAtMost: !c.greater} {
				if is, ok := impl.TestCond(cond, c.flags|more); is != want || !ok {
					t.Errorf("TestCond(%d, %d) = %v, %v; want %v", cond, c.flags|more, is, ok, want)
				}
			}
		}
	}
}

func TestAConditionAndItsContraryNeverBothHold(t *testing.T) {
	for cond := range 16 {
		contrary, ok := impl.ContraryOf(cond)
		back, okBack := impl.ContraryOf(contrary)
		if !ok || !okBack || back != cond || contrary/2 != cond/2 || contrary == cond {
			t.Errorf("ContraryOf(%d) = %d, %v; back %d, %v", cond, contrary, ok, back, okBack)
		}
		for flags := range 32 {
			is, _ := impl.TestCond(cond, flags)
			other, _ := impl.TestCond(contrary, flags)
			if is == other {
				t.Errorf("flags %d: %d and %d both tell %v", flags, cond, contrary, is)
			}
		}
	}
}

func TestNeedsOfEveryCondition(t *testing.T) {
	for cond := range 16 {
		if needs, ok := impl.NeedsOf(cond); needs != wantedNeeds(cond) || !ok {
			t.Errorf("NeedsOf(%d) = %d, %v; want %d", cond, needs, ok, wantedNeeds(cond))
		}
	}
}

func TestFlagsThatAreNotNeededChangeNothing(t *testing.T) {
	for cond := range 16 {
		needs, _ := impl.NeedsOf(cond)
		for flags := range 32 {
			is, _ := impl.TestCond(cond, flags)
			if alone, ok := impl.TestCond(cond, flags&needs); alone != is || !ok {
				t.Errorf("TestCond(%d, %d) = %v, but %v of the flags %d that it needs", cond, flags, is, alone, flags&needs)
			}
		}
	}
}

func TestEachFlagThatIsNeededChangesSomething(t *testing.T) {
	for cond := range 16 {
		needs, _ := impl.NeedsOf(cond)
		for flag := 1; flag < 32; flag *= 2 {
			changes := false
			for flags := range 32 {
				is, _ := impl.TestCond(cond, flags)
				other, _ := impl.TestCond(cond, flags^flag)
				changes = changes || is != other
			}
			if changes != (needs&flag != 0) {
				t.Errorf("NeedsOf(%d) = %d, but flag %d changes it: %v", cond, needs, flag, changes)
			}
		}
	}
}

func TestCondForBytes(t *testing.T) {
	for a := range 256 {
		for b := range 256 {
			checkFor(t, impl.SizeByte, a, b)
		}
	}
}

func TestCondForWords(t *testing.T) {
	for _, a := range valuesOf(impl.SizeWord) {
		for _, b := range valuesOf(impl.SizeWord) {
			checkFor(t, impl.SizeWord, a, b)
		}
	}
}

func TestCondForAtTheEdges(t *testing.T) {
	for _, c := range []struct {
		size, a, b          int
		high, greater, same bool
	}{
		{1, 0, 0, false, false, true}, {1, 5, 200, false, true, false}, {1, 200, 5, true, false, false},
		{1, 127, 128, false, true, false}, {1, 128, 127, true, false, false}, {1, 255, 0, true, false, false}, {1, 0, 255, false, true, false},
		{1, 255, 128, true, true, false}, {1, 128, 255, false, false, false}, {1, 128, 128, false, false, true}, {1, 255, 255, false, false, true},
		{2, 0, 0, false, false, true}, {2, 127, 128, false, false, false}, {2, 128, 127, true, true, false},
		{2, 32767, 32768, false, true, false}, {2, 32768, 32767, true, false, false}, {2, 65535, 0, true, false, false}, {2, 0, 65535, false, true, false},
		{2, 65535, 32768, true, true, false}, {2, 32768, 65535, false, false, false}, {2, 65535, 65535, false, false, true},
	} {
		l, ok := impl.CondFor(c.size, c.a, c.b)
		if !ok || len(l) != 16 || l[impl.CcHigh] != c.high || l[impl.CcGreater] != c.greater || l[impl.CcSame] != c.same {
			t.Errorf("CondFor(%d, %d, %d) = %v, %v", c.size, c.a, c.b, l, ok)
		}
	}
}

func TestCountTrueOfEveryFlags(t *testing.T) {
	for flags := range 32 {
		if n, ok := impl.CountTrue(flags); n != wantedCount(flags) || n != 8 || !ok {
			t.Errorf("CountTrue(%d) = %d, %v", flags, n, ok)
		}
	}
}

func TestWrongConditionsAreRefused(t *testing.T) {
	for _, cond := range wrongConds {
		for flags := range 32 {
			refusesCond(t, cond, flags)
		}
		for _, flags := range wrongFlags {
			refusesCond(t, cond, flags)
		}
		if needs, ok := impl.NeedsOf(cond); needs != 0 || ok {
			t.Errorf("NeedsOf(%d) = %d, %v", cond, needs, ok)
		}
		if contrary, ok := impl.ContraryOf(cond); contrary != 0 || ok {
			t.Errorf("ContraryOf(%d) = %d, %v", cond, contrary, ok)
		}
	}
}

func TestConditionsOfWrongFlagsAreRefused(t *testing.T) {
	for _, flags := range wrongFlags {
		for cond := range 16 {
			refusesCond(t, cond, flags)
		}
		if n, ok := impl.CountTrue(flags); n != 0 || ok {
			t.Errorf("CountTrue(%d) = %d, %v", flags, n, ok)
		}
	}
}

func TestConditionsOfWrongValuesAreRefused(t *testing.T) {
	for _, size := range wrongSizes {
		refusesFor(t, size, 0, 0)
		refusesFor(t, size, 5, 200)
	}
	for _, size := range sizes {
		for _, wrong := range wrongValues(size) {
			refusesFor(t, size, wrong, 0)
			refusesFor(t, size, 0, wrong)
			refusesFor(t, size, wrong, wrong)
		}
	}
}

func TestWhatCondForAnswersIsNewMemory(t *testing.T) {
	first, _ := impl.CondFor(impl.SizeByte, 5, 200)
	for i := range first {
		first[i] = !first[i]
	}
	checkFor(t, impl.SizeByte, 5, 200)
	second, _ := impl.CondFor(impl.SizeByte, 5, 200)
	if &first[0] == &second[0] {
		t.Error("two answers share their memory")
	}
}
