package tests

import (
	"math"
	"slices"
	"testing"

	"loop.example/g00389/impl"
)

// What chapter 1 must answer is worked out here bit by bit, as a row of adders does it,
// so that a fault in the program's sums of whole numbers can't hide in the test too.

var bitsOf = map[int]int{impl.SizeByte: 8, impl.SizeWord: 16}

var sizes = []int{impl.SizeByte, impl.SizeWord}

func greatestOf(size int) int { return 1<<bitsOf[size] - 1 }

// marksOf: FlagZ and FlagN by a value.
func marksOf(size int, v int) int {
	flags := 0
	if v == 0 {
		flags |= impl.FlagZ
	}
	if v>>(bitsOf[size]-1) == 1 {
		flags |= impl.FlagN
	}
	return flags
}

// ripple adds bit by bit from a carry on: the value, the carry out of the highest bit, and whether
// the carry into the highest bit is another one, which is so just where the sum with signs is none of a value.
func ripple(size int, carry int, a int, b int) (int, int, bool) {
	v, into := 0, 0
	for i := range bitsOf[size] {
		into = carry
		p, q := a>>i&1, b>>i&1
		v |= (p ^ q ^ carry) << i
		carry = p&q | p&carry | q&carry
	}
	return v, carry, into != carry
}

func wantedSum(size int, x int, a int, b int) (int, int) {
	v, carry, over := ripple(size, x, a, b)
	return v, sumMarks(size, v, carry == 1, over)
}

func wantedDifference(size int, x int, a int, b int) (int, int) {
	v, carry, over := ripple(size, 1-x, a, greatestOf(size)-b)
	return v, sumMarks(size, v, carry == 0, over)
}

func sumMarks(size int, v int, carry bool, over bool) int {
	flags := marksOf(size, v)
	if carry {
		flags |= impl.FlagC | impl.FlagX
	}
	if over {
		flags |= impl.FlagV
	}
	return flags
}

// valuesOf: all bytes; of words those at the edges, and some between.
func valuesOf(size int) []int {
	if size == impl.SizeWord {
		return []int{0, 1, 2, 127, 128, 129, 254, 255, 256, 257, 4660, 16383, 16384, 32765, 32766, 32767, 32768, 32769, 32770, 43981, 49152, 65279, 65280, 65533, 65534, 65535}
	}
	all := make([]int, 256)
	for v := range all {
		all[v] = v
	}
	return all
}

var wrongSizes = []int{0, 3, 4, 8, 16, -1, -2, math.MaxInt, math.MinInt}

var wrongBits = []int{-1, 2, 3, 16, 256, 257, 65536, 65537, math.MaxInt, math.MinInt}

var wrongFlags = []int{-1, -16, 32, 33, 48, 256, 65536, math.MaxInt, math.MinInt}

func wrongValues(size int) []int {
	top := greatestOf(size) + 1
	return []int{top, top + 1, 2*top - 1, 2 * top, 1 << 16, 1 << 32, -1, -2, -top / 2, -top, 1 - top, math.MaxInt, math.MinInt}
}

func TestConstantsOfSums(t *testing.T) {
	got := []int{impl.SizeByte, impl.SizeWord, impl.FlagC, impl.FlagV, impl.FlagZ, impl.FlagN, impl.FlagX}
	if !slices.Equal(got, []int{1, 2, 1, 2, 4, 8, 16}) {
		t.Error(got)
	}
}

func TestSignedOfEdges(t *testing.T) {
	for _, c := range []struct{ size, v, want int }{
		{1, 0, 0}, {1, 1, 1}, {1, 127, 127}, {1, 128, -128}, {1, 129, -127}, {1, 255, -1},
		{2, 0, 0}, {2, 255, 255}, {2, 32767, 32767}, {2, 32768, -32768}, {2, 32769, -32767}, {2, 65535, -1},
	} {
		if n, ok := impl.SignedOf(c.size, c.v); n != c.want || !ok {
			t.Errorf("SignedOf(%d, %d) = %d, %v; want %d", c.size, c.v, n, ok, c.want)
		}
	}
}

func TestSignedOfEveryValue(t *testing.T) {
	for _, size := range sizes {
		for v := range greatestOf(size) + 1 {
			want := v - v>>(bitsOf[size]-1)<<bitsOf[size]
			if n, ok := impl.SignedOf(size, v); n != want || !ok {
				t.Fatalf("SignedOf(%d, %d) = %d, %v; want %d", size, v, n, ok, want)
			}
		}
	}
}

func TestAddFlagsEdges(t *testing.T) {
	const c, v, z, n, x = impl.FlagC, impl.FlagV, impl.FlagZ, impl.FlagN, impl.FlagX
	for _, k := range []struct{ size, x, a, b, sum, flags int }{
		{1, 0, 0, 0, 0, z}, {1, 1, 0, 0, 1, 0}, {1, 0, 3, 4, 7, 0},
		{1, 0, 255, 0, 255, n}, {1, 0, 255, 1, 0, c | x | z}, {1, 1, 255, 0, 0, c | x | z}, {1, 1, 255, 255, 255, c | x | n},
		{1, 0, 127, 0, 127, 0}, {1, 0, 127, 1, 128, v | n}, {1, 1, 127, 0, 128, v | n}, {1, 1, 127, 127, 255, v | n},
		{1, 0, 128, 128, 0, c | x | v | z}, {1, 1, 128, 128, 1, c | x | v}, {1, 0, 128, 255, 127, c | x | v}, {1, 1, 128, 255, 128, c | x | n},
		{1, 1, 128, 127, 0, c | x | z},
		{2, 0, 0, 0, 0, z}, {2, 1, 0, 0, 1, 0}, {2, 0, 255, 1, 256, 0},
		{2, 0, 65535, 0, 65535, n}, {2, 0, 65535, 1, 0, c | x | z}, {2, 1, 65535, 0, 0, c | x | z}, {2, 1, 65535, 65535, 65535, c | x | n},
		{2, 0, 32767, 1, 32768, v | n}, {2, 1, 32767, 0, 32768, v | n}, {2, 1, 32767, 32767, 65535, v | n},
		{2, 0, 32768, 32768, 0, c | x | v | z}, {2, 0, 32768, 65535, 32767, c | x | v}, {2, 1, 32768, 65535, 32768, c | x | n},
	} {
		if sum, flags, ok := impl.AddFlags(k.size, k.x, k.a, k.b); sum != k.sum || flags != k.flags || !ok {
			t.Errorf("AddFlags(%d, %d, %d, %d) = %d, %d, %v; want %d, %d", k.size, k.x, k.a, k.b, sum, flags, ok, k.sum, k.flags)
		}
	}
}

func TestSubFlagsEdges(t *testing.T) {
	const c, v, z, n, x = impl.FlagC, impl.FlagV, impl.FlagZ, impl.FlagN, impl.FlagX
	for _, k := range []struct{ size, x, a, b, left, flags int }{
		{1, 0, 0, 0, 0, z}, {1, 1, 0, 0, 255, c | x | n}, {1, 0, 9, 4, 5, 0}, {1, 1, 5, 4, 0, z},
		{1, 0, 0, 1, 255, c | x | n}, {1, 0, 255, 255, 0, z}, {1, 1, 255, 255, 255, c | x | n}, {1, 1, 0, 255, 0, c | x | z},
		{1, 0, 128, 1, 127, v}, {1, 1, 128, 0, 127, v}, {1, 0, 127, 255, 128, c | x | v | n}, {1, 1, 127, 255, 127, c | x},
		{1, 0, 0, 128, 128, c | x | v | n}, {1, 1, 0, 128, 127, c | x}, {1, 0, 128, 128, 0, z},
		{2, 0, 0, 0, 0, z}, {2, 1, 0, 0, 65535, c | x | n}, {2, 0, 256, 1, 255, 0},
		{2, 0, 0, 1, 65535, c | x | n}, {2, 1, 65535, 65535, 65535, c | x | n}, {2, 1, 0, 65535, 0, c | x | z},
		{2, 0, 32768, 1, 32767, v}, {2, 1, 32768, 0, 32767, v}, {2, 0, 32767, 65535, 32768, c | x | v | n}, {2, 1, 32767, 65535, 32767, c | x},
		{2, 0, 0, 32768, 32768, c | x | v | n}, {2, 1, 0, 32768, 32767, c | x},
	} {
		if left, flags, ok := impl.SubFlags(k.size, k.x, k.a, k.b); left != k.left || flags != k.flags || !ok {
			t.Errorf("SubFlags(%d, %d, %d, %d) = %d, %d, %v; want %d, %d", k.size, k.x, k.a, k.b, left, flags, ok, k.left, k.flags)
		}
	}
}

func TestSumsAndDifferencesBitByBit(t *testing.T) {
	for _, size := range sizes {
		for _, a := range valuesOf(size) {
			for _, b := range valuesOf(size) {
				for x := range 2 {
					want, flags := wantedSum(size, x, a, b)
					if v, f, ok := impl.AddFlags(size, x, a, b); v != want || f != flags || !ok {
						t.Fatalf("AddFlags(%d, %d, %d, %d) = %d, %d, %v; want %d, %d", size, x, a, b, v, f, ok, want, flags)
					}
					want, flags = wantedDifference(size, x, a, b)
					if v, f, ok := impl.SubFlags(size, x, a, b); v != want || f != flags || !ok {
						t.Fatalf("SubFlags(%d, %d, %d, %d) = %d, %d, %v; want %d, %d", size, x, a, b, v, f, ok, want, flags)
					}
				}
			}
		}
	}
}

func TestCmpFlagsKeepsFlagX(t *testing.T) {
	for _, size := range sizes {
		top := greatestOf(size)
		for _, pair := range [][2]int{{0, 0}, {0, 1}, {1, 0}, {5, 5}, {top, top}, {0, top}, {top, 0}, {top/2 + 1, 1}, {top / 2, top}, {0, top/2 + 1}} {
			_, told := wantedDifference(size, 0, pair[0], pair[1])
			for flags := range 32 {
				want := told&15 | flags&16
				if got, ok := impl.CmpFlags(size, flags, pair[0], pair[1]); got != want || !ok {
					t.Errorf("CmpFlags(%d, %d, %d, %d) = %d, %v; want %d", size, flags, pair[0], pair[1], got, ok, want)
				}
			}
		}
	}
}

func TestLogicFlagsKeepsFlagX(t *testing.T) {
	for _, size := range sizes {
		for _, v := range valuesOf(size) {
			for flags := range 32 {
				want := marksOf(size, v) | flags&16
				if got, ok := impl.LogicFlags(size, flags, v); got != want || !ok {
					t.Fatalf("LogicFlags(%d, %d, %d) = %d, %v; want %d", size, flags, v, got, ok, want)
				}
			}
		}
	}
}

func TestNegFlagsIsZeroLess(t *testing.T) {
	for _, k := range []struct{ size, a, v, flags int }{
		{1, 0, 0, 4}, {1, 1, 255, 25}, {1, 127, 129, 25}, {1, 128, 128, 27}, {1, 255, 1, 17},
		{2, 0, 0, 4}, {2, 1, 65535, 25}, {2, 32767, 32769, 25}, {2, 32768, 32768, 27}, {2, 65535, 1, 17}, {2, 128, 65408, 25},
	} {
		if v, flags, ok := impl.NegFlags(k.size, k.a); v != k.v || flags != k.flags || !ok {
			t.Errorf("NegFlags(%d, %d) = %d, %d, %v; want %d, %d", k.size, k.a, v, flags, ok, k.v, k.flags)
		}
	}
	for _, size := range sizes {
		for _, a := range valuesOf(size) {
			want, flags := wantedDifference(size, 0, 0, a)
			if v, f, ok := impl.NegFlags(size, a); v != want || f != flags || !ok {
				t.Fatalf("NegFlags(%d, %d) = %d, %d, %v; want %d, %d", size, a, v, f, ok, want, flags)
			}
		}
	}
}

func TestExtendWordKeepsTheSign(t *testing.T) {
	for v := range 256 {
		want := v
		if v >= 128 {
			want = v + 65280
		}
		if got, ok := impl.ExtendWord(v); got != want || !ok {
			t.Errorf("ExtendWord(%d) = %d, %v; want %d", v, got, ok, want)
		}
	}
}

func TestSwapBytesTurnsBothRound(t *testing.T) {
	for _, k := range [][2]int{{0, 0}, {1, 256}, {255, 65280}, {256, 1}, {65280, 255}, {65535, 65535}, {32768, 128}, {4660, 13330}} {
		if got, ok := impl.SwapBytes(k[0]); got != k[1] || !ok {
			t.Errorf("SwapBytes(%d) = %d, %v; want %d", k[0], got, ok, k[1])
		}
	}
	for v := range 65536 {
		want := v<<8&65280 | v>>8
		if got, ok := impl.SwapBytes(v); got != want || !ok {
			t.Fatalf("SwapBytes(%d) = %d, %v; want %d", v, got, ok, want)
		}
	}
}

func TestAddManyEdges(t *testing.T) {
	const c, v, z, n, x = impl.FlagC, impl.FlagV, impl.FlagZ, impl.FlagN, impl.FlagX
	for _, k := range []struct {
		size      int
		a, b, sum []int
		flags     int
	}{
		{1, []int{0}, []int{0}, []int{0}, z},
		{1, []int{3}, []int{4}, []int{7}, 0},
		{1, []int{255}, []int{1}, []int{0}, c | x | z},
		{1, []int{127}, []int{1}, []int{128}, v | n},
		{1, []int{255, 0}, []int{1, 0}, []int{0, 1}, 0},
		{1, []int{255, 255}, []int{1, 0}, []int{0, 0}, c | x | z},
		{1, []int{1, 255}, []int{0, 1}, []int{1, 0}, c | x},
		{1, []int{1, 0}, []int{0, 0}, []int{1, 0}, 0},
		{1, []int{0, 0}, []int{0, 0}, []int{0, 0}, z},
		{1, []int{255, 127}, []int{1, 0}, []int{0, 128}, v | n},
		{1, []int{127, 0}, []int{1, 0}, []int{128, 0}, 0},
		{1, []int{255, 255, 255, 255, 255, 255, 255, 255}, []int{1, 0, 0, 0, 0, 0, 0, 0}, []int{0, 0, 0, 0, 0, 0, 0, 0}, c | x | z},
		{1, []int{255, 255, 255, 255, 255, 255, 255, 0}, []int{1, 0, 0, 0, 0, 0, 0, 0}, []int{0, 0, 0, 0, 0, 0, 0, 1}, 0},
		{2, []int{0}, []int{0}, []int{0}, z},
		{2, []int{65535}, []int{1}, []int{0}, c | x | z},
		{2, []int{65535, 0}, []int{1, 0}, []int{0, 1}, 0},
		{2, []int{255, 0}, []int{1, 0}, []int{256, 0}, 0},
		{2, []int{65535, 32767}, []int{1, 0}, []int{0, 32768}, v | n},
		{2, []int{0, 32768}, []int{0, 32768}, []int{0, 0}, c | x | v | z},
		{2, []int{65535, 65535, 65535, 65535, 65535, 65535, 65535, 65535}, []int{65535, 65535, 65535, 65535, 65535, 65535, 65535, 65535}, []int{65534, 65535, 65535, 65535, 65535, 65535, 65535, 65535}, c | x | n},
	} {
		if sum, flags, ok := impl.AddMany(k.size, k.a, k.b); !slices.Equal(sum, k.sum) || flags != k.flags || !ok {
			t.Errorf("AddMany(%d, %v, %v) = %v, %d, %v; want %v, %d", k.size, k.a, k.b, sum, flags, ok, k.sum, k.flags)
		}
	}
}

// longList: parts by a fixed rule, all of them at the edges, so that carries run on.
func longList(size int, length int, seed int) []int {
	edges := []int{0, greatestOf(size), 1, greatestOf(size) - 1, greatestOf(size) / 2, greatestOf(size)/2 + 1}
	l := make([]int, length)
	for i := range l {
		seed = (seed*1103515245 + 12345) % (1 << 31)
		l[i] = edges[seed>>16%len(edges)]
	}
	return l
}

func TestAddManyPartByPart(t *testing.T) {
	for _, size := range sizes {
		for length := 1; length <= 8; length++ {
			for seed := range 300 {
				a, b := longList(size, length, seed), longList(size, length, seed+1000)
				want, carry, flags, zero := make([]int, length), 0, 0, impl.FlagZ
				for i := range a {
					want[i], flags = wantedSum(size, carry, a[i], b[i])
					carry = flags & impl.FlagC
					if want[i] != 0 {
						zero = 0
					}
				}
				flags = flags&^impl.FlagZ | zero
				if sum, f, ok := impl.AddMany(size, a, b); !slices.Equal(sum, want) || f != flags || !ok {
					t.Fatalf("AddMany(%d, %v, %v) = %v, %d, %v; want %v, %d", size, a, b, sum, f, ok, want, flags)
				}
			}
		}
	}
}

func refusesSums(t *testing.T, size int, x int, a int, b int) {
	t.Helper()
	if v, f, ok := impl.AddFlags(size, x, a, b); v != 0 || f != 0 || ok {
		t.Errorf("AddFlags(%d, %d, %d, %d) = %d, %d, %v; want the zero answer", size, x, a, b, v, f, ok)
	}
	if v, f, ok := impl.SubFlags(size, x, a, b); v != 0 || f != 0 || ok {
		t.Errorf("SubFlags(%d, %d, %d, %d) = %d, %d, %v; want the zero answer", size, x, a, b, v, f, ok)
	}
}

func refusesCmp(t *testing.T, size int, flags int, a int, b int) {
	t.Helper()
	if f, ok := impl.CmpFlags(size, flags, a, b); f != 0 || ok {
		t.Errorf("CmpFlags(%d, %d, %d, %d) = %d, %v; want the zero answer", size, flags, a, b, f, ok)
	}
}

func refusesLogic(t *testing.T, size int, flags int, v int) {
	t.Helper()
	if f, ok := impl.LogicFlags(size, flags, v); f != 0 || ok {
		t.Errorf("LogicFlags(%d, %d, %d) = %d, %v; want the zero answer", size, flags, v, f, ok)
	}
}

// refusesValue: of a size and a value that don't go together, whatever else is good.
func refusesValue(t *testing.T, size int, v int) {
	t.Helper()
	for x := range 2 {
		refusesSums(t, size, x, v, 1)
		refusesSums(t, size, x, 1, v)
		refusesSums(t, size, x, v, v)
	}
	for _, flags := range []int{0, 16, 31} {
		refusesCmp(t, size, flags, v, 1)
		refusesCmp(t, size, flags, 1, v)
		refusesCmp(t, size, flags, v, v)
		refusesLogic(t, size, flags, v)
	}
	if n, ok := impl.SignedOf(size, v); n != 0 || ok {
		t.Errorf("SignedOf(%d, %d) = %d, %v; want the zero answer", size, v, n, ok)
	}
	if n, f, ok := impl.NegFlags(size, v); n != 0 || f != 0 || ok {
		t.Errorf("NegFlags(%d, %d) = %d, %d, %v; want the zero answer", size, v, n, f, ok)
	}
}

func TestWrongSizesOfSums(t *testing.T) {
	for _, size := range wrongSizes {
		for _, v := range []int{0, 1, 128, 255, -1, 65535, math.MaxInt, math.MinInt} {
			refusesValue(t, size, v)
			refusesMany(t, size, []int{v}, []int{1})
		}
	}
}

func TestWrongValuesOfSums(t *testing.T) {
	for _, size := range sizes {
		for _, v := range wrongValues(size) {
			refusesValue(t, size, v)
		}
	}
}

func TestWrongXOfSums(t *testing.T) {
	for _, size := range sizes {
		for _, x := range wrongBits {
			refusesSums(t, size, x, 0, 0)
			refusesSums(t, size, x, 200, 100)
		}
	}
}

func TestWrongFlagsOfSums(t *testing.T) {
	for _, size := range sizes {
		for _, flags := range wrongFlags {
			refusesCmp(t, size, flags, 0, 0)
			refusesCmp(t, size, flags, 200, 100)
			refusesLogic(t, size, flags, 0)
			refusesLogic(t, size, flags, 128)
		}
	}
}

func TestWrongBytesAndWords(t *testing.T) {
	for _, v := range wrongValues(impl.SizeByte) {
		if got, ok := impl.ExtendWord(v); got != 0 || ok {
			t.Errorf("ExtendWord(%d) = %d, %v; want the zero answer", v, got, ok)
		}
	}
	for _, v := range wrongValues(impl.SizeWord) {
		if got, ok := impl.SwapBytes(v); got != 0 || ok {
			t.Errorf("SwapBytes(%d) = %d, %v; want the zero answer", v, got, ok)
		}
	}
}

func refusesMany(t *testing.T, size int, a []int, b []int) {
	t.Helper()
	if sum, flags, ok := impl.AddMany(size, a, b); len(sum) != 0 || flags != 0 || ok {
		t.Errorf("AddMany(%d, %v, %v) = %v, %d, %v; want the zero answer", size, a, b, sum, flags, ok)
	}
}

func TestWrongLists(t *testing.T) {
	for _, size := range sizes {
		refusesMany(t, size, nil, nil)
		refusesMany(t, size, []int{}, nil)
		refusesMany(t, size, []int{}, []int{})
		refusesMany(t, size, make([]int, 9), make([]int, 9))
		refusesMany(t, size, make([]int, 9), make([]int, 8))
		refusesMany(t, size, make([]int, 8), make([]int, 9))
		refusesMany(t, size, []int{1}, nil)
		refusesMany(t, size, nil, []int{1})
		refusesMany(t, size, []int{1, 2}, []int{1})
		refusesMany(t, size, []int{1}, []int{1, 2})
		refusesMany(t, size, make([]int, 1000), make([]int, 1000))
	}
}

func TestOneWrongValueInAList(t *testing.T) {
	for _, size := range sizes {
		for _, wrong := range wrongValues(size) {
			for length := 1; length <= 8; length++ {
				for place := range length {
					good, bad := longList(size, length, 7), longList(size, length, 8)
					bad[place] = wrong
					refusesMany(t, size, good, bad)
					refusesMany(t, size, bad, good)
				}
			}
		}
	}
}

func TestAddManyWritesIntoNone(t *testing.T) {
	for _, size := range sizes {
		memoryA := []int{255, 127, 3, 77, 78, 79}
		memoryB := []int{1, 128, 4, 87, 88, 89}
		keptA, keptB := slices.Clone(memoryA), slices.Clone(memoryB)
		for _, length := range []int{0, 1, 2, 3} {
			sum, _, _ := impl.AddMany(size, memoryA[:length], memoryB[:length])
			impl.AddMany(size, memoryA[:length], memoryB[:2])
			impl.AddMany(9, memoryA[:length], memoryB[:length])
			for i := range sum[:cap(sum)] {
				sum[:cap(sum)][i] = 99
			}
			if !slices.Equal(memoryA, keptA) || !slices.Equal(memoryB, keptB) {
				t.Fatal("an argument's memory was changed", size, length, memoryA, memoryB)
			}
		}
	}
}

func TestAddManyAnswersNewMemory(t *testing.T) {
	for _, size := range sizes {
		a, b := []int{3, 4, 5, 6}, []int{0, 0, 0, 0}
		first, _, _ := impl.AddMany(size, a, b)
		second, _, _ := impl.AddMany(size, b, a)
		third, _, _ := impl.AddMany(size, a, a)
		clear(a)
		clear(b)
		clear(second)
		if !slices.Equal(first, []int{3, 4, 5, 6}) || !slices.Equal(third, []int{6, 8, 10, 12}) {
			t.Error("an answer shares memory", size, first, third)
		}
	}
}
