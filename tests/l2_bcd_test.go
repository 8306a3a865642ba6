package tests

import (
	"fmt"
	"math"
	"math/big"
	"slices"
	"strconv"
	"testing"

	"loop.example/g00389/impl"
)

// What chapter 2 must answer is worked out here from the texts of numbers: a decimal byte is the one
// whose two hexadecimal digits are the number's decimal ones.

func decimalByte(n int) int {
	v, err := strconv.ParseInt(strconv.Itoa(n), 16, 64)
	if err != nil {
		panic(err)
	}
	return int(v)
}

func isDecimalText(v int) bool {
	_, err := strconv.Atoi(fmt.Sprintf("%x", v))
	return err == nil
}

func wantedDecimalSum(x int, a int, b int) (int, int) {
	if n := a + b + x; n > 99 {
		return decimalByte(n - 100), 1
	}
	return decimalByte(a + b + x), 0
}

func wantedDecimalDifference(x int, a int, b int) (int, int) {
	if n := a - b - x; n < 0 {
		return decimalByte(n + 100), 1
	}
	return decimalByte(a - b - x), 0
}

// wrongDecimals: all bytes with a half above 9, and numbers that are no bytes, decimal digits or not.
func wrongDecimals() []int {
	wrong := []int{-1, -2, -16, -153, -256, 256, 257, 0x100, 0x101, 0x125, 0x199, 0x1000, 0x9999, 1 << 16, 1<<32 + 1, math.MaxInt, math.MinInt, math.MinInt + 0x25}
	for v := range 256 {
		if !isDecimalText(v) {
			wrong = append(wrong, v)
		}
	}
	return wrong
}

func TestConstantOfDigits(t *testing.T) {
	if impl.MaxDigits != 8 {
		t.Error(impl.MaxDigits)
	}
}

func TestIsBcdOfEveryByte(t *testing.T) {
	count := 0
	for v := range 256 {
		want := isDecimalText(v)
		if got := impl.IsBcd(v); got != want {
			t.Errorf("IsBcd(%#x) = %v; want %v", v, got, want)
		}
		if want {
			count++
		}
	}
	if count != 100 {
		t.Error("decimal bytes:", count)
	}
	for _, v := range []int{0x00, 0x09, 0x90, 0x99, 0x19, 0x91} {
		if !impl.IsBcd(v) {
			t.Errorf("IsBcd(%#x) = false", v)
		}
	}
	for _, v := range []int{0x0a, 0xa0, 0xaa, 0x9a, 0xa9, 0x0f, 0xf0, 0xff} {
		if impl.IsBcd(v) {
			t.Errorf("IsBcd(%#x) = true", v)
		}
	}
}

func TestNumbersAndTheirBytes(t *testing.T) {
	for n := range 100 {
		v := decimalByte(n)
		if got, ok := impl.BcdOf(n); got != v || !ok {
			t.Errorf("BcdOf(%d) = %#x, %v; want %#x", n, got, ok, v)
		}
		if got, ok := impl.NumberOf(v); got != n || !ok {
			t.Errorf("NumberOf(%#x) = %d, %v; want %d", v, got, ok, n)
		}
	}
}

func TestAddBcdEdges(t *testing.T) {
	for _, k := range []struct{ x, a, b, v, carry int }{
		{0, 0x00, 0x00, 0x00, 0}, {1, 0x00, 0x00, 0x01, 0}, {0, 0x25, 0x57, 0x82, 0}, {1, 0x25, 0x57, 0x83, 0},
		{0, 0x04, 0x05, 0x09, 0}, {1, 0x04, 0x05, 0x10, 0}, {0, 0x05, 0x05, 0x10, 0}, {0, 0x09, 0x01, 0x10, 0}, {1, 0x09, 0x09, 0x19, 0},
		{0, 0x50, 0x49, 0x99, 0}, {1, 0x50, 0x48, 0x99, 0}, {1, 0x50, 0x49, 0x00, 1}, {0, 0x50, 0x50, 0x00, 1}, {1, 0x50, 0x50, 0x01, 1},
		{0, 0x99, 0x00, 0x99, 0}, {0, 0x99, 0x01, 0x00, 1}, {1, 0x99, 0x00, 0x00, 1}, {0, 0x99, 0x99, 0x98, 1}, {1, 0x99, 0x99, 0x99, 1},
	} {
		if v, carry, ok := impl.AddBcd(k.x, k.a, k.b); v != k.v || carry != k.carry || !ok {
			t.Errorf("AddBcd(%d, %#x, %#x) = %#x, %d, %v; want %#x, %d", k.x, k.a, k.b, v, carry, ok, k.v, k.carry)
		}
	}
}

func TestSubBcdEdges(t *testing.T) {
	for _, k := range []struct{ x, a, b, v, carry int }{
		{0, 0x00, 0x00, 0x00, 0}, {1, 0x00, 0x00, 0x99, 1}, {0, 0x82, 0x57, 0x25, 0}, {1, 0x82, 0x57, 0x24, 0}, {0, 0x10, 0x25, 0x85, 1},
		{0, 0x10, 0x01, 0x09, 0}, {1, 0x10, 0x09, 0x00, 0}, {1, 0x10, 0x10, 0x99, 1}, {0, 0x42, 0x42, 0x00, 0}, {0, 0x41, 0x42, 0x99, 1},
		{0, 0x99, 0x99, 0x00, 0}, {1, 0x99, 0x99, 0x99, 1}, {0, 0x99, 0x00, 0x99, 0}, {1, 0x99, 0x00, 0x98, 0},
		{0, 0x00, 0x01, 0x99, 1}, {1, 0x00, 0x01, 0x98, 1}, {0, 0x00, 0x99, 0x01, 1}, {1, 0x00, 0x99, 0x00, 1},
	} {
		if v, carry, ok := impl.SubBcd(k.x, k.a, k.b); v != k.v || carry != k.carry || !ok {
			t.Errorf("SubBcd(%d, %#x, %#x) = %#x, %d, %v; want %#x, %d", k.x, k.a, k.b, v, carry, ok, k.v, k.carry)
		}
	}
}

func TestDecimalSumsAndDifferencesOfAllNumbers(t *testing.T) {
	for a := range 100 {
		for b := range 100 {
			for x := range 2 {
				p, q := decimalByte(a), decimalByte(b)
				want, next := wantedDecimalSum(x, a, b)
				if v, carry, ok := impl.AddBcd(x, p, q); v != want || carry != next || !ok {
					t.Fatalf("AddBcd(%d, %#x, %#x) = %#x, %d, %v; want %#x, %d", x, p, q, v, carry, ok, want, next)
				}
				want, next = wantedDecimalDifference(x, a, b)
				if v, carry, ok := impl.SubBcd(x, p, q); v != want || carry != next || !ok {
					t.Fatalf("SubBcd(%d, %#x, %#x) = %#x, %d, %v; want %#x, %d", x, p, q, v, carry, ok, want, next)
				}
			}
		}
	}
}

func TestNegBcdIsZeroLess(t *testing.T) {
	for _, k := range []struct{ x, a, v, carry int }{
		{0, 0x00, 0x00, 0}, {1, 0x00, 0x99, 1}, {0, 0x01, 0x99, 1}, {1, 0x01, 0x98, 1}, {0, 0x99, 0x01, 1}, {1, 0x99, 0x00, 1}, {0, 0x25, 0x75, 1},
	} {
		if v, carry, ok := impl.NegBcd(k.x, k.a); v != k.v || carry != k.carry || !ok {
			t.Errorf("NegBcd(%d, %#x) = %#x, %d, %v; want %#x, %d", k.x, k.a, v, carry, ok, k.v, k.carry)
		}
	}
	for n := range 100 {
		for x := range 2 {
			want, next := wantedDecimalDifference(x, 0, n)
			if v, carry, ok := impl.NegBcd(x, decimalByte(n)); v != want || carry != next || !ok {
				t.Errorf("NegBcd(%d, %#x) = %#x, %d, %v; want %#x, %d", x, decimalByte(n), v, carry, ok, want, next)
			}
		}
	}
}

func TestComplementBcdOfAllNumbers(t *testing.T) {
	for _, k := range [][2]int{{0x00, 0x99}, {0x99, 0x00}, {0x09, 0x90}, {0x90, 0x09}, {0x25, 0x74}, {0x45, 0x54}} {
		if v, ok := impl.ComplementBcd(k[0]); v != k[1] || !ok {
			t.Errorf("ComplementBcd(%#x) = %#x, %v; want %#x", k[0], v, ok, k[1])
		}
	}
	for n := range 100 {
		want := decimalByte(99 - n)
		if v, ok := impl.ComplementBcd(decimalByte(n)); v != want || !ok {
			t.Errorf("ComplementBcd(%#x) = %#x, %v; want %#x", decimalByte(n), v, ok, want)
		}
	}
}

func TestAddDigitsEdges(t *testing.T) {
	nines := []int{0x99, 0x99, 0x99, 0x99, 0x99, 0x99, 0x99, 0x99}
	one := []int{0x01, 0, 0, 0, 0, 0, 0, 0}
	for _, k := range []struct {
		a, b, sum []int
		carry     int
	}{
		{[]int{0}, []int{0}, []int{0}, 0},
		{[]int{0x25}, []int{0x57}, []int{0x82}, 0},
		{[]int{0x99}, []int{0x01}, []int{0x00}, 1},
		{[]int{0x99}, []int{0x99}, []int{0x98}, 1},
		{[]int{0x99, 0x01}, []int{0x01, 0x00}, []int{0x00, 0x02}, 0},
		{[]int{0x99, 0x99}, []int{0x01, 0x00}, []int{0x00, 0x00}, 1},
		{[]int{0x50, 0x49}, []int{0x49, 0x50}, []int{0x99, 0x99}, 0},
		{[]int{0x50, 0x49}, []int{0x50, 0x50}, []int{0x00, 0x00}, 1},
		{[]int{0x00, 0x99}, []int{0x00, 0x01}, []int{0x00, 0x00}, 1},
		{nines, one, make([]int, 8), 1},
		{nines, nines, []int{0x98, 0x99, 0x99, 0x99, 0x99, 0x99, 0x99, 0x99}, 1},
		{nines, make([]int, 8), nines, 0},
		{[]int{0x99, 0x99, 0x99, 0x99, 0x99, 0x99, 0x99, 0x00}, one, []int{0, 0, 0, 0, 0, 0, 0, 0x01}, 0},
	} {
		if sum, carry, ok := impl.AddDigits(k.a, k.b); !slices.Equal(sum, k.sum) || carry != k.carry || !ok {
			t.Errorf("AddDigits(%#x, %#x) = %#x, %d, %v; want %#x, %d", k.a, k.b, sum, carry, ok, k.sum, k.carry)
		}
	}
}

// decimalList: decimal bytes by a fixed rule, many of them such that a carry runs on.
func decimalList(length int, seed int) []int {
	l := make([]int, length)
	for i := range l {
		seed = (seed*1103515245 + 12345) % (1 << 31)
		n := seed >> 16 % 100
		if seed>>8%3 == 0 {
			n = 99
		}
		l[i] = decimalByte(n)
	}
	return l
}

// longNumber reads a list's digits as one text, its last byte first.
func longNumber(l []int) *big.Int {
	text := ""
	for _, v := range l {
		text = fmt.Sprintf("%02x", v) + text
	}
	n, ok := new(big.Int).SetString(text, 10)
	if !ok {
		panic(text)
	}
	return n
}

func TestAddDigitsAsLongNumbers(t *testing.T) {
	for length := 1; length <= impl.MaxDigits; length++ {
		top := new(big.Int).Exp(big.NewInt(100), big.NewInt(int64(length)), nil)
		for seed := range 300 {
			a, b := decimalList(length, seed), decimalList(length, seed+1000)
			want := new(big.Int).Add(longNumber(a), longNumber(b))
			sum, carry, ok := impl.AddDigits(a, b)
			if len(sum) != length || !ok {
				t.Fatalf("AddDigits(%#x, %#x) = %#x, %d, %v", a, b, sum, carry, ok)
			}
			got := new(big.Int).Mul(top, big.NewInt(int64(carry)))
			got.Add(got, longNumber(sum))
			if got.Cmp(want) != 0 {
				t.Fatalf("AddDigits(%#x, %#x) = %#x, %d; want %v", a, b, sum, carry, want)
			}
		}
	}
}

func refusesDecimals(t *testing.T, x int, a int, b int) {
	t.Helper()
	if v, carry, ok := impl.AddBcd(x, a, b); v != 0 || carry != 0 || ok {
		t.Errorf("AddBcd(%d, %#x, %#x) = %#x, %d, %v; want the zero answer", x, a, b, v, carry, ok)
	}
	if v, carry, ok := impl.SubBcd(x, a, b); v != 0 || carry != 0 || ok {
		t.Errorf("SubBcd(%d, %#x, %#x) = %#x, %d, %v; want the zero answer", x, a, b, v, carry, ok)
	}
}

func refusesNegBcd(t *testing.T, x int, a int) {
	t.Helper()
	if v, carry, ok := impl.NegBcd(x, a); v != 0 || carry != 0 || ok {
		t.Errorf("NegBcd(%d, %#x) = %#x, %d, %v; want the zero answer", x, a, v, carry, ok)
	}
}

func refusesDigits(t *testing.T, a []int, b []int) {
	t.Helper()
	if sum, carry, ok := impl.AddDigits(a, b); len(sum) != 0 || carry != 0 || ok {
		t.Errorf("AddDigits(%#x, %#x) = %#x, %d, %v; want the zero answer", a, b, sum, carry, ok)
	}
}

func TestBytesThatAreNotDecimal(t *testing.T) {
	for _, wrong := range wrongDecimals() {
		if impl.IsBcd(wrong) {
			t.Errorf("IsBcd(%#x) = true", wrong)
		}
		if n, ok := impl.NumberOf(wrong); n != 0 || ok {
			t.Errorf("NumberOf(%#x) = %d, %v; want the zero answer", wrong, n, ok)
		}
		if v, ok := impl.ComplementBcd(wrong); v != 0 || ok {
			t.Errorf("ComplementBcd(%#x) = %#x, %v; want the zero answer", wrong, v, ok)
		}
		for x := range 2 {
			refusesNegBcd(t, x, wrong)
			for _, good := range []int{0x00, 0x25, 0x99} {
				refusesDecimals(t, x, wrong, good)
				refusesDecimals(t, x, good, wrong)
			}
			refusesDecimals(t, x, wrong, wrong)
		}
	}
}

func TestNumbersThatNoByteTells(t *testing.T) {
	for _, n := range []int{-1, -2, -99, -100, 100, 101, 153, 199, 255, 256, 1 << 16, 1 << 32, math.MaxInt, math.MinInt} {
		if v, ok := impl.BcdOf(n); v != 0 || ok {
			t.Errorf("BcdOf(%d) = %#x, %v; want the zero answer", n, v, ok)
		}
	}
}

func TestWrongXOfDecimals(t *testing.T) {
	for _, x := range wrongBits {
		for _, a := range []int{0x00, 0x25, 0x99, 0x0a, 256} {
			refusesNegBcd(t, x, a)
			refusesDecimals(t, x, a, 0x00)
			refusesDecimals(t, x, 0x99, a)
		}
	}
}

func TestWrongListsOfDigits(t *testing.T) {
	refusesDigits(t, nil, nil)
	refusesDigits(t, []int{}, nil)
	refusesDigits(t, []int{}, []int{})
	refusesDigits(t, []int{1}, nil)
	refusesDigits(t, nil, []int{1})
	refusesDigits(t, []int{1, 2}, []int{1})
	refusesDigits(t, []int{1}, []int{1, 2})
	refusesDigits(t, make([]int, impl.MaxDigits+1), make([]int, impl.MaxDigits+1))
	refusesDigits(t, make([]int, impl.MaxDigits+1), make([]int, impl.MaxDigits))
	refusesDigits(t, make([]int, impl.MaxDigits), make([]int, impl.MaxDigits+1))
	refusesDigits(t, make([]int, 1000), make([]int, 1000))
}

func TestOneByteInAListThatIsNotDecimal(t *testing.T) {
	for _, wrong := range wrongDecimals() {
		for length := 1; length <= impl.MaxDigits; length++ {
			for place := range length {
				good, bad := decimalList(length, 7), decimalList(length, 8)
				bad[place] = wrong
				refusesDigits(t, good, bad)
				refusesDigits(t, bad, good)
			}
		}
	}
}

func TestAddDigitsWritesIntoNone(t *testing.T) {
	memoryA := []int{0x99, 0x27, 0x03, 0x77, 0x78, 0x79}
	memoryB := []int{0x01, 0x98, 0x04, 0x87, 0x0f, 0x89}
	keptA, keptB := slices.Clone(memoryA), slices.Clone(memoryB)
	for length := range 6 {
		sum, _, _ := impl.AddDigits(memoryA[:length], memoryB[:length])
		impl.AddDigits(memoryA[:length], memoryB[:2])
		for i := range sum[:cap(sum)] {
			sum[:cap(sum)][i] = 0x55
		}
		if !slices.Equal(memoryA, keptA) || !slices.Equal(memoryB, keptB) {
			t.Fatal("an argument's memory was changed", length, memoryA, memoryB)
		}
	}
}

func TestAddDigitsAnswersNewMemory(t *testing.T) {
	a, b := []int{0x03, 0x04, 0x05, 0x06}, []int{0, 0, 0, 0}
	first, _, _ := impl.AddDigits(a, b)
	second, _, _ := impl.AddDigits(b, a)
	third, _, _ := impl.AddDigits(a, a)
	clear(a)
	clear(b)
	clear(second)
	if !slices.Equal(first, []int{0x03, 0x04, 0x05, 0x06}) || !slices.Equal(third, []int{0x06, 0x08, 0x10, 0x12}) {
		t.Errorf("an answer shares memory: %#x, %#x", first, third)
	}
}
