package tests

import (
	"math"
	"math/bits"
	"slices"
	"strings"
	"testing"

	"loop.example/g00389/impl"
)

// What chapter 9 must answer is worked out here by the products and quotients of the language's own numbers,
// and digits from words as texts of noughts and ones (chapter 3's tests), so that no place is counted as the program counts it.

// wordsAtEdges: those that the issue of the chapter names come first.
func wordsAtEdges() []int {
	return append([]int{0, 1, 255, 256, 32767, 32768, 65535}, valuesOf(impl.SizeWord)...)
}

func wordsBetween() []int {
	var l []int
	for v := 3; v < 65536; v += 251 {
		l = append(l, v)
	}
	return l
}

func wordsOfAllKinds() []int {
	return append(wordsAtEdges(), wordsBetween()...)
}

func signedWord(v int) int { return signedNumber(impl.SizeWord, v) }

func wantedPair(n int64) (int, int) {
	return int(uint32(n) / 65536), int(uint32(n) % 65536)
}

// wantedBooth: in a word's text the highest bit comes first; a 0 is put behind it, ahead of the lowest.
func wantedBooth(v int) []int {
	var l []int
	text := bitText(impl.SizeWord, v) + "0"
	for i := len(text) - 2; i >= 0; i-- {
		switch text[i : i+2] {
		case "01":
			l = append(l, 1)
		case "10":
			l = append(l, -1)
		default:
			l = append(l, 0)
		}
	}
	return l
}

// wantedSteps: done without putting back the digit is 1 just where the quotient's bit is, and -1 where that is 0.
func wantedSteps(low int, by int) ([]int, int) {
	var l []int
	for _, bit := range bitText(impl.SizeWord, low/by) {
		l = append(l, map[rune]int{'0': -1, '1': 1}[bit])
	}
	return l, low % by
}

// wantedLeft follows the document's words for DivSteps: what is left behind each place, nothing put back.
func wantedLeft(low int, by int) []int {
	var l []int
	left := 0
	for _, bit := range bitText(impl.SizeWord, low) {
		change := by
		if left >= 0 {
			change = -by
		}
		left = 2*left + int(bit-'0') + change
		l = append(l, left)
	}
	return l
}

func checkProducts(t *testing.T, a int, b int) {
	t.Helper()
	high, low := wantedPair(int64(a) * int64(b))
	if h, l, ok := impl.MulWords(a, b); h != high || l != low || !ok {
		t.Fatalf("MulWords(%d, %d) = %d, %d, %v; want %d, %d", a, b, h, l, ok, high, low)
	}
	high, low = wantedPair(int64(signedWord(a)) * int64(signedWord(b)))
	if h, l, ok := impl.MulSigned(a, b); h != high || l != low || !ok {
		t.Fatalf("MulSigned(%d, %d) = %d, %d, %v; want %d, %d", a, b, h, l, ok, high, low)
	}
	if h, l, ok := impl.MulBooth(a, b); h != high || l != low || !ok {
		t.Fatalf("MulBooth(%d, %d) = %d, %d, %v; want %d, %d", a, b, h, l, ok, high, low)
	}
}

func checkDivWords(t *testing.T, high int, low int, by int) {
	t.Helper()
	n := uint32(high)<<16 | uint32(low)
	quotient, left := int(n/uint32(by)), int(n%uint32(by))
	taken := bits.OnesCount(uint(quotient))
	q, r, count, ok := impl.DivWords(high, low, by)
	if q != quotient || r != left || count != taken || !ok {
		t.Fatalf("DivWords(%d, %d, %d) = %d, %d, %d, %v; want %d, %d, %d", high, low, by, q, r, count, ok, quotient, left, taken)
	}
	if q*by+r != int(n) || r < 0 || r >= by || q < 0 || q > 65535 {
		t.Fatalf("DivWords(%d, %d, %d) = %d, %d: they do not make up %d", high, low, by, q, r, n)
	}
}

func checkDivSteps(t *testing.T, low int, by int) {
	t.Helper()
	digits, left := wantedSteps(low, by)
	l, r, ok := impl.DivSteps(low, by)
	if !slices.Equal(l, digits) || r != left || !ok {
		t.Fatalf("DivSteps(%d, %d) = %v, %d, %v; want %v, %d", low, by, l, r, ok, digits, left)
	}
}

func TestConstantOfProducts(t *testing.T) {
	if impl.DigitCount != 16 {
		t.Error(impl.DigitCount)
	}
}

func TestMulWordsNamedEdges(t *testing.T) {
	for _, c := range []struct{ a, b, high, low int }{
		{0, 0, 0, 0}, {0, 65535, 0, 0}, {1, 1, 0, 1}, {1, 65535, 0, 65535}, {65535, 2, 1, 65534}, {2, 65535, 1, 65534},
		{255, 255, 0, 65025}, {255, 256, 0, 65280}, {255, 257, 0, 65535}, {256, 256, 1, 0}, {256, 255, 0, 65280}, {256, 65535, 255, 65280},
		{32767, 2, 0, 65534}, {32768, 2, 1, 0}, {32767, 32767, 16383, 1}, {32768, 32768, 16384, 0}, {32768, 65535, 32767, 32768},
		{65535, 32768, 32767, 32768}, {65535, 65535, 65534, 1},
	} {
		if h, l, ok := impl.MulWords(c.a, c.b); h != c.high || l != c.low || !ok {
			t.Errorf("MulWords(%d, %d) = %d, %d, %v; want %d, %d", c.a, c.b, h, l, ok, c.high, c.low)
		}
	}
}

func TestSignedProductsNamedEdges(t *testing.T) {
	for _, c := range []struct{ a, b, high, low int }{
		{0, 0, 0, 0}, {0, 65535, 0, 0}, {65535, 0, 0, 0}, {32768, 0, 0, 0}, {0, 32768, 0, 0}, {1, 65535, 65535, 65535}, {65535, 1, 65535, 65535},
		{65535, 65535, 0, 1}, {65535, 2, 65535, 65534}, {3, 6, 0, 18}, {65533, 6, 65535, 65518}, {3, 65530, 65535, 65518}, {65533, 65530, 0, 18},
		{32767, 32767, 16383, 1}, {32768, 32768, 16384, 0}, {32768, 65535, 0, 32768}, {65535, 32768, 0, 32768}, {32768, 1, 65535, 32768}, {1, 32768, 65535, 32768},
		{32767, 32768, 49152, 32768}, {32768, 32767, 49152, 32768}, {256, 65280, 65535, 0}, {32767, 65535, 65535, 32769},
	} {
		if h, l, ok := impl.MulSigned(c.a, c.b); h != c.high || l != c.low || !ok {
			t.Errorf("MulSigned(%d, %d) = %d, %d, %v; want %d, %d", c.a, c.b, h, l, ok, c.high, c.low)
		}
		if h, l, ok := impl.MulBooth(c.a, c.b); h != c.high || l != c.low || !ok {
			t.Errorf("MulBooth(%d, %d) = %d, %d, %v; want %d, %d", c.a, c.b, h, l, ok, c.high, c.low)
		}
	}
}

func TestProductsOfWordsOfAllKinds(t *testing.T) {
	for _, a := range wordsOfAllKinds() {
		for _, b := range wordsOfAllKinds() {
			checkProducts(t, a, b)
		}
	}
}

func TestProductsOfEveryWordWithTheEdges(t *testing.T) {
	for v := range 65536 {
		for _, edge := range []int{0, 1, 255, 256, 32767, 32768, 65535} {
			checkProducts(t, v, edge)
			checkProducts(t, edge, v)
		}
	}
}

func TestBoothDigitsNamedEdges(t *testing.T) {
	for v, text := range map[int]string{
		0:     "0000000000000000",
		1:     "-+00000000000000",
		6:     "0-0+000000000000",
		5:     "-+-+000000000000",
		255:   "-0000000+0000000",
		32767: "-00000000000000+",
		32768: "000000000000000-",
		65535: "-000000000000000",
		21845: "-+-+-+-+-+-+-+-+",
		43690: "0-+-+-+-+-+-+-+-",
	} {
		l, ok := impl.BoothDigits(v)
		var told strings.Builder
		for _, digit := range l {
			told.WriteString(map[int]string{-1: "-", 0: "0", 1: "+"}[digit])
		}
		if told.String() != text || len(l) != impl.DigitCount || !ok {
			t.Errorf("BoothDigits(%d) = %v, %v; want %s", v, l, ok, text)
		}
	}
}

func TestBoothDigitsOfEveryWord(t *testing.T) {
	for v := range 65536 {
		l, ok := impl.BoothDigits(v)
		if want := wantedBooth(v); !slices.Equal(l, want) || !ok {
			t.Fatalf("BoothDigits(%d) = %v, %v; want %v", v, l, ok, want)
		}
		sum := 0
		for place, digit := range l {
			sum += digit * int(math.Pow(2, float64(place)))
			if place > 0 && digit != 0 && digit == l[place-1] {
				t.Fatalf("BoothDigits(%d) = %v: two alike at %d", v, l, place)
			}
		}
		if sum != signedWord(v) {
			t.Fatalf("BoothDigits(%d) = %v: their sum is %d", v, l, sum)
		}
	}
}

func TestByBoothsDigitsOneComesToTheProduct(t *testing.T) {
	for _, a := range wordsOfAllKinds() {
		for _, b := range wordsAtEdges() {
			digits, _ := impl.BoothDigits(b)
			sum, power := int64(0), int64(1)
			for _, digit := range digits {
				sum += int64(digit) * power * int64(signedWord(a))
				power *= 2
			}
			high, low := wantedPair(sum)
			if h, l, ok := impl.MulBooth(a, b); h != high || l != low || !ok {
				t.Fatalf("MulBooth(%d, %d) = %d, %d, %v; its digits tell %d, %d", a, b, h, l, ok, high, low)
			}
		}
	}
}

func TestDivWordsNamedEdges(t *testing.T) {
	for _, c := range []struct{ high, low, by, quotient, left, taken int }{
		{0, 0, 1, 0, 0, 0}, {0, 0, 65535, 0, 0, 0}, {0, 1, 1, 1, 0, 1}, {0, 65535, 1, 65535, 0, 16}, {0, 7, 2, 3, 1, 2}, {1, 0, 3, 21845, 1, 8},
		{0, 65534, 65535, 0, 65534, 0}, {0, 65535, 65535, 1, 0, 1}, {1, 0, 65535, 1, 1, 1}, {1, 0, 2, 32768, 0, 1}, {1, 65535, 2, 65535, 1, 16},
		{65534, 0, 65535, 65534, 65534, 15}, {65534, 1, 65535, 65535, 0, 16}, {65534, 65535, 65535, 65535, 65534, 16},
		{32767, 65535, 32768, 65535, 32767, 16}, {32766, 0, 32767, 65533, 32765, 15}, {2, 65535, 3, 65535, 2, 16}, {0, 32768, 32768, 1, 0, 1}, {0, 32767, 32768, 0, 32767, 0},
	} {
		q, r, n, ok := impl.DivWords(c.high, c.low, c.by)
		if q != c.quotient || r != c.left || n != c.taken || !ok {
			t.Errorf("DivWords(%d, %d, %d) = %d, %d, %d, %v; want %d, %d, %d", c.high, c.low, c.by, q, r, n, ok, c.quotient, c.left, c.taken)
		}
	}
}

func TestQuotientsAndWhatIsLeftMakeUpWhatWasDivided(t *testing.T) {
	for _, by := range append(wordsOfAllKinds(), 3, 5, 7, 10) {
		for _, high := range []int{0, 1, 2, by / 3, by / 2, by - 2, by - 1} {
			for _, low := range wordsAtEdges() {
				if high >= 0 && high < by {
					checkDivWords(t, high, low, by)
				}
			}
		}
	}
}

func TestProductsAreDividedBack(t *testing.T) {
	for _, a := range wordsOfAllKinds() {
		for _, b := range wordsAtEdges() {
			high, low, _ := impl.MulWords(a, b)
			if b == 0 {
				continue
			}
			if q, r, _, ok := impl.DivWords(high, low, b); q != a || r != 0 || !ok {
				t.Fatalf("%d times %d, divided by it: %d, %d, %v", a, b, q, r, ok)
			}
		}
	}
}

func TestDivStepsNamedEdges(t *testing.T) {
	for _, c := range []struct {
		low, by int
		text    string
		left    int
	}{
		{0, 1, "----------------", 0}, {1, 1, "---------------+", 0}, {65535, 1, "++++++++++++++++", 0}, {32768, 1, "+---------------", 0},
		{7, 2, "--------------++", 1}, {6, 2, "--------------++", 0}, {6, 3, "--------------+-", 0}, {5, 3, "---------------+", 2}, {65535, 2, "-+++++++++++++++", 1},
		{0, 32767, "----------------", 0}, {1, 32767, "----------------", 1}, {32766, 32767, "----------------", 32766}, {32767, 32767, "---------------+", 0},
		{32768, 32767, "---------------+", 1}, {65533, 32767, "---------------+", 32766}, {65534, 32767, "--------------+-", 0}, {65535, 32767, "--------------+-", 1},
	} {
		l, left, ok := impl.DivSteps(c.low, c.by)
		var told strings.Builder
		for _, digit := range l {
			told.WriteString(map[int]string{-1: "-", 1: "+"}[digit])
		}
		if told.String() != c.text || len(l) != impl.DigitCount || left != c.left || !ok {
			t.Errorf("DivSteps(%d, %d) = %v, %d, %v; want %s, %d", c.low, c.by, l, left, ok, c.text, c.left)
		}
	}
}

func divisorsOfSteps() []int {
	l := []int{1, 2, 3, 5, 7, 10, 32766, 32767}
	for _, by := range wordsOfAllKinds() {
		if by >= 1 && by <= 32767 {
			l = append(l, by)
		}
	}
	return l
}

func TestDivStepsOfWordsOfAllKinds(t *testing.T) {
	for _, by := range divisorsOfSteps() {
		for _, low := range wordsOfAllKinds() {
			checkDivSteps(t, low, by)
		}
	}
}

func TestDivStepsOfEveryWord(t *testing.T) {
	for low := range 65536 {
		for _, by := range []int{1, 3, 32767} {
			checkDivSteps(t, low, by)
		}
	}
	for by := 1; by <= 32767; by++ {
		for _, low := range []int{0, 32768, 65535} {
			checkDivSteps(t, low, by)
		}
	}
}

func TestDivStepsPlaceByPlace(t *testing.T) {
	for _, by := range divisorsOfSteps() {
		for _, low := range wordsAtEdges() {
			digits, left, ok := impl.DivSteps(low, by)
			if !ok || len(digits) != impl.DigitCount {
				t.Fatalf("DivSteps(%d, %d) = %v, %d, %v", low, by, digits, left, ok)
			}
			wanted := wantedLeft(low, by)
			for i, digit := range digits {
				if (digit == 1) != (wanted[i] >= 0) || (digit == -1) != (wanted[i] < 0) {
					t.Fatalf("DivSteps(%d, %d): digit %d at %d, where %d is left", low, by, digit, i, wanted[i])
				}
			}
			last := wanted[len(wanted)-1]
			if last < 0 {
				last += by
			}
			if left != last {
				t.Fatalf("DivSteps(%d, %d): %d is left; want %d", low, by, left, last)
			}
		}
	}
}

func TestDivStepsTellTheQuotientOfDivWords(t *testing.T) {
	for _, by := range divisorsOfSteps() {
		for _, low := range wordsAtEdges() {
			digits, left, _ := impl.DivSteps(low, by)
			told := 0
			for _, digit := range digits {
				told = 2*told + digit
			}
			// each digit is twice the quotient's bit less 1
			if q, r, _, ok := impl.DivWords(0, low, by); told != 2*q-65535 || left != r || !ok {
				t.Fatalf("DivSteps(%d, %d) = %v, %d; DivWords tells %d, %d", low, by, digits, left, q, r)
			}
		}
	}
}

func TestRootOfSquaresAndBesideThem(t *testing.T) {
	for n := 1; n < 256; n++ {
		for _, c := range []struct{ v, root int }{{n*n - 1, n - 1}, {n * n, n}, {n*n + 1, n}} {
			if root, ok := impl.RootOf(c.v); root != c.root || !ok {
				t.Errorf("RootOf(%d) = %d, %v; want %d", c.v, root, ok, c.root)
			}
		}
	}
}

func TestRootOfNamedEdges(t *testing.T) {
	for v, want := range map[int]int{0: 0, 1: 1, 2: 1, 3: 1, 4: 2, 8: 2, 9: 3, 15: 3, 16: 4, 99: 9, 100: 10, 32767: 181, 32768: 181,
		65024: 254, 65025: 255, 65026: 255, 65534: 255, 65535: 255} {
		if root, ok := impl.RootOf(v); root != want || !ok {
			t.Errorf("RootOf(%d) = %d, %v; want %d", v, root, ok, want)
		}
	}
}

func TestRootOfEveryWord(t *testing.T) {
	want := 0
	for v := range 65536 {
		if (want+1)*(want+1) <= v {
			want++
		}
		if root, ok := impl.RootOf(v); root != want || !ok {
			t.Fatalf("RootOf(%d) = %d, %v; want %d", v, root, ok, want)
		}
	}
}

func refusesProducts(t *testing.T, a int, b int) {
	t.Helper()
	for name, product := range map[string]func(int, int) (int, int, bool){"MulWords": impl.MulWords, "MulBooth": impl.MulBooth, "MulSigned": impl.MulSigned} {
		if h, l, ok := product(a, b); h != 0 || l != 0 || ok {
			t.Errorf("%s(%d, %d) = %d, %d, %v", name, a, b, h, l, ok)
		}
	}
}

func refusesDivWords(t *testing.T, high int, low int, by int) {
	t.Helper()
	if q, r, n, ok := impl.DivWords(high, low, by); q != 0 || r != 0 || n != 0 || ok {
		t.Errorf("DivWords(%d, %d, %d) = %d, %d, %d, %v", high, low, by, q, r, n, ok)
	}
}

func refusesDivSteps(t *testing.T, low int, by int) {
	t.Helper()
	if l, r, ok := impl.DivSteps(low, by); len(l) != 0 || r != 0 || ok {
		t.Errorf("DivSteps(%d, %d) = %v, %d, %v", low, by, l, r, ok)
	}
}

func TestProductsRefuseWhatIsNoWord(t *testing.T) {
	for _, wrong := range wrongWords {
		for _, v := range wordsAtEdges() {
			refusesProducts(t, wrong, v)
			refusesProducts(t, v, wrong)
		}
		for _, other := range wrongWords {
			refusesProducts(t, wrong, other)
		}
		if l, ok := impl.BoothDigits(wrong); len(l) != 0 || ok {
			t.Errorf("BoothDigits(%d) = %v, %v", wrong, l, ok)
		}
		if root, ok := impl.RootOf(wrong); root != 0 || ok {
			t.Errorf("RootOf(%d) = %d, %v", wrong, root, ok)
		}
	}
}

func TestDivWordsRefusesWhatIsNoWord(t *testing.T) {
	for _, wrong := range wrongWords {
		for _, v := range wordsAtEdges() {
			refusesDivWords(t, wrong, v, 65535)
			refusesDivWords(t, 0, wrong, v)
			refusesDivWords(t, 0, v, wrong)
			refusesDivWords(t, v, 0, wrong)
		}
		for _, other := range wrongWords {
			refusesDivWords(t, wrong, other, 65535)
			refusesDivWords(t, wrong, 0, other)
			refusesDivWords(t, 0, wrong, other)
			refusesDivWords(t, wrong, wrong, other)
		}
	}
}

func TestDivWordsRefusesAnUpperWordThatIsNotLess(t *testing.T) {
	for _, v := range wordsAtEdges() {
		for _, by := range wordsAtEdges() {
			refusesDivWords(t, by, v, by)
			if v >= by {
				refusesDivWords(t, v, by, by)
			}
		}
		refusesDivWords(t, v, 0, 0)
		refusesDivWords(t, 0, v, 0)
		refusesDivWords(t, 65535, v, 65535)
		refusesDivWords(t, 65535, v, 65534)
		refusesDivWords(t, 1, v, 1)
	}
}

func TestDivStepsRefusesWrongInputs(t *testing.T) {
	for _, low := range wordsAtEdges() {
		for _, by := range append([]int{0, 32768, 32769, 40000, 65534, 65535}, wrongWords...) {
			refusesDivSteps(t, low, by)
		}
	}
	for _, wrong := range wrongWords {
		for _, by := range append([]int{0, 1, 2, 32767, 32768}, wrongWords...) {
			refusesDivSteps(t, wrong, by)
		}
	}
}

func TestProductsAnswerNewMemory(t *testing.T) {
	first, _ := impl.BoothDigits(6)
	spoil(first)
	second, _ := impl.BoothDigits(6)
	if !slices.Equal(second, wantedBooth(6)) || &first[0] == &second[0] {
		t.Error("BoothDigits: two answers share their memory", second)
	}
	steps, _, _ := impl.DivSteps(7, 2)
	spoil(steps)
	checkDivSteps(t, 7, 2)
	again, _, _ := impl.DivSteps(7, 2)
	if &steps[0] == &again[0] {
		t.Error("DivSteps: two answers share their memory")
	}
}
