package tests

import (
	"fmt"
	"math"
	"slices"
	"strconv"
	"strings"
	"sync"
	"testing"

	"loop.example/g00389/impl"
)

// What chapter 7 must answer is worked out here from a table that spells out what each Op may be with, in digits,
// and with words as rows of sixteen binary digits.

var ops = []int{impl.OpTo, impl.OpFrom, impl.OpAdd, impl.OpSub, impl.OpAnd, impl.OpOr, impl.OpEor, impl.OpCmp, impl.OpAddr, impl.OpLea,
	impl.OpOne, impl.OpShift, impl.OpBranch, impl.OpJump, impl.OpFlow, impl.OpMul, impl.OpDiv, impl.OpBcd, impl.OpStatus}

var wrongOps = []int{0, -1, -2, -19, 20, 21, 31, 32, 33, 256, 1 << 32, math.MaxInt, math.MinInt}

var wrongSubs = []int{-1, -2, -8, 8, 9, 15, 16, 256, 1 << 32, math.MaxInt, math.MinInt}

var wrongWords = []int{-1, -2, -2048, -65535, -65536, 65536, 65537, 65536 + 7648, 7648 - 65536, 1 << 17, 1 << 32, math.MaxInt, math.MinInt}

var edgeExts = []int{0, 1, 5, 254, 255, 256, 257, 1022, 1023, 1024, 1025, 32768, 65534, 65535}

// allowedRow: each digit of a text is a number that may stand there; modes of "z" ask for an operand that is zero in all.
type allowedRow struct {
	op, size          int
	regs, modes, subs string
	greatestExt       int
}

func allowedRows() []allowedRow {
	var l []allowedRow
	for _, op := range []int{1, 3, 4, 5, 6, 7, 8} {
		l = append(l, allowedRow{op, 1, "0123", "0234567", "0", 255}, allowedRow{op, 2, "0123", "01234567", "0", 65535})
	}
	return append(l,
		allowedRow{2, 1, "0123", "023456", "0", 65535},
		allowedRow{2, 2, "0123", "023456", "0", 65535},
		allowedRow{9, 2, "0123", "01234567", "0", 65535},
		allowedRow{10, 2, "0123", "256", "0", 65535},
		allowedRow{11, 1, "0", "023456", "0123", 65535},
		allowedRow{11, 2, "0", "023456", "0123", 65535},
		allowedRow{12, 1, "0123", "0", "01234567", 0},
		allowedRow{12, 2, "0123", "0", "01234567", 0},
		allowedRow{13, 2, "01", "7", "01234567", 65535},
		allowedRow{14, 2, "0", "256", "01", 65535},
		allowedRow{15, 2, "0", "7", "3", 1023},
		allowedRow{15, 2, "0", "z", "012", 0},
		allowedRow{15, 2, "0123", "z", "456", 0},
		allowedRow{16, 2, "0123", "0234567", "0", 65535},
		allowedRow{17, 2, "0123", "0234567", "0", 65535},
		allowedRow{18, 1, "0123", "0", "01", 0},
		allowedRow{19, 2, "0", "7", "0", 1023},
		allowedRow{19, 2, "0123", "z", "1", 0},
	)
}

func hasDigit(text string, n int) bool {
	return n >= 0 && n <= 9 && strings.Contains(text, strconv.Itoa(n))
}

func wantedOperand(row allowedRow, o impl.Operand) bool {
	if row.modes == "z" {
		return o.Mode == 0 && o.Reg == 0 && o.Ext == 0
	}
	regs := map[bool]string{true: "0", false: "0123"}[o.Mode == impl.MdAbs || o.Mode == impl.MdNow]
	greatest := 0
	if slices.Contains(extModes, o.Mode) {
		greatest = 65535
	}
	if o.Mode == impl.MdNow {
		greatest = row.greatestExt
	}
	return hasDigit(row.modes, o.Mode) && hasDigit(regs, o.Reg) && o.Ext >= 0 && o.Ext <= greatest
}

var allowed = allowedRows()

func wantedGood(x impl.Ins) bool {
	for _, row := range allowed {
		if row.op == x.Op && row.size == x.Size && hasDigit(row.subs, x.Sub) && hasDigit(row.regs, x.Reg) && wantedOperand(row, x.Ea) {
			return true
		}
	}
	return false
}

func numberOfBits(text string) int {
	n, err := strconv.ParseInt(text, 2, 64)
	if err != nil {
		panic(err)
	}
	return int(n)
}

func wantedWords(x impl.Ins) []int {
	text := fmt.Sprintf("%05b%01b%02b%03b%02b%03b", x.Op, x.Size-1, x.Reg, x.Ea.Mode, x.Ea.Reg, x.Sub)
	words := []int{numberOfBits(text)}
	if slices.Contains(extModes, x.Ea.Mode) {
		words = append(words, x.Ea.Ext)
	}
	return words
}

func wantedDecoded(word int, next int) (impl.Ins, int, bool) {
	text := fmt.Sprintf("%016b", word)
	x := impl.Ins{
		Op:   numberOfBits(text[:5]),
		Size: map[byte]int{'0': impl.SizeByte, '1': impl.SizeWord}[text[5]],
		Reg:  numberOfBits(text[6:8]),
		Ea:   impl.Operand{Mode: numberOfBits(text[8:11]), Reg: numberOfBits(text[11:13])},
		Sub:  numberOfBits(text[13:]),
	}
	length := 1
	if slices.Contains(extModes, x.Ea.Mode) {
		x.Ea.Ext = next
		length = 2
	}
	if !wantedGood(x) {
		return impl.Ins{}, 0, false
	}
	return x, length, true
}

func wantedText(x impl.Ins) string {
	return fmt.Sprintf("op%d.%d r%d m%d:%d x%d s%d", x.Op, x.Size, x.Reg, x.Ea.Mode, x.Ea.Reg, x.Ea.Ext, x.Sub)
}

func wantedPrivileged(x impl.Ins) bool {
	return slices.Contains([]string{"15/1", "15/3", "19/0"}, fmt.Sprintf("%d/%d", x.Op, x.Sub))
}

func checkGoodIns(t *testing.T, x impl.Ins) {
	t.Helper()
	want := wantedWords(x)
	if words, ok := impl.EncodeIns(x); !impl.GoodIns(x) || !slices.Equal(words, want) || !ok {
		t.Fatalf("EncodeIns(%v) = %v, %v; want %v", x, words, ok, want)
	}
	if back, length, ok := impl.DecodeIns(want[0], want[len(want)-1]); back != x || length != len(want) || !ok {
		t.Fatalf("DecodeIns(%v) = %v, %d, %v; want %v", want, back, length, ok, x)
	}
	if length, ok := impl.LongIns(want[0]); length != len(want) || !ok {
		t.Fatalf("LongIns(%d) = %d, %v", want[0], length, ok)
	}
	if is, ok := impl.IsPrivileged(x); is != wantedPrivileged(x) || !ok {
		t.Fatalf("IsPrivileged(%v) = %v, %v", x, is, ok)
	}
	if text, ok := impl.TextOf(x); text != wantedText(x) || !ok {
		t.Fatalf("TextOf(%v) = %q, %v", x, text, ok)
	}
	if words, ok := impl.EncodeAll([]impl.Ins{x}); !slices.Equal(words, want) || !ok {
		t.Fatalf("EncodeAll of %v = %v, %v", x, words, ok)
	}
	if l, ok := impl.DecodeAll(want); !slices.Equal(l, []impl.Ins{x}) || !ok {
		t.Fatalf("DecodeAll(%v) = %v, %v", want, l, ok)
	}
}

func refusesIns(t *testing.T, x impl.Ins) {
	t.Helper()
	if impl.GoodIns(x) {
		t.Fatalf("GoodIns(%v)", x)
	}
	if words, ok := impl.EncodeIns(x); len(words) != 0 || ok {
		t.Fatalf("EncodeIns(%v) = %v, %v", x, words, ok)
	}
	if words, ok := impl.EncodeAll([]impl.Ins{x}); len(words) != 0 || ok {
		t.Fatalf("EncodeAll of %v = %v, %v", x, words, ok)
	}
	if is, ok := impl.IsPrivileged(x); is || ok {
		t.Fatalf("IsPrivileged(%v) = %v, %v", x, is, ok)
	}
	if text, ok := impl.TextOf(x); text != "" || ok {
		t.Fatalf("TextOf(%v) = %q, %v", x, text, ok)
	}
}

func refusesDecode(t *testing.T, word int, next int) {
	t.Helper()
	if x, length, ok := impl.DecodeIns(word, next); x != (impl.Ins{}) || length != 0 || ok {
		t.Fatalf("DecodeIns(%d, %d) = %v, %d, %v", word, next, x, length, ok)
	}
}

func refusesEncodeAll(t *testing.T, l []impl.Ins) {
	t.Helper()
	if words, ok := impl.EncodeAll(l); len(words) != 0 || ok {
		t.Fatalf("EncodeAll(%v) = %v, %v", l, words, ok)
	}
}

func refusesDecodeAll(t *testing.T, l []int) {
	t.Helper()
	if all, ok := impl.DecodeAll(l); len(all) != 0 || ok {
		t.Fatalf("DecodeAll(%v) = %v, %v", l, all, ok)
	}
}

func shortIns() impl.Ins {
	return impl.Ins{Op: impl.OpTo, Size: impl.SizeByte, Reg: 2, Ea: impl.Operand{Mode: impl.MdAfter, Reg: 3}}
}

func longIns() impl.Ins {
	return impl.Ins{Op: impl.OpAdd, Size: impl.SizeWord, Reg: 1, Ea: impl.Operand{Mode: impl.MdNow, Ext: 5}}
}

// goodInstructions: each that the table allows, with Ext at its edges; made once, as it takes its time.
var goodInstructions = sync.OnceValue(func() []impl.Ins {
	var l []impl.Ins
	for word := range 65536 {
		for _, next := range edgeExts {
			if x, length, ok := wantedDecoded(word, next); ok && (length == 2 || next == 0) {
				l = append(l, x)
			}
		}
	}
	return l
})

func TestConstantsOfInstructions(t *testing.T) {
	if !slices.Equal(ops, []int{1, 2, 3, 4, 5, 6, 7, 8, 9, 10, 11, 12, 13, 14, 15, 16, 17, 18, 19}) {
		t.Error(ops)
	}
}

func TestInstructionsNamedOneByOne(t *testing.T) {
	for _, k := range []struct {
		x     impl.Ins
		words []int
		text  string
	}{
		{impl.Ins{Op: 1, Size: 1}, []int{2048}, "op1.1 r0 m0:0 x0 s0"},
		{impl.Ins{Op: 3, Size: 2, Reg: 1, Ea: impl.Operand{Mode: 7, Ext: 5}}, []int{7648, 5}, "op3.2 r1 m7:0 x5 s0"},
		{impl.Ins{Op: 12, Size: 1, Reg: 3, Ea: impl.Operand{Reg: 3}, Sub: 7}, []int{25375}, "op12.1 r3 m0:3 x0 s7"},
		{impl.Ins{Op: 10, Size: 2, Reg: 2, Ea: impl.Operand{Mode: 5, Reg: 3, Ext: 65535}}, []int{22200, 65535}, "op10.2 r2 m5:3 x65535 s0"},
		{impl.Ins{Op: 13, Size: 2, Reg: 1, Ea: impl.Operand{Mode: 7, Ext: 10000}, Sub: 7}, []int{28135, 10000}, "op13.2 r1 m7:0 x10000 s7"},
		{impl.Ins{Op: 15, Size: 2, Sub: 3, Ea: impl.Operand{Mode: 7, Ext: 1023}}, []int{31971, 1023}, "op15.2 r0 m7:0 x1023 s3"},
		{impl.Ins{Op: 15, Size: 2, Reg: 3, Sub: 4}, []int{32516}, "op15.2 r3 m0:0 x0 s4"},
		{impl.Ins{Op: 18, Size: 1, Reg: 1, Ea: impl.Operand{Reg: 2}, Sub: 1}, []int{37137}, "op18.1 r1 m0:2 x0 s1"},
		{impl.Ins{Op: 19, Size: 2, Reg: 3, Sub: 1}, []int{40705}, "op19.2 r3 m0:0 x0 s1"},
	} {
		checkGoodIns(t, k.x)
		if words, ok := impl.EncodeIns(k.x); !slices.Equal(words, k.words) || !ok {
			t.Error(k, words, ok)
		}
		if text, ok := impl.TextOf(k.x); text != k.text || !ok {
			t.Error(k, text, ok)
		}
	}
}

func TestEveryGoodInstructionComesBackFromItsWords(t *testing.T) {
	for _, x := range goodInstructions() {
		checkGoodIns(t, x)
	}
}

func TestEveryInstructionNearTheEdges(t *testing.T) {
	for op := -1; op <= 21; op++ {
		for size := 0; size <= 3; size++ {
			for reg := -1; reg <= 4; reg++ {
				for sub := -1; sub <= 8; sub++ {
					checkEveryOperand(t, impl.Ins{Op: op, Size: size, Reg: reg, Sub: sub})
				}
			}
		}
	}
}

func checkEveryOperand(t *testing.T, x impl.Ins) {
	t.Helper()
	for mode := -1; mode <= 8; mode++ {
		for reg := -1; reg <= 4; reg++ {
			for _, ext := range []int{-1, 0, 255, 256, 1023, 1024, 65535, 65536} {
				x.Ea = impl.Operand{Mode: mode, Reg: reg, Ext: ext}
				if want := wantedGood(x); impl.GoodIns(x) != want {
					t.Fatalf("GoodIns(%v) = %v", x, !want)
				} else if !want {
					refusesIns(t, x)
				}
			}
		}
	}
}

func TestEveryWordIsOneInstructionOrNone(t *testing.T) {
	for word := range 65536 {
		for _, next := range edgeExts {
			want, wantLength, wantOk := wantedDecoded(word, next)
			x, length, ok := impl.DecodeIns(word, next)
			if x != want || length != wantLength || ok != wantOk {
				t.Fatalf("DecodeIns(%d, %d) = %v, %d, %v; want %v, %d, %v", word, next, x, length, ok, want, wantLength, wantOk)
			}
			words := []int{word, next}
			if back, is := impl.EncodeIns(x); is != ok || ok && !slices.Equal(back, words[:length]) {
				t.Fatal(word, next, x, back, is)
			}
		}
	}
}

func TestEverySecondWord(t *testing.T) {
	firsts := []int{
		3*2048 + 1024 + 7*32,       // OpAdd, a word, MdNow
		3*2048 + 7*32,              // a byte
		15*2048 + 1024 + 7*32 + 3,  // OpFlow 3
		19*2048 + 1024 + 7*32,      // OpStatus 0
		19*2048 + 7*32,             // a byte
		13*2048 + 1024 + 7*32 + 3,  // OpBranch
		2*2048 + 5*32 + 8,          // OpFrom, a byte, MdPlus
		10*2048 + 1024 + 6*32,      // OpLea, MdAbs
		2*2048 + 7*32,              // OpFrom to a number
		10*2048 + 1024 + 6*32 + 16, // MdAbs with a register
	}
	for _, word := range firsts {
		for next := range 65536 {
			want, wantLength, wantOk := wantedDecoded(word, next)
			if x, length, ok := impl.DecodeIns(word, next); x != want || length != wantLength || ok != wantOk {
				t.Fatalf("DecodeIns(%d, %d) = %v, %d, %v; want %v, %d, %v", word, next, x, length, ok, want, wantLength, wantOk)
			}
		}
	}
}

// The second word is looked at only where it is needed: what is none does no harm elsewhere, and bars where it is.
func TestASecondWordThatIsNone(t *testing.T) {
	for word := range 65536 {
		want, wantLength, wantOk := wantedDecoded(word, 0)
		for _, next := range wrongWords {
			if wantLength == 2 {
				refusesDecode(t, word, next)
			} else if x, length, ok := impl.DecodeIns(word, next); x != want || length != wantLength || ok != wantOk {
				t.Fatal(word, next, x, length, ok)
			}
		}
	}
}

func TestAFirstWordThatIsNone(t *testing.T) {
	for _, word := range wrongWords {
		for _, next := range slices.Concat(edgeExts, wrongWords) {
			refusesDecode(t, word, next)
		}
		if length, ok := impl.LongIns(word); length != 0 || ok {
			t.Fatal(word, length, ok)
		}
	}
}

func TestLongInsOfEveryWord(t *testing.T) {
	for word := range 65536 {
		mode := numberOfBits(fmt.Sprintf("%016b", word)[8:11])
		want := map[int]int{5: 2, 6: 2, 7: 2}[mode]
		if length, ok := impl.LongIns(word); length != max(want, 1) || !ok {
			t.Fatal(word, length, ok)
		}
	}
	for _, k := range []struct{ word, length int }{{0, 1}, {65535, 2}, {128, 1}, {160, 2}, {192, 2}, {224, 2}, {7648, 2}, {2048, 1}, {65535 - 224, 1}} {
		if length, ok := impl.LongIns(k.word); length != k.length || !ok {
			t.Error(k, length, ok)
		}
	}
}

func TestExtAtItsEdges(t *testing.T) {
	now := func(op, size, sub, ext int) impl.Ins {
		return impl.Ins{Op: op, Size: size, Sub: sub, Ea: impl.Operand{Mode: impl.MdNow, Ext: ext}}
	}
	for _, op := range []int{1, 3, 4, 5, 6, 7, 8} {
		checkGoodIns(t, now(op, 1, 0, 255))
		refusesIns(t, now(op, 1, 0, 256))
		refusesIns(t, now(op, 1, 0, 65535))
		checkGoodIns(t, now(op, 2, 0, 256))
		checkGoodIns(t, now(op, 2, 0, 65535))
		refusesIns(t, now(op, 2, 0, 65536))
	}
	for _, k := range []struct{ op, sub int }{{impl.OpFlow, 3}, {impl.OpStatus, 0}} {
		checkGoodIns(t, now(k.op, 2, k.sub, 0))
		checkGoodIns(t, now(k.op, 2, k.sub, 1023))
		refusesIns(t, now(k.op, 2, k.sub, 1024))
		refusesIns(t, now(k.op, 2, k.sub, 65535))
		refusesIns(t, now(k.op, 2, k.sub, -1))
		refusesIns(t, now(k.op, 1, k.sub, 0))
	}
	// a byte's limit is that of a number in the code alone: a place may be any word
	for _, mode := range []int{impl.MdPlus, impl.MdAbs} {
		checkGoodIns(t, impl.Ins{Op: impl.OpTo, Size: 1, Ea: impl.Operand{Mode: mode, Ext: 256}})
		checkGoodIns(t, impl.Ins{Op: impl.OpFrom, Size: 1, Ea: impl.Operand{Mode: mode, Ext: 65535}})
	}
}

func TestFlowAndStatusBySub(t *testing.T) {
	now := impl.Operand{Mode: impl.MdNow}
	for sub := -1; sub <= 8; sub++ {
		for reg := range 4 {
			for _, ea := range []impl.Operand{{}, {Reg: 1}, {Mode: impl.MdAddr}, {Mode: impl.MdAt}, {Mode: impl.MdAbs}, now} {
				for _, k := range []struct {
					op   int
					good bool
				}{
					{impl.OpFlow, sub == 3 && reg == 0 && ea == now || sub >= 0 && sub <= 2 && reg == 0 && ea == impl.Operand{} || sub >= 4 && sub <= 6 && ea == impl.Operand{}},
					{impl.OpStatus, sub == 0 && reg == 0 && ea == now || sub == 1 && ea == impl.Operand{}},
				} {
					x := impl.Ins{Op: k.op, Size: 2, Reg: reg, Sub: sub, Ea: ea}
					if k.good {
						checkGoodIns(t, x)
					} else {
						refusesIns(t, x)
					}
					x.Size = 1
					refusesIns(t, x)
				}
			}
		}
	}
}

// goodOfKind: one that is good, of an Op and a Sub, or false.
func goodOfKind(op int, sub int) (impl.Ins, bool) {
	for size := 1; size <= 2; size++ {
		for _, ea := range []impl.Operand{{}, {Mode: impl.MdAt}, {Mode: impl.MdNow}} {
			x := impl.Ins{Op: op, Size: size, Sub: sub, Ea: ea}
			if wantedGood(x) {
				return x, true
			}
		}
	}
	return impl.Ins{}, false
}

func TestIsPrivilegedOfEachOpAndSub(t *testing.T) {
	count, privileged := 0, ""
	for _, op := range ops {
		for sub := range 8 {
			x, good := goodOfKind(op, sub)
			if !good {
				continue
			}
			count++
			if is, ok := impl.IsPrivileged(x); !ok {
				t.Error(x)
			} else if is {
				privileged += fmt.Sprintf("%d.%d ", op, sub)
			}
		}
	}
	if count != 45 || privileged != "15.1 15.3 19.0 " {
		t.Error(count, privileged)
	}
}

func TestIsPrivilegedAsksForAGoodOne(t *testing.T) {
	now := impl.Operand{Mode: impl.MdNow}
	for _, x := range []impl.Ins{
		{Op: impl.OpFlow, Size: 1, Sub: 1}, {Op: impl.OpFlow, Size: 2, Sub: 1, Reg: 1}, {Op: impl.OpFlow, Size: 2, Sub: 1, Ea: now},
		{Op: impl.OpFlow, Size: 2, Sub: 3}, {Op: impl.OpFlow, Size: 2, Sub: 3, Reg: 1, Ea: now}, {Op: impl.OpFlow, Sub: 1},
		{Op: impl.OpStatus, Size: 2}, {Op: impl.OpStatus, Size: 2, Reg: 1, Ea: now}, {Op: impl.OpStatus, Size: 1, Ea: now},
	} {
		refusesIns(t, x)
	}
}

// rowOfIns: so many instructions, of one word and of two, no two neighbours alike.
func rowOfIns(length int) []impl.Ins {
	all := goodInstructions()
	var l []impl.Ins
	for i := range length {
		l = append(l, all[(i*2741+97)%len(all)])
	}
	return l
}

func wordsOfRow(l []impl.Ins) []int {
	var words []int
	for _, x := range l {
		words = append(words, wantedWords(x)...)
	}
	return words
}

func TestRowsComeBack(t *testing.T) {
	for _, length := range []int{0, 1, 2, 3, 7, 39, 40} {
		for _, l := range [][]impl.Ins{rowOfIns(length), slices.Repeat([]impl.Ins{shortIns()}, length), slices.Repeat([]impl.Ins{longIns()}, length)} {
			words, ok := impl.EncodeAll(l)
			if want := wordsOfRow(l); !slices.Equal(words, want) || !ok {
				t.Fatal(l, words, ok)
			}
			if back, ok := impl.DecodeAll(words); !slices.Equal(back, l) || !ok {
				t.Fatal(l, back, ok)
			}
		}
	}
	if words, ok := impl.EncodeAll([]impl.Ins{}); len(words) != 0 || !ok {
		t.Error(words, ok)
	}
	if l, ok := impl.DecodeAll([]int{}); len(l) != 0 || !ok {
		t.Error(l, ok)
	}
}

func TestDecodeAllUpToItsLimit(t *testing.T) {
	short, long := wantedWords(shortIns()), wantedWords(longIns())
	for _, words := range [][]int{slices.Repeat(short, 80), slices.Repeat(long, 40), slices.Repeat(short, 79), slices.Concat(slices.Repeat(short, 78), long)} {
		l, ok := impl.DecodeAll(words)
		if !slices.Equal(wordsOfRow(l), words) || !ok {
			t.Fatal(words, l, ok)
		}
	}
	refusesDecodeAll(t, slices.Repeat(short, 81))
	refusesDecodeAll(t, slices.Concat(slices.Repeat(long, 40), short))
	refusesDecodeAll(t, slices.Repeat(long, 41))
	refusesDecodeAll(t, slices.Repeat(short, 400))
}

func TestEncodeAllUpToItsLimit(t *testing.T) {
	for _, length := range []int{41, 42, 80, 81, 400} {
		refusesEncodeAll(t, slices.Repeat([]impl.Ins{shortIns()}, length))
		refusesEncodeAll(t, slices.Repeat([]impl.Ins{longIns()}, length))
		refusesEncodeAll(t, rowOfIns(length))
	}
}

func TestWordsThatEndAheadOfASecondOne(t *testing.T) {
	for _, ahead := range []int{0, 1, 2, 39, 78, 79} {
		for _, x := range []impl.Ins{longIns(), {Op: impl.OpFlow, Size: 2, Sub: 3, Ea: impl.Operand{Mode: impl.MdNow}}, {Op: impl.OpLea, Size: 2, Ea: impl.Operand{Mode: impl.MdAbs}}} {
			words := append(slices.Repeat(wantedWords(shortIns()), ahead), wantedWords(x)[0])
			refusesDecodeAll(t, words)
			// what lies behind the list's length is no second word
			refusesDecodeAll(t, append(words, 5, 5, 5)[:ahead+1])
		}
	}
}

func TestAWrongOneAmongGoodOnes(t *testing.T) {
	for _, length := range []int{1, 2, 5, 40} {
		for at := range length {
			for _, wrong := range []impl.Ins{{}, {Op: 20, Size: 2}, {Op: impl.OpTo, Size: 3}, {Op: impl.OpTo, Size: 1, Ea: impl.Operand{Mode: impl.MdAddr}}} {
				l := slices.Repeat([]impl.Ins{longIns()}, length)
				l[at] = wrong
				refusesEncodeAll(t, l)
			}
			for _, wrong := range append([]int{0, 1, 2047, 20 * 2048, 65535}, wrongWords...) {
				words := slices.Repeat(wantedWords(shortIns()), length)
				words[at] = wrong
				refusesDecodeAll(t, words)
			}
			for _, wrong := range wrongWords {
				words := slices.Repeat(wantedWords(longIns()), length)
				words[2*at+1] = wrong
				refusesDecodeAll(t, words)
			}
		}
	}
}

// A second word is no instruction, though it would be one by itself: what is read first takes it.
func TestASecondWordIsNotRead(t *testing.T) {
	x, y := longIns(), shortIns()
	x.Ea.Ext = wantedWords(y)[0]
	if l, ok := impl.DecodeAll(wantedWords(x)); !slices.Equal(l, []impl.Ins{x}) || !ok {
		t.Error(l, ok)
	}
	words := slices.Concat(wantedWords(x), wantedWords(y), wantedWords(x))
	if l, ok := impl.DecodeAll(words); !slices.Equal(l, []impl.Ins{x, y, x}) || !ok {
		t.Error(l, ok)
	}
}

func TestWrongFieldsOfInstructions(t *testing.T) {
	for _, good := range rowOfIns(400) {
		for _, change := range []struct {
			field func(*impl.Ins) *int
			wrong []int
		}{
			{func(x *impl.Ins) *int { return &x.Op }, wrongOps},
			{func(x *impl.Ins) *int { return &x.Size }, wrongSizes},
			{func(x *impl.Ins) *int { return &x.Reg }, wrongRegNumbers},
			{func(x *impl.Ins) *int { return &x.Sub }, wrongSubs},
			{func(x *impl.Ins) *int { return &x.Ea.Mode }, wrongModes},
			{func(x *impl.Ins) *int { return &x.Ea.Reg }, wrongRegNumbers},
			{func(x *impl.Ins) *int { return &x.Ea.Ext }, wrongWords},
		} {
			for _, v := range change.wrong {
				x := good
				*change.field(&x) = v
				refusesIns(t, x)
			}
		}
	}
}

// Fields that are out of their range are refused, though the sum of all would be the word of a good one.
func TestFieldsThatMakeUpAnothersWord(t *testing.T) {
	for _, good := range rowOfIns(400) {
		for bit := range 64 {
			for _, field := range []func(*impl.Ins) *int{
				func(x *impl.Ins) *int { return &x.Op },
				func(x *impl.Ins) *int { return &x.Size },
				func(x *impl.Ins) *int { return &x.Reg },
				func(x *impl.Ins) *int { return &x.Sub },
				func(x *impl.Ins) *int { return &x.Ea.Mode },
				func(x *impl.Ins) *int { return &x.Ea.Reg },
			} {
				for _, v := range []int{1 << bit, -1 << bit} {
					x := good
					*field(&x) += v
					if !wantedGood(x) {
						refusesIns(t, x)
					}
				}
			}
		}
		carried := good
		carried.Op, carried.Size = good.Op-1, good.Size+2
		refusesIns(t, carried)
		borrowed := good
		borrowed.Op, borrowed.Reg = good.Op+1, good.Reg-8
		refusesIns(t, borrowed)
	}
}

func TestWrongOperandsOfInstructions(t *testing.T) {
	for _, op := range ops {
		for sub := range 8 {
			for _, size := range sizes {
				for _, o := range wrongOperands() {
					refusesIns(t, impl.Ins{Op: op, Size: size, Sub: sub, Ea: o})
				}
			}
		}
	}
}

func TestInstructionsWriteIntoNone(t *testing.T) {
	room := append(rowOfIns(40), slices.Repeat([]impl.Ins{{Op: -7}}, 12)...)
	words := append(wordsOfRow(room[:20]), slices.Repeat([]int{-7}, 80)...)
	length := len(words) - 80
	wantRoom, wantWords := slices.Clone(room), slices.Clone(words)
	if _, ok := impl.EncodeAll(room[:40]); !ok {
		t.Error("row")
	}
	if l, ok := impl.DecodeAll(words[:length]); len(l) != 20 || !ok {
		t.Error("words", l)
	}
	refusesEncodeAll(t, room)
	refusesDecodeAll(t, words[:length+1])
	if !slices.Equal(room, wantRoom) || !slices.Equal(words, wantWords) {
		t.Error("an argument's memory was changed")
	}
}

func TestInstructionsAnswerNewMemory(t *testing.T) {
	l := rowOfIns(40)
	want := wordsOfRow(l)
	first, _ := impl.EncodeAll(l)
	second, _ := impl.EncodeAll(l)
	read, _ := impl.DecodeAll(first)
	again, _ := impl.DecodeAll(first)
	wantRead := slices.Clone(l)
	clear(l)
	spoil(second[:cap(second)])
	clear(again[:cap(again)])
	if !slices.Equal(first, want) || !slices.Equal(read, wantRead) {
		t.Error("an answer shares memory")
	}
	spoil(first[:cap(first)])
	if !slices.Equal(read, wantRead) {
		t.Error("what was read shares memory with its words")
	}
	for _, x := range []impl.Ins{shortIns(), longIns()} {
		one, _ := impl.EncodeIns(x)
		spoil(one[:cap(one)])
		if two, ok := impl.EncodeIns(x); !slices.Equal(two, wantedWords(x)) || !ok {
			t.Error("an answer is kept", two)
		}
	}
}
