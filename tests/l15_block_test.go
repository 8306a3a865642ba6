package tests

import (
	"math"
	"slices"
	"strings"
	"sync"
	"testing"

	"loop.example/g00389/impl"
)

// What chapter 15 must answer of units is worked out here from the instructions' texts of bits, one behind the other on the text with a letter
// an address, with the dead flags of chapter 14's tests; and each answer is held against the words that lie on the bus.

// laidUnit puts instructions one behind the other, good or not, with these skips.
func laidUnit(from int, skips []bool, l ...impl.Ins) impl.Unit {
	u := impl.Unit{From: from, To: from}
	for i, x := range l {
		u.List = append(u.List, impl.Micro{X: x, At: u.To, Skip: skips[i]})
		u.To += 2
		if slices.Contains(extModes, x.Ea.Mode) {
			u.To += 2
		}
	}
	return u
}

// wantedSkips: all flags are needed behind the last one that is straight.
func wantedSkips(l []impl.Ins) []bool {
	if last := len(l) - 1; !isStraightOne(l[last]) {
		return append(wantedDead(l[:last]), false)
	}
	return wantedDead(l)
}

func wantedUnit(from int, l ...impl.Ins) impl.Unit {
	return laidUnit(from, wantedSkips(l), l...)
}

func sameUnits(a impl.Unit, b impl.Unit) bool {
	return a.From == b.From && a.To == b.To && slices.Equal(a.List, b.List)
}

func isNoUnit(u impl.Unit) bool { return sameUnits(u, impl.Unit{}) }

func cloneUnit(u impl.Unit) impl.Unit {
	u.List = slices.Clone(u.List)
	return u
}

func rowOfUnit(u impl.Unit) []impl.Ins {
	var l []impl.Ins
	for _, m := range u.List {
		l = append(l, m.X)
	}
	return l
}

func skipText(u impl.Unit) string {
	var skips []bool
	for _, m := range u.List {
		skips = append(skips, m.Skip)
	}
	return deadText(skips)
}

// bytesOfUnit: what lies where a unit is, byte for byte.
func bytesOfUnit(u impl.Unit) []int {
	var bytes []int
	for _, word := range wordsOfRow(rowOfUnit(u)) {
		bytes = append(bytes, wantedBytes(2, word)...)
	}
	return bytes
}

// busOf: with a unit's words at its place, whatever is there.
func busOf(u impl.Unit) impl.Bus {
	b := fullBus(2)
	copy(b.Bytes[u.From:], bytesOfUnit(u))
	return b
}

var elsewhereKinds = sync.OnceValue(notStraight)

// sundryBlock: of this length, every third one with a last one that leads elsewhere.
func sundryBlock(s *sundry, length int) []impl.Ins {
	l := sundryRow(s, length)
	if few := elsewhereKinds(); s.below(3) == 0 {
		l[length-1] = few[s.below(len(few))]
	}
	return l
}

// shortBlock and longBlock: instructions of one word, and of two, without memory.
func shortBlock(length int) []impl.Ins {
	return slices.Repeat([]impl.Ins{ofData(impl.OpAdd, 0)}, length)
}

func longBlock(length int) []impl.Ins { return slices.Repeat([]impl.Ins{longIns()}, length) }

// mixedBlock is a block of one word and two by turns, with skips and without.
func mixedBlock(length int) []impl.Ins {
	return slices.Repeat([]impl.Ins{ofData(impl.OpTo, 0), longIns(), flowOf(2), {Op: impl.OpFrom, Size: 2, Ea: abs(300)}, ofData(impl.OpCmp, 0)}, 9)[:length]
}

func isGood(t *testing.T, u impl.Unit) {
	t.Helper()
	if !impl.GoodUnit(u) {
		t.Fatal("it is not good", u)
	}
	bytes := bytesOfUnit(u)
	words, ok := impl.WordsOf(u)
	if !ok || !slices.Equal(words, wordsOfRow(rowOfUnit(u))) || 2*len(words) != u.To-u.From || len(bytes) != u.To-u.From {
		t.Fatal("WordsOf", u, words, ok)
	}
}

// refusesUnit: no function takes it.
func refusesUnit(t *testing.T, u impl.Unit) {
	t.Helper()
	if impl.GoodUnit(u) {
		t.Fatal("GoodUnit", u)
	}
	if words, ok := impl.WordsOf(u); len(words) != 0 || ok {
		t.Fatal("WordsOf", u, words, ok)
	}
	if over, ok := impl.Overlaps(u, 100, 1); over || ok {
		t.Fatal("Overlaps", u, over, ok)
	}
	if fresh, ok := impl.IsFresh(plainBus(), u); fresh || ok {
		t.Fatal("IsFresh", u, fresh, ok)
	}
	c := plainCpu()
	if u.From >= 0 && u.From <= 65535 {
		c.R.PC = u.From
	}
	refusesUnitRun(t, c, u)
	if can, ok := impl.CanRun(c, u); can || ok {
		t.Fatal("CanRun", u, can, ok)
	}
}

// plainCpu and plainBus are made once: no function writes into them.
var plainCpu = sync.OnceValue(func() impl.Cpu { return cpuWith() })

var plainBus = sync.OnceValue(func() impl.Bus { return fullBus(0) })

func TestConstantOfBlocks(t *testing.T) {
	if impl.MaxBlock != 8 {
		t.Error(impl.MaxBlock)
	}
}

func TestGoodUnitsOfEachLength(t *testing.T) {
	for length := 1; length <= 8; length++ {
		for _, l := range [][]impl.Ins{shortBlock(length), longBlock(length), mixedBlock(length), append(mixedBlock(length)[:length-1:length-1], flowOf(0))} {
			size := 2 * len(wordsOfRow(l))
			for _, from := range []int{0, 2, 100, 382, 384, 446, 494, 496, 512 - size - 2, 512 - size} {
				if from+size <= 512 {
					isGood(t, wantedUnit(from, l...))
				}
			}
		}
	}
}

func TestUnitsOfEveryGoodInstruction(t *testing.T) {
	for i, x := range goodInstructions() {
		isGood(t, wantedUnit(2*(i%250), x))
		if i%7 == 0 {
			isGood(t, wantedUnit(2*(i%240), append(mixedBlock(i%8), x)...))
		}
	}
}

func TestUnitsOfNoneAndOfTooMany(t *testing.T) {
	for _, u := range []impl.Unit{{}, {From: 100, To: 100}, {From: 100, To: 102}, {List: []impl.Micro{}}, {From: 512, To: 512}, {From: -2, To: -2}} {
		refusesUnit(t, u)
	}
	for _, length := range []int{9, 10, 15, 16, 17, 40, 200} {
		refusesUnit(t, wantedUnit(100, shortBlock(length)...))
		refusesUnit(t, wantedUnit(100, longBlock(length)...))
		refusesUnit(t, laidUnit(100, make([]bool, length), slices.Repeat([]impl.Ins{flowOf(2)}, length)...))
	}
}

func TestWhereAUnitMayBegin(t *testing.T) {
	for _, k := range []struct {
		from             int
		short, long, two bool
	}{
		{0, true, true, true}, {2, true, true, true}, {100, true, true, true}, {448, true, true, true}, {506, true, true, true},
		{508, true, true, false}, {510, true, false, false}, {512, false, false, false}, {514, false, false, false}, {1024, false, false, false}, {65536, false, false, false},
		{1, false, false, false}, {3, false, false, false}, {101, false, false, false}, {507, false, false, false}, {509, false, false, false}, {511, false, false, false},
		{-1, false, false, false}, {-2, false, false, false}, {-4, false, false, false}, {-6, false, false, false}, {-512, false, false, false},
		{math.MinInt, false, false, false}, {math.MinInt + 2, false, false, false}, {math.MaxInt, false, false, false},
		{math.MaxInt - 1, false, false, false}, {math.MaxInt - 3, false, false, false}, {math.MaxInt - 5, false, false, false}, {1 << 32, false, false, false},
	} {
		for _, of := range []struct {
			l    []impl.Ins
			good bool
		}{
			{shortBlock(1), k.short}, {longBlock(1), k.long}, {shortBlock(2), k.long}, {[]impl.Ins{flowOf(2), longIns()}, k.two}, {[]impl.Ins{longIns(), flowOf(0)}, k.two},
		} {
			if u := wantedUnit(k.from, of.l...); of.good {
				isGood(t, u)
			} else {
				refusesUnit(t, u)
			}
		}
	}
}

func TestOneThingOfAUnitIsAnother(t *testing.T) {
	for _, from := range []int{0, 100, 456} {
		for length := 1; length <= 8; length++ {
			u := wantedUnit(from, mixedBlock(length)...)
			isGood(t, u)
			for _, by := range []int{-512, -100, -4, -3, -2, -1, 1, 2, 3, 4, 100, 65536, math.MinInt, math.MaxInt} {
				v := cloneUnit(u)
				v.From += by
				refusesUnit(t, v)
				v = cloneUnit(u)
				v.To += by
				refusesUnit(t, v)
				for i := range length {
					v = cloneUnit(u)
					v.List[i].At += by
					refusesUnit(t, v)
				}
			}
			for i := range length {
				v := cloneUnit(u)
				v.List[i].Skip = !v.List[i].Skip
				refusesUnit(t, v)
			}
		}
	}
}

// A gap between two micros, or two at one place, makes none, though To fits.
func TestMicrosThatAreNotOneBehindTheOther(t *testing.T) {
	for _, by := range []int{-2, 2, 4} {
		u := wantedUnit(100, longBlock(4)...)
		u.To += by
		u.List[2].At += by
		u.List[3].At += by
		refusesUnit(t, u)
	}
	u := wantedUnit(100, shortBlock(4)...)
	slices.Reverse(u.List)
	refusesUnit(t, u)
}

func TestSkipsOfSundryUnits(t *testing.T) {
	s := &sundry{seed: 1500}
	seen := map[byte]int{}
	for range 800 {
		u := wantedUnit(2*s.below(240), sundryBlock(s, 1+s.below(8))...)
		isGood(t, u)
		for i := range u.List {
			seen[skipText(u)[i]]++
			v := cloneUnit(u)
			v.List[i].Skip = !v.List[i].Skip
			if impl.GoodUnit(v) {
				t.Fatal("another skip", i, v)
			}
		}
	}
	if seen['x'] < 300 || seen['.'] < 300 {
		t.Error(seen)
	}
}

// Each row's skips are named; of the last one, where it leads elsewhere, too.
func TestSkipsNamedOneByOne(t *testing.T) {
	to, add, cmp, idle := ofData(impl.OpTo, 0), ofData(impl.OpAdd, 0), ofData(impl.OpCmp, 0), flowOf(2)
	from, div := impl.Ins{Op: impl.OpFrom, Size: 2, Ea: abs(300)}, impl.Ins{Op: impl.OpDiv, Size: 2, Ea: now(3)}
	branch := func(cond int) impl.Ins {
		return impl.Ins{Op: impl.OpBranch, Size: 2, Reg: cond / 8, Ea: now(6), Sub: cond % 8}
	}
	stop, take := impl.Ins{Op: impl.OpFlow, Size: 2, Ea: now(5), Sub: 3}, impl.Ins{Op: impl.OpStatus, Size: 2, Ea: now(5)}
	call := impl.Ins{Op: impl.OpJump, Size: 2, Ea: abs(300), Sub: 1}
	for _, k := range []struct {
		l    []impl.Ins
		want string
	}{
		{[]impl.Ins{to}, "."}, {[]impl.Ins{to, add}, "x."}, {[]impl.Ins{to, add, from}, "x.."}, {[]impl.Ins{add, to}, ".."}, {[]impl.Ins{to, to, to}, "xx."}, {[]impl.Ins{to, div, to}, ".x."},
		{[]impl.Ins{from, add}, ".."}, {[]impl.Ins{to, idle}, ".."}, {[]impl.Ins{to, idle, cmp}, "x.."}, {shortBlock(8), "xxxxxxx."}, {[]impl.Ins{to, from, to, from, to, add, to, add}, "....xxx."},
		{[]impl.Ins{branch(0)}, "."}, {[]impl.Ins{flowOf(0)}, "."}, {[]impl.Ins{stop}, "."}, {[]impl.Ins{take}, "."}, {[]impl.Ins{call}, "."},
		{[]impl.Ins{add, branch(0)}, ".."}, {[]impl.Ins{add, branch(impl.CcSame)}, ".."}, {[]impl.Ins{add, to, branch(impl.CcSame)}, "..."}, {[]impl.Ins{to, add, branch(impl.CcCarry)}, "x.."},
		{[]impl.Ins{to, add, flowOf(0)}, "x.."}, {[]impl.Ins{to, add, flowOf(1)}, "x.."}, {[]impl.Ins{to, add, stop}, "x.."}, {[]impl.Ins{to, add, flowOf(4)}, "x.."}, {[]impl.Ins{to, add, take}, "x.."}, {[]impl.Ins{to, add, call}, "x.."},
		// what takes all flags leads elsewhere: those ahead of it are needed all the same
		{[]impl.Ins{add, stop}, ".."}, {[]impl.Ins{add, take}, ".."}, {[]impl.Ins{add, flowOf(1)}, ".."}, {append(shortBlock(7), flowOf(0)), "xxxxxx.."},
	} {
		u := wantedUnit(100, k.l...)
		if skipText(u) != k.want {
			t.Error(k.l, skipText(u), "want", k.want)
		}
		isGood(t, u)
		c := cpuWith(k.l...)
		layWord(c, u.To, 0)
		if told, ok := impl.TranslateAt(c.Bus, 100); !sameUnits(told, u) || !ok {
			t.Error(k.l, told, ok)
		}
	}
}

// bothSkips: with a skip at a place, and without.
func bothSkips(u impl.Unit, at int, each func(impl.Unit)) {
	for _, skip := range []bool{false, true} {
		u = cloneUnit(u)
		u.List[at].Skip = skip
		each(u)
	}
}

func TestAWrongInstructionAtEachPlaceOfAUnit(t *testing.T) {
	wrong := wrongInstructions()
	for i, x := range wrong {
		length := 1 + i%8
		l := mixedBlock(length)
		l[i/8%length] = x
		bothSkips(laidUnit(100, make([]bool, 8), l...), i/8%length, func(u impl.Unit) { refusesUnit(t, u) })
		bothSkips(laidUnit(100, make([]bool, 8), x), 0, func(u impl.Unit) { refusesUnit(t, u) })
	}
	for length := 1; length <= 8; length++ {
		for place := range length {
			for _, x := range []impl.Ins{{}, {Op: impl.OpTo, Size: 1, Ea: by(impl.MdAddr, 0)}, {Op: impl.OpFlow, Size: 2, Sub: 7}, {Op: 20, Size: 2}, {Op: impl.OpJump, Size: 1, Ea: abs(0)}} {
				l := mixedBlock(length)
				l[place] = x
				bothSkips(laidUnit(100, make([]bool, 8), l...), place, func(u impl.Unit) { refusesUnit(t, u) })
			}
		}
	}
}

// In the last place alone one may lead elsewhere.
func TestOneThatIsNotStraightAtEachPlaceOfAUnit(t *testing.T) {
	for _, x := range elsewhereKinds() {
		for length := 1; length <= 8; length++ {
			for place := range length {
				l := mixedBlock(length)
				l[place] = x
				if place == length-1 {
					isGood(t, wantedUnit(100, l...))
					continue
				}
				refusesUnit(t, laidUnit(100, make([]bool, 8), l...))
				refusesUnit(t, laidUnit(100, wantedDead(l), l...))
				refusesUnit(t, laidUnit(100, append(append(wantedDead(l[:place]), false), wantedDead(l[place+1:])...), l...))
			}
		}
	}
}

func TestWordsOfNamedUnits(t *testing.T) {
	short, long := impl.Ins{Op: 1, Size: 1}, longIns()
	for _, k := range []struct {
		l    []impl.Ins
		want []int
	}{
		{[]impl.Ins{short}, []int{2048}}, {[]impl.Ins{long}, []int{7648, 5}}, {[]impl.Ins{short, long}, []int{2048, 7648, 5}}, {[]impl.Ins{long, short}, []int{7648, 5, 2048}},
		{[]impl.Ins{{Op: 15, Size: 2, Reg: 3, Sub: 5}, {Op: 15, Size: 2, Reg: 3, Sub: 4}}, []int{32517, 32516}},
		{longBlock(8), slices.Repeat([]int{7648, 5}, 8)},
	} {
		for _, from := range []int{0, 100, 480} {
			if words, ok := impl.WordsOf(wantedUnit(from, k.l...)); !slices.Equal(words, k.want) || !ok {
				t.Error(k, from, words, ok)
			}
		}
	}
}

func checkOver(t *testing.T, u impl.Unit, addr int, size int, want bool) {
	t.Helper()
	if over, ok := impl.Overlaps(u, addr, size); over != want || !ok {
		t.Fatalf("Overlaps from %d to %d, of %d at %d = %v, %v", u.From, u.To, size, addr, over, ok)
	}
}

func TestOverlapsAtItsEdges(t *testing.T) {
	u := wantedUnit(100, longIns(), flowOf(2))
	for _, k := range []struct {
		addr       int
		byte, word bool
	}{
		{0, false, false}, {97, false, false}, {98, false, false}, {99, false, true}, {100, true, true}, {101, true, true}, {104, true, true}, {105, true, true},
		{106, false, false}, {107, false, false}, {512, false, false}, {65535, false, false},
	} {
		checkOver(t, u, k.addr, 1, k.byte)
		checkOver(t, u, k.addr, 2, k.word)
	}
}

func TestOverlapsOfEveryAddress(t *testing.T) {
	for _, u := range []impl.Unit{wantedUnit(0, flowOf(2)), wantedUnit(0, longIns()), wantedUnit(2, flowOf(2)), wantedUnit(100, mixedBlock(8)...), wantedUnit(440, longBlock(8)...), wantedUnit(510, flowOf(0)), wantedUnit(480, longBlock(8)...)} {
		inside := strings.Repeat(".", u.From) + strings.Repeat("u", u.To-u.From) + strings.Repeat(".", 65537-u.To)
		for addr := range 65536 {
			if addr > 600 && addr < 65500 && addr%997 > 0 {
				continue
			}
			for _, size := range sizes {
				checkOver(t, u, addr, size, strings.Contains(inside[addr:addr+size], "u"))
			}
		}
	}
}

func TestOverlapsRefusesWhatIsNoAccess(t *testing.T) {
	u := wantedUnit(0, mixedBlock(8)...)
	for _, addr := range wrongAddresses {
		for _, size := range sizes {
			if over, ok := impl.Overlaps(u, addr, size); over || ok {
				t.Error(addr, size, over, ok)
			}
		}
	}
	for _, size := range wrongSizes {
		for _, addr := range []int{0, 1, 20, 65535} {
			if over, ok := impl.Overlaps(u, addr, size); over || ok {
				t.Error(addr, size, over, ok)
			}
		}
	}
}

func checkFresh(t *testing.T, b impl.Bus, u impl.Unit, want bool) {
	t.Helper()
	if fresh, ok := impl.IsFresh(b, u); fresh != want || !ok {
		t.Fatalf("IsFresh of %v = %v, %v", u, fresh, ok)
	}
}

func isInHole(u impl.Unit) bool { return strings.Contains(addressLetters[u.From:u.To], "h") }

// Each byte of a unit counts, and no other.
func TestIsFreshAsksForEachByte(t *testing.T) {
	for _, u := range []impl.Unit{wantedUnit(0, flowOf(2)), wantedUnit(100, mixedBlock(8)...), wantedUnit(100, longIns()), wantedUnit(378, longBlock(3)...), wantedUnit(416, longBlock(8)...), wantedUnit(496, shortBlock(8)...), wantedUnit(508, longIns())} {
		b := busOf(u)
		checkFresh(t, b, u, true)
		for i := range 512 {
			inside := i >= u.From && i < u.To
			for _, by := range []int{1, 255, 128} {
				other := cloneBus(b)
				other.Bytes[i] = (b.Bytes[i] + by) % 256
				checkFresh(t, other, u, !inside)
			}
		}
		// two changes do not weigh each other out
		other := cloneBus(b)
		other.Bytes[u.From], other.Bytes[u.From+1] = b.Bytes[u.From+1], b.Bytes[u.From]
		checkFresh(t, other, u, b.Bytes[u.From] == b.Bytes[u.From+1])
	}
}

func TestIsFreshOfSundryUnits(t *testing.T) {
	s := &sundry{seed: 1501}
	seen := map[bool]int{}
	for range 1500 {
		u := wantedUnit(2*s.below(240), sundryBlock(s, 1+s.below(8))...)
		b := busOf(u)
		fresh := !isInHole(u)
		seen[fresh]++
		checkFresh(t, b, u, fresh)
		at := u.From + s.below(u.To-u.From)
		b.Bytes[at] = (b.Bytes[at] + 1 + s.below(255)) % 256
		checkFresh(t, b, u, false)
	}
	if seen[true] < 300 || seen[false] < 100 {
		t.Error(seen)
	}
}

// What lies in a hole is not there, though the bytes are the same; just ahead of it and just behind it all is.
func TestIsFreshInAndAroundAHole(t *testing.T) {
	for _, k := range []struct {
		from  int
		l     []impl.Ins
		fresh bool
	}{
		{444, longBlock(1), true}, {446, shortBlock(1), true}, {446, longBlock(1), false}, {444, shortBlock(2), true}, {444, shortBlock(3), false}, {448, shortBlock(1), false}, {460, mixedBlock(4), false},
		{494, shortBlock(1), false}, {494, longBlock(1), false}, {492, shortBlock(2), false}, {494, shortBlock(2), false}, {496, shortBlock(1), true}, {496, longBlock(4), true}, {510, []impl.Ins{flowOf(0)}, true},
		{384, longBlock(8), true}, {380, longBlock(2), true}, {0, longBlock(8), true},
	} {
		u := wantedUnit(k.from, k.l...)
		isGood(t, u)
		checkFresh(t, busOf(u), u, k.fresh)
	}
}

// wantedRowAt: instruction by instruction, as long as all their letters are no h.
func wantedRowAt(b impl.Bus, pc int) []impl.Ins {
	var l []impl.Ins
	wordAt := func(addr int) (int, bool) {
		if strings.Contains(addressLetters[addr:addr+2], "h") {
			return 0, false
		}
		return wantedValue(b.Bytes[addr : addr+2]), true
	}
	for len(l) < 8 {
		word, there := wordAt(pc)
		next, thereToo := wordAt(pc + 2)
		x, length, ok := wantedDecoded(word, next)
		if !there || !ok || length == 2 && !thereToo {
			break
		}
		l = append(l, x)
		if !isStraightOne(x) {
			break
		}
		pc += 2 * length
	}
	return l
}

func refusesTranslating(t *testing.T, b impl.Bus, pc int) {
	t.Helper()
	if u, ok := impl.TranslateAt(b, pc); !isNoUnit(u) || ok {
		t.Fatalf("TranslateAt(%d) = %v, %v", pc, u, ok)
	}
}

// checkTranslates: as wanted, good, fresh, with nothing behind its list, and with the words that lie there.
func checkTranslates(t *testing.T, b impl.Bus, pc int) int {
	t.Helper()
	l := wantedRowAt(b, pc)
	if len(l) == 0 {
		refusesTranslating(t, b, pc)
		return 0
	}
	want := wantedUnit(pc, l...)
	u, ok := impl.TranslateAt(b, pc)
	if !ok || !sameUnits(u, want) {
		t.Fatalf("TranslateAt(%d) = %v, %v; want %v", pc, u, ok, want)
	}
	isGood(t, u)
	checkFresh(t, b, u, true)
	for i, word := range wordsOfRow(l) {
		if there, ok := impl.PeekWord(b, pc+2*i); there != word || !ok {
			t.Fatalf("TranslateAt(%d): at %d lies %d", pc, pc+2*i, there)
		}
	}
	if behind := u.List[len(u.List):cap(u.List)]; len(behind) > 0 {
		t.Fatal("behind its list lies", behind)
	}
	return len(l)
}

// fullOfCode: instructions one behind the other all over the memory, such as lead elsewhere and words that are none among them.
func fullOfCode(s *sundry) impl.Bus {
	c := sundryCpu(s)
	for at := 0; at < 512; {
		x := sundryBlock(s, 1)[0]
		switch s.below(8) {
		case 0:
			x = sundryIns(s)
		case 1:
			x = impl.Ins{Op: 0, Size: 1 + s.below(2)}
		}
		words := wantedWords(x)
		for i, word := range words {
			if at+2*i < 512 {
				layWord(c, at+2*i, word)
			}
		}
		at += 2 * len(words)
	}
	return c.Bus
}

func TestTranslateAtEveryPlace(t *testing.T) {
	s := &sundry{seed: 1502}
	seen := map[int]int{}
	for range 60 {
		b := fullOfCode(s)
		for pc := 0; pc <= 512; pc += 2 {
			seen[checkTranslates(t, b, pc)]++
			refusesTranslating(t, b, pc+1)
		}
	}
	for length := range 9 {
		if seen[length] < 100 {
			t.Error("hardly ever seen", length, seen)
		}
	}
}

func TestTranslateAtOfEveryGoodInstruction(t *testing.T) {
	for i, x := range goodInstructions() {
		if i%5 > 0 {
			continue
		}
		at := 2 * (i % 180)
		if checkTranslates(t, layAt(at, x), at) != 1 {
			t.Fatal(x)
		}
	}
}

// layAt: a bus with these from a place on, and words behind them that are none.
func layAt(at int, l ...impl.Ins) impl.Bus {
	c := impl.Cpu{Bus: fullBus(1)}
	clear(c.Bus.Bytes)
	for i, word := range wordsOfRow(l) {
		if at+2*i+2 <= 512 {
			layWord(c, at+2*i, word)
		}
	}
	return c.Bus
}

func TestTranslateAtNamedPlaces(t *testing.T) {
	idle, long, back := flowOf(2), longIns(), flowOf(0)
	for _, k := range []struct {
		at, pc int
		l      []impl.Ins
		want   int
	}{
		{0, 0, []impl.Ins{idle}, 1}, {0, 0, []impl.Ins{long, idle}, 2}, {0, 2, []impl.Ins{long, idle}, 0}, {0, 4, []impl.Ins{long, idle}, 1}, {0, 6, []impl.Ins{long, idle}, 0},
		{100, 98, []impl.Ins{idle}, 0}, {100, 102, []impl.Ins{idle}, 0},
		// words that are none: first, and behind some
		{100, 100, nil, 0}, {100, 100, []impl.Ins{idle, idle, long}, 3},
		// one that leads elsewhere is the last one
		{100, 100, []impl.Ins{back, idle}, 1}, {100, 100, []impl.Ins{idle, back, idle}, 2}, {100, 100, []impl.Ins{long, long, flowOf(4), long}, 3}, {100, 100, append(shortBlock(7), back, idle), 8},
		// as many as there are, and more
		{100, 100, shortBlock(7), 7}, {100, 100, shortBlock(8), 8}, {100, 100, shortBlock(9), 8}, {100, 100, append(longBlock(8), back), 8}, {100, 100, longBlock(30), 8},
		// over an edge from what is written to what is fixed
		{380, 380, longBlock(4), 4}, {384, 384, longBlock(8), 8},
		// a hole, and just ahead of one
		{446, 446, []impl.Ins{idle}, 1}, {446, 446, []impl.Ins{long}, 0}, {444, 444, []impl.Ins{idle, long}, 1}, {444, 444, []impl.Ins{long, idle}, 1}, {440, 440, []impl.Ins{idle, idle, idle, idle, idle, idle}, 4}, {440, 440, longBlock(8), 2},
		{448, 448, []impl.Ins{idle}, 0}, {450, 450, longBlock(8), 0}, {494, 494, []impl.Ins{idle, idle}, 0}, {494, 494, []impl.Ins{long}, 0}, {494, 496, []impl.Ins{idle, idle}, 1},
		// devices' bytes are bytes like others
		{496, 496, longBlock(4), 4}, {496, 496, shortBlock(8), 8}, {496, 500, longBlock(4), 3},
		// the end of memory
		{510, 510, []impl.Ins{idle}, 1}, {510, 510, []impl.Ins{back}, 1}, {510, 510, []impl.Ins{long}, 0}, {508, 508, []impl.Ins{long}, 1}, {508, 508, []impl.Ins{idle, long}, 1}, {506, 506, []impl.Ins{long, long}, 1}, {504, 504, shortBlock(8), 4},
		{510, 512, []impl.Ins{idle}, 0},
	} {
		b := layAt(k.at, k.l...)
		if got := checkTranslates(t, b, k.pc); got != k.want {
			t.Error(k, got)
		}
		u, _ := impl.TranslateAt(b, k.pc)
		if len(u.List) != k.want || k.want > 0 && k.at == k.pc && !sameUnits(u, wantedUnit(k.at, k.l[:k.want]...)) {
			t.Error(k, u)
		}
	}
}

// Only the words on the bus count: neither its log nor what a hole's bytes are.
func TestTranslateAtLooksAtNoOtherThing(t *testing.T) {
	for _, logged := range []int{0, 1, 399, 400} {
		b := layAt(440, longIns(), flowOf(2), longIns())
		b.Log = logRow(logged)
		b.Bytes[449] = 7
		if u, ok := impl.TranslateAt(b, 440); !ok || !sameUnits(u, wantedUnit(440, longIns(), flowOf(2))) {
			t.Error(logged, u, ok)
		}
		checkFresh(t, b, wantedUnit(440, longIns(), flowOf(2)), true)
	}
}

func TestTranslateAtRefusesWrongPlaces(t *testing.T) {
	c := impl.Cpu{Bus: fullBus(1)}
	for at := 0; at < 512; at += 2 {
		layIns(c, at, flowOf(2))
	}
	for _, pc := range []int{1, 3, 255, 383, 447, 495, 511, 512, 513, 514, 516, 1024, 65534, 65535, 65536, 65538, -1, -2, -4, -512, -65536, 1 << 32, math.MaxInt, math.MaxInt - 1, math.MinInt} {
		refusesTranslating(t, c.Bus, pc)
	}
	for pc := 448; pc < 496; pc++ {
		refusesTranslating(t, c.Bus, pc)
	}
}

func TestBlocksRefuseWrongBuses(t *testing.T) {
	u := wantedUnit(0, mixedBlock(8)...)
	for _, b := range wrongBuses() {
		for pc := 0; pc < 512; pc += 100 {
			refusesTranslating(t, b, pc)
		}
		if fresh, ok := impl.IsFresh(b, u); fresh || ok {
			t.Fatal("IsFresh", b, fresh, ok)
		}
		if fresh, ok := impl.IsFresh(b, impl.Unit{}); fresh || ok {
			t.Fatal("IsFresh", b, fresh, ok)
		}
	}
	// a good unit's words lie there, but one byte elsewhere, or the log, is wrong
	for _, spoil := range []func(*impl.Bus){
		func(b *impl.Bus) { b.Bytes[511] = 256 }, func(b *impl.Bus) { b.Bytes[450] = -1 }, func(b *impl.Bus) { b.Bytes = b.Bytes[:511] }, func(b *impl.Bus) { b.Bytes = append(b.Bytes, 0) },
		func(b *impl.Bus) { b.Log = logRow(401) }, func(b *impl.Bus) { b.Log[1].Code = 4 },
	} {
		b := busOf(u)
		checkFresh(t, b, u, true)
		spoil(&b)
		refusesTranslating(t, b, 0)
		if fresh, ok := impl.IsFresh(b, u); fresh || ok {
			t.Fatal("IsFresh", fresh, ok)
		}
	}
}

// roomyUnit has room behind its list, filled with what no unit has.
func roomyUnit(from int, l ...impl.Ins) (impl.Unit, []impl.Micro) {
	u := wantedUnit(from, l...)
	memory := append(slices.Clone(u.List), slices.Repeat([]impl.Micro{{X: impl.Ins{Op: -7}, At: -7, Skip: true}}, 12)...)
	u.List = memory[:len(l)]
	return u, memory
}

func spoilMicros(l []impl.Micro) {
	l = l[:cap(l)]
	for i := range l {
		l[i] = impl.Micro{X: impl.Ins{Op: -9}, At: -9, Skip: !l[i].Skip}
	}
}

func TestBlocksWriteIntoNone(t *testing.T) {
	for length := 1; length <= 8; length++ {
		u, micros := roomyUnit(100, mixedBlock(length)...)
		c, m := roomyCpu(length)
		layIns(c, 100, mixedBlock(length)...)
		wantMicros, want := slices.Clone(micros), m.clone()
		impl.TranslateAt(c.Bus, 100)
		isGood(t, u)
		checkFresh(t, c.Bus, u, true)
		checkOver(t, u, 100, 2, true)
		if can, ok := impl.CanRun(c, u); !can || !ok {
			t.Fatal("CanRun", can, ok)
		}
		impl.RunUnit(c, u)
		if !slices.Equal(micros, wantMicros) || !m.same(want) {
			t.Fatal("an argument's memory was changed", length)
		}
	}
	// nor into what is not good
	u, micros := roomyUnit(100, mixedBlock(8)...)
	u.List[3].At++
	want := slices.Clone(micros)
	refusesUnit(t, u)
	if !slices.Equal(micros, want) {
		t.Fatal("an argument's memory was changed", u)
	}
}

func TestBlocksAnswerNewMemory(t *testing.T) {
	for length := 1; length <= 8; length++ {
		l := mixedBlock(length)
		b := layAt(100, append(l, flowOf(0))...)
		want := wantedUnit(100, append(mixedBlock(length), flowOf(0))[:min(length+1, 8)]...)
		first, _ := impl.TranslateAt(b, 100)
		second, _ := impl.TranslateAt(b, 100)
		spoil(b.Bytes)
		spoilMicros(second.List)
		if !sameUnits(first, want) {
			t.Fatal("TranslateAt's answer shares memory", length)
		}
		words, _ := impl.WordsOf(first)
		again, _ := impl.WordsOf(first)
		spoil(again)
		spoilMicros(first.List)
		if !slices.Equal(words, wordsOfRow(rowOfUnit(want))) {
			t.Fatal("WordsOf's answer shares memory", length)
		}
	}
}
