package tests

import (
	"slices"
	"strings"
	"sync"
	"testing"

	"loop.example/g00389/impl"
)

// What instructions do to flags is told here by a table with a letter a flag, and held against what they do to processors;
// which flags are dead is worked out by looking on behind each flag that is set, until someone looks at it or sets it anew.

const flagLetters = "cvznx"

// effectRow: of an Op with each of these Subs the flags that it sets and those that it looks at ("?" for those of its condition),
// and when it may fault and write: "never", "memory" or "always".
type effectRow struct {
	op             int
	subs           string
	sets, reads    string
	faults, writes string
	straight       bool
}

func effectRows() []effectRow {
	return []effectRow{
		{impl.OpTo, "0", "cvzn", "", "memory", "never", true},
		{impl.OpFrom, "0", "cvzn", "", "memory", "memory", true},
		{impl.OpAdd, "0", "cvznx", "", "memory", "never", true},
		{impl.OpSub, "0", "cvznx", "", "memory", "never", true},
		{impl.OpAnd, "0", "cvzn", "", "memory", "never", true},
		{impl.OpOr, "0", "cvzn", "", "memory", "never", true},
		{impl.OpEor, "0", "cvzn", "", "memory", "never", true},
		{impl.OpCmp, "0", "cvzn", "", "memory", "never", true},
		{impl.OpAddr, "0", "", "", "memory", "never", true},
		{impl.OpLea, "0", "", "", "never", "never", true},
		{impl.OpOne, "02", "cvzn", "", "memory", "memory", true},
		{impl.OpOne, "1", "cvznx", "", "memory", "memory", true},
		{impl.OpOne, "3", "cvzn", "", "memory", "never", true},
		{impl.OpShift, "0123", "cvznx", "", "never", "never", true},
		{impl.OpShift, "45", "cvzn", "", "never", "never", true},
		{impl.OpShift, "67", "cvznx", "x", "never", "never", true},
		{impl.OpBranch, "01234567", "", "?", "never", "never", false},
		{impl.OpJump, "0", "", "", "never", "never", false},
		{impl.OpJump, "1", "", "", "always", "always", false},
		{impl.OpFlow, "04", "", "", "always", "never", false},
		{impl.OpFlow, "13", "cvznx", "", "always", "never", false},
		{impl.OpFlow, "2", "", "", "never", "never", true},
		{impl.OpFlow, "56", "cvzn", "", "never", "never", true},
		{impl.OpMul, "0", "cvzn", "", "memory", "never", true},
		{impl.OpDiv, "0", "cvzn", "", "always", "never", true},
		{impl.OpBcd, "01", "cvnx", "zx", "always", "never", true},
		{impl.OpStatus, "0", "cvznx", "", "always", "never", false},
		{impl.OpStatus, "1", "", "cvznx", "never", "never", true},
	}
}

var effects = effectRows()

func effectOf(x impl.Ins) effectRow {
	for _, row := range effects {
		if row.op == x.Op && hasDigit(row.subs, x.Sub) {
			return row
		}
	}
	panic(x)
}

func letterOf(i int) string { return flagLetters[i : i+1] }

func flagsOfLetters(letters string) int {
	flags := 0
	for i := range flagLetters {
		if strings.Contains(letters, letterOf(i)) {
			flags += 1 << i
		}
	}
	return flags
}

func lettersOfFlags(flags int) string {
	letters := ""
	for i := range flagLetters {
		if flags>>i%2 == 1 {
			letters += letterOf(i)
		}
	}
	return letters
}

func wantedReads(x impl.Ins) string {
	row := effectOf(x)
	if row.reads == "?" {
		return lettersOfFlags(wantedNeeds(8*x.Reg + x.Sub))
	}
	return row.reads
}

func isWhen(when string, x impl.Ins) bool {
	return when == "always" || when == "memory" && slices.Contains(placeModes, x.Ea.Mode)
}

func wantedFaults(x impl.Ins) bool { return isWhen(effectOf(x).faults, x) }

func wantedWrites(x impl.Ins) bool { return isWhen(effectOf(x).writes, x) }

// isSeen: whether a flag that is set ahead of these is looked at behind, ahead of all who set it anew.
func isSeen(letter string, behind []impl.Ins) bool {
	for _, x := range behind {
		if wantedFaults(x) || strings.Contains(wantedReads(x), letter) {
			return true
		}
		if strings.Contains(effectOf(x).sets, letter) {
			return false
		}
	}
	return true
}

func wantedDead(l []impl.Ins) []bool {
	var dead []bool
	for i, x := range l {
		sets := effectOf(x).sets
		is := sets != "" && !wantedWrites(x)
		for _, letter := range strings.Split(sets, "") {
			is = is && !isSeen(letter, l[i+1:])
		}
		dead = append(dead, is)
	}
	return dead
}

// deadText: a letter an instruction, x for flags that are dead.
func deadText(dead []bool) string {
	text := ""
	for _, is := range dead {
		text += map[bool]string{true: "x", false: "."}[is]
	}
	return text
}

func checkDead(t *testing.T, l []impl.Ins) string {
	t.Helper()
	want := wantedDead(l)
	dead, ok := impl.DeadFlags(l)
	if !ok || !slices.Equal(dead, want) {
		t.Fatalf("DeadFlags(%v) = %s, %v; want %s", l, deadText(dead), ok, deadText(want))
	}
	return deadText(dead)
}

func checkEffects(t *testing.T, x impl.Ins) {
	t.Helper()
	if straight, ok := impl.IsStraight(x); straight != effectOf(x).straight || !ok {
		t.Fatalf("IsStraight(%v) = %v, %v", x, straight, ok)
	}
	if sets, ok := impl.SetsOf(x); sets != flagsOfLetters(effectOf(x).sets) || !ok {
		t.Fatalf("SetsOf(%v) = %d, %v; want %s", x, sets, ok, effectOf(x).sets)
	}
	if reads, ok := impl.ReadsOf(x); reads != flagsOfLetters(wantedReads(x)) || !ok {
		t.Fatalf("ReadsOf(%v) = %d, %v; want %s", x, reads, ok, wantedReads(x))
	}
	if may, ok := impl.MayFault(x); may != wantedFaults(x) || !ok {
		t.Fatalf("MayFault(%v) = %v, %v", x, may, ok)
	}
	if may, ok := impl.MayWrite(x); may != wantedWrites(x) || !ok {
		t.Fatalf("MayWrite(%v) = %v, %v", x, may, ok)
	}
}

func isStraightOne(x impl.Ins) bool { return effectOf(x).straight }

func straightOnes() []impl.Ins {
	var l []impl.Ins
	for _, x := range goodInstructions() {
		if isStraightOne(x) {
			l = append(l, x)
		}
	}
	return l
}

// kinds: one of each Op and Sub, without memory and, where it may be, with it.
func kinds() []impl.Ins {
	var l []impl.Ins
	for _, op := range ops {
		for sub := range 8 {
			if x, good := goodOfKind(op, sub); good {
				l = append(l, x)
				x.Ea = impl.Operand{Mode: impl.MdPlus, Ext: 10}
				if wantedGood(x) {
					l = append(l, x)
				}
			}
		}
	}
	return l
}

// straightKinds is made once, as sundry rows ask for it again and again.
var straightKinds = sync.OnceValue(func() []impl.Ins {
	return slices.DeleteFunc(kinds(), func(x impl.Ins) bool { return !isStraightOne(x) })
})

// notStraight: one of each Op and Sub that leads elsewhere.
func notStraight() []impl.Ins {
	return slices.DeleteFunc(kinds(), isStraightOne)
}

func ofData(op int, sub int) impl.Ins {
	return impl.Ins{Op: op, Size: 2, Ea: by(impl.MdData, 1), Sub: sub}
}

func ofMemory(op int, sub int) impl.Ins {
	return impl.Ins{Op: op, Size: 2, Ea: by(impl.MdAt, 1), Sub: sub}
}

func flowOf(sub int) impl.Ins { return impl.Ins{Op: impl.OpFlow, Size: 2, Sub: sub} }

func bcdOf(sub int) impl.Ins {
	return impl.Ins{Op: impl.OpBcd, Size: 1, Ea: by(impl.MdData, 1), Sub: sub}
}

func statusTold() impl.Ins { return impl.Ins{Op: impl.OpStatus, Size: 2, Sub: 1} }

func TestConstantOfRows(t *testing.T) {
	if impl.MaxRow != 16 {
		t.Error(impl.MaxRow)
	}
}

func TestEffectsOfEveryGoodInstruction(t *testing.T) {
	seen := map[int]int{}
	for _, x := range goodInstructions() {
		checkEffects(t, x)
		seen[x.Op]++
	}
	for _, op := range ops {
		if seen[op] == 0 {
			t.Error("never seen", op)
		}
	}
}

func TestIsStraightNamedOneByOne(t *testing.T) {
	elsewhere := ""
	for _, x := range kinds() {
		is, ok := impl.IsStraight(x)
		if !ok {
			t.Error(x)
		}
		if !is {
			text, _ := impl.TextOf(x)
			elsewhere += text[2:strings.Index(text, ".")] + "/" + text[len(text)-1:] + " "
		}
	}
	if elsewhere != "13/0 13/1 13/2 13/3 13/4 13/5 13/6 13/7 14/0 14/0 14/1 14/1 15/0 15/1 15/3 15/4 19/0 " {
		t.Error(elsewhere)
	}
}

func TestSetsAndReadsNamedOneByOne(t *testing.T) {
	branch := func(cond int) impl.Ins {
		return impl.Ins{Op: impl.OpBranch, Size: 2, Reg: cond / 8, Ea: now(4), Sub: cond % 8}
	}
	for _, k := range []struct {
		x           impl.Ins
		sets, reads int
	}{
		{ofData(impl.OpTo, 0), 15, 0}, {ofMemory(impl.OpFrom, 0), 15, 0}, {ofData(impl.OpAdd, 0), 31, 0}, {ofData(impl.OpSub, 0), 31, 0},
		{ofData(impl.OpAnd, 0), 15, 0}, {ofData(impl.OpOr, 0), 15, 0}, {ofData(impl.OpEor, 0), 15, 0}, {ofData(impl.OpCmp, 0), 15, 0},
		{ofData(impl.OpAddr, 0), 0, 0}, {ofMemory(impl.OpLea, 0), 0, 0},
		{ofData(impl.OpOne, 0), 15, 0}, {ofData(impl.OpOne, 1), 31, 0}, {ofData(impl.OpOne, 2), 15, 0}, {ofMemory(impl.OpOne, 3), 15, 0},
		{ofData(impl.OpShift, impl.ShAsl), 31, 0}, {ofData(impl.OpShift, impl.ShAsr), 31, 0}, {ofData(impl.OpShift, impl.ShLsl), 31, 0}, {ofData(impl.OpShift, impl.ShLsr), 31, 0},
		{ofData(impl.OpShift, impl.ShRol), 15, 0}, {ofData(impl.OpShift, impl.ShRor), 15, 0}, {ofData(impl.OpShift, impl.ShRoxl), 31, 16}, {ofData(impl.OpShift, impl.ShRoxr), 31, 16},
		{branch(impl.CcTrue), 0, 0}, {branch(impl.CcFalse), 0, 0}, {branch(impl.CcHigh), 0, 5}, {branch(impl.CcLowSame), 0, 5}, {branch(impl.CcNoCarry), 0, 1}, {branch(impl.CcCarry), 0, 1},
		{branch(impl.CcUnlike), 0, 4}, {branch(impl.CcSame), 0, 4}, {branch(impl.CcNoOver), 0, 2}, {branch(impl.CcOver), 0, 2}, {branch(impl.CcPlus), 0, 8}, {branch(impl.CcMinus), 0, 8},
		{branch(impl.CcAtLeast), 0, 10}, {branch(impl.CcLess), 0, 10}, {branch(impl.CcGreater), 0, 14}, {branch(impl.CcAtMost), 0, 14},
		{ofMemory(impl.OpJump, 0), 0, 0}, {ofMemory(impl.OpJump, 1), 0, 0},
		{flowOf(0), 0, 0}, {flowOf(1), 31, 0}, {flowOf(2), 0, 0}, {impl.Ins{Op: impl.OpFlow, Size: 2, Ea: now(5), Sub: 3}, 31, 0}, {flowOf(4), 0, 0}, {flowOf(5), 15, 0}, {flowOf(6), 15, 0},
		{ofData(impl.OpMul, 0), 15, 0}, {ofData(impl.OpDiv, 0), 15, 0}, {bcdOf(0), 27, 20}, {bcdOf(1), 27, 20},
		{impl.Ins{Op: impl.OpStatus, Size: 2, Ea: now(1023)}, 31, 0}, {statusTold(), 0, 31},
	} {
		if sets, ok := impl.SetsOf(k.x); sets != k.sets || !ok {
			t.Error("SetsOf", k, sets, ok)
		}
		if reads, ok := impl.ReadsOf(k.x); reads != k.reads || !ok {
			t.Error("ReadsOf", k, reads, ok)
		}
	}
}

// mayText: a letter a way, f for one with which it may fault, w for one with which it may write too, - for one that is not good.
func mayText(op int, size int, sub int) string {
	text := ""
	for _, mode := range modes {
		x := impl.Ins{Op: op, Size: size, Ea: impl.Operand{Mode: mode}, Sub: sub}
		faults, ok := impl.MayFault(x)
		writes, same := impl.MayWrite(x)
		if ok != same || writes && !faults {
			text += "!"
		}
		switch {
		case !ok:
			text += "-"
		case writes:
			text += "w"
		case faults:
			text += "f"
		default:
			text += "."
		}
	}
	return text
}

func TestMayFaultAndMayWriteOfEachWay(t *testing.T) {
	for _, k := range []struct {
		op, size, sub int
		want          string
	}{
		{impl.OpTo, 1, 0, ".-fffff."}, {impl.OpTo, 2, 0, "..fffff."}, {impl.OpFrom, 1, 0, ".-wwwww-"}, {impl.OpFrom, 2, 0, ".-wwwww-"},
		{impl.OpAdd, 2, 0, "..fffff."}, {impl.OpSub, 1, 0, ".-fffff."}, {impl.OpAnd, 2, 0, "..fffff."}, {impl.OpOr, 1, 0, ".-fffff."}, {impl.OpEor, 2, 0, "..fffff."}, {impl.OpCmp, 2, 0, "..fffff."},
		{impl.OpAddr, 2, 0, "..fffff."}, {impl.OpLea, 2, 0, "--.--..-"},
		{impl.OpOne, 1, 0, ".-wwwww-"}, {impl.OpOne, 2, 0, ".-wwwww-"}, {impl.OpOne, 2, 1, ".-wwwww-"}, {impl.OpOne, 1, 2, ".-wwwww-"}, {impl.OpOne, 1, 3, ".-fffff-"}, {impl.OpOne, 2, 3, ".-fffff-"},
		{impl.OpShift, 1, 0, ".-------"}, {impl.OpShift, 2, 7, ".-------"}, {impl.OpBranch, 2, 0, "-------."}, {impl.OpBranch, 2, 7, "-------."},
		{impl.OpJump, 2, 0, "--.--..-"}, {impl.OpJump, 2, 1, "--w--ww-"},
		{impl.OpFlow, 2, 0, "f-------"}, {impl.OpFlow, 2, 1, "f-------"}, {impl.OpFlow, 2, 2, ".-------"}, {impl.OpFlow, 2, 3, "-------f"}, {impl.OpFlow, 2, 4, "f-------"}, {impl.OpFlow, 2, 5, ".-------"}, {impl.OpFlow, 2, 6, ".-------"}, {impl.OpFlow, 2, 7, "--------"},
		{impl.OpMul, 2, 0, ".-fffff."}, {impl.OpDiv, 2, 0, "f-ffffff"}, {impl.OpBcd, 1, 0, "f-------"}, {impl.OpBcd, 1, 1, "f-------"},
		{impl.OpStatus, 2, 0, "-------f"}, {impl.OpStatus, 2, 1, ".-------"}, {impl.OpStatus, 2, 2, "--------"},
	} {
		if got := mayText(k.op, k.size, k.sub); got != k.want {
			t.Error(k, got)
		}
	}
}

// withOtherFlags: the flags of these letters as they are, each other one the other way.
func withOtherFlags(c impl.Cpu, letters string) impl.Cpu {
	c = cloneCpu(c)
	c.R.Flags = c.R.Flags&flagsOfLetters(letters) + (31-c.R.Flags)&^flagsOfLetters(letters)
	return c
}

func hasWritten(c impl.Cpu, after impl.Cpu) bool {
	return slices.ContainsFunc(after.Bus.Log[len(c.Bus.Log):], func(a impl.Access) bool { return a.Kind == impl.AccWrite })
}

// checkTrue: what an instruction does with these flags and with those of which it looks at none, it does alike; what it sets does not hang
// on what was; what it neither sets nor looks at stays; and it faults and writes only where it may.
func checkTrue(t *testing.T, c impl.Cpu, x impl.Ins) {
	t.Helper()
	sets, _ := impl.SetsOf(x)
	reads, _ := impl.ReadsOf(x)
	faults, _ := impl.MayFault(x)
	writes, _ := impl.MayWrite(x)
	other := withOtherFlags(c, lettersOfFlags(reads))
	one, oneFault := wantedDone(c, x, 100, false)
	two, twoFault := wantedDone(other, x, 100, false)
	flags, others := one.R.Flags, two.R.Flags
	if oneFault != twoFault || oneFault.Vector != 0 && !faults || hasWritten(c, one) && !writes {
		t.Fatal(x, c.R, oneFault, twoFault, faults, writes)
	}
	if oneFault.Vector == 0 && (flags&sets != others&sets || (flags^c.R.Flags)&^(sets|reads) != 0 || (others^other.R.Flags)&^(sets|reads) != 0) {
		t.Fatal(x, c.R, "sets", sets, "reads", reads, flags, others)
	}
	one.R.Flags, two.R.Flags = 0, 0
	if !sameCpus(one, two) {
		t.Fatal(x, c.R, one.R, two.R, "reads", reads)
	}
}

func TestWhatIsSetReadFaultsAndWritesIsSo(t *testing.T) {
	s := &sundry{seed: 14}
	for _, x := range goodInstructions() {
		c := sundryCpu(s)
		c.Bus.Log = nil
		checkTrue(t, c, x)
		if s.below(2) == 0 {
			checkTrue(t, c, sundryIns(s))
		}
	}
}

// What faults in the tests of chapter 10 may fault, and what writes there may write.
func TestWhatFaultsMayFault(t *testing.T) {
	for _, k := range slices.Concat(readFaultRows(), writeFaultRows(), otherFaultRows()) {
		faults, ok := impl.MayFault(k.x)
		writes, fine := impl.MayWrite(k.x)
		if !faults || k.fault.Write && !writes || !ok || !fine {
			t.Error(k.x, faults, writes, ok, fine)
		}
	}
}

func TestDeadFlagsNamedRows(t *testing.T) {
	to, add, sub, cmp := ofData(impl.OpTo, 0), ofData(impl.OpAdd, 0), ofData(impl.OpSub, 0), ofData(impl.OpCmp, 0)
	asl, rol, roxl, roxr := ofData(impl.OpShift, impl.ShAsl), ofData(impl.OpShift, impl.ShRol), ofData(impl.OpShift, impl.ShRoxl), ofData(impl.OpShift, impl.ShRoxr)
	bcd, tell, idle, swap, lea := bcdOf(0), statusTold(), flowOf(2), flowOf(5), ofMemory(impl.OpLea, 0)
	for _, k := range []struct {
		l    []impl.Ins
		want string
	}{
		{nil, ""}, {[]impl.Ins{}, ""},
		{[]impl.Ins{to}, "."}, {[]impl.Ins{add}, "."}, {[]impl.Ins{tell}, "."}, {[]impl.Ins{idle}, "."}, {[]impl.Ins{bcd}, "."},
		// the one behind sets all that the one ahead sets
		{[]impl.Ins{to, to}, "x."}, {[]impl.Ins{to, add}, "x."}, {[]impl.Ins{add, sub}, "x."}, {[]impl.Ins{cmp, rol}, "x."}, {[]impl.Ins{asl, asl}, "x."}, {[]impl.Ins{swap, to}, "x."},
		{[]impl.Ins{to, add, sub}, "xx."}, {[]impl.Ins{add, to, sub}, "xx."}, {[]impl.Ins{add, rol, asl}, "xx."}, {[]impl.Ins{ofData(impl.OpOne, 1), ofData(impl.OpMul, 0), add}, "xx."},
		// it sets only some: FlagX, or FlagZ, is needed behind
		{[]impl.Ins{add, to}, ".."}, {[]impl.Ins{sub, cmp}, ".."}, {[]impl.Ins{asl, rol}, ".."}, {[]impl.Ins{ofData(impl.OpOne, 1), ofData(impl.OpOne, 2)}, ".."}, {[]impl.Ins{add, swap}, ".."},
		{[]impl.Ins{add, to, to}, ".x."}, {[]impl.Ins{bcd, to}, ".."}, {[]impl.Ins{bcd, add}, "x."}, {[]impl.Ins{roxl, to}, ".."}, {[]impl.Ins{roxl, add}, "x."},
		// it looks at some, though it sets them too
		{[]impl.Ins{to, roxl}, "x."}, {[]impl.Ins{add, roxl}, ".."}, {[]impl.Ins{add, roxr, add}, ".x."}, {[]impl.Ins{add, to, roxl, sub}, ".xx."}, {[]impl.Ins{add, tell}, ".."},
		{[]impl.Ins{to, tell}, ".."}, {[]impl.Ins{to, tell, to}, "..."}, {[]impl.Ins{to, tell, to, to}, "..x."}, {[]impl.Ins{to, to, tell, add}, "x..."},
		// what sets none is none whose flags are dead, and in no one's way
		{[]impl.Ins{to, idle, to}, "x.."}, {[]impl.Ins{idle, add}, ".."}, {[]impl.Ins{add, lea, idle, add}, "x..."}, {[]impl.Ins{to, ofData(impl.OpAddr, 0), to}, "x.."},
		// ahead of what may fault all are needed; its own may be dead
		{[]impl.Ins{to, ofMemory(impl.OpTo, 0), to}, ".x."}, {[]impl.Ins{to, ofData(impl.OpTo, 0), to}, "xx."}, {[]impl.Ins{add, ofMemory(impl.OpAdd, 0), sub}, ".x."},
		{[]impl.Ins{to, ofMemory(impl.OpAddr, 0), to}, "..."}, {[]impl.Ins{to, ofData(impl.OpDiv, 0), to}, ".x."}, {[]impl.Ins{to, ofMemory(impl.OpMul, 0), to}, ".x."}, {[]impl.Ins{to, ofData(impl.OpMul, 0), to}, "xx."},
		{[]impl.Ins{to, bcd, add}, ".x."}, {[]impl.Ins{add, bcdOf(1), sub}, ".x."}, {[]impl.Ins{to, ofMemory(impl.OpOne, 3), to}, ".x."}, {[]impl.Ins{to, to, ofData(impl.OpDiv, 0)}, "x.."},
		// the flags of what may write are not dead, though none needs them
		{[]impl.Ins{to, ofMemory(impl.OpFrom, 0), to}, "..."}, {[]impl.Ins{to, ofData(impl.OpFrom, 0), to}, "xx."}, {[]impl.Ins{ofMemory(impl.OpOne, 0), add}, ".."}, {[]impl.Ins{ofMemory(impl.OpOne, 1), add}, ".."}, {[]impl.Ins{ofMemory(impl.OpOne, 2), add}, ".."},
		{[]impl.Ins{ofMemory(impl.OpOne, 3), add}, "x."}, {[]impl.Ins{ofData(impl.OpOne, 0), add}, "x."}, {[]impl.Ins{to, to, ofMemory(impl.OpFrom, 0), add}, "x..."},
		{slices.Repeat([]impl.Ins{add}, 16), "xxxxxxxxxxxxxxx."}, {append([]impl.Ins{add}, slices.Repeat([]impl.Ins{to}, 15)...), ".xxxxxxxxxxxxxx."}, {slices.Repeat([]impl.Ins{add, ofMemory(impl.OpTo, 0)}, 8), ".x.x.x.x.x.x.x.."},
		{slices.Repeat([]impl.Ins{to, ofData(impl.OpDiv, 0)}, 8), ".x.x.x.x.x.x.x.."}, {slices.Repeat([]impl.Ins{to, ofData(impl.OpDiv, 0), to, to}, 4), ".xxx.xxx.xxx.xx."}, {slices.Repeat([]impl.Ins{to, ofMemory(impl.OpFrom, 0)}, 8), "................"}, {slices.Repeat([]impl.Ins{tell}, 16), "................"},
	} {
		dead, ok := impl.DeadFlags(k.l)
		if deadText(dead) != k.want || !ok {
			t.Error(k.l, deadText(dead), ok, "want", k.want)
		}
		checkDead(t, k.l)
	}
}

func TestDeadFlagsOfOne(t *testing.T) {
	for _, x := range straightOnes() {
		if told := checkDead(t, []impl.Ins{x}); told != "." {
			t.Fatal(x, told)
		}
	}
}

func TestDeadFlagsOfTwoAndThreeOfAllKinds(t *testing.T) {
	l := straightKinds()
	count := 0
	for _, first := range l {
		for _, second := range l {
			checkDead(t, []impl.Ins{first, second})
			for _, third := range l {
				told := checkDead(t, []impl.Ins{first, second, third})
				count += strings.Count(told, "x")
				if told[2] != '.' {
					t.Fatal(first, second, third, told)
				}
			}
		}
	}
	if count < 1000 {
		t.Error("hardly any are dead:", count)
	}
}

// sundryRow: such as are straight, some of each kind, and most of them such as do not fault, so that there are long stretches without.
func sundryRow(s *sundry, length int) []impl.Ins {
	var l []impl.Ins
	for len(l) < length {
		x := sundryIns(s)
		if few := straightKinds(); s.below(3) == 0 {
			x = few[s.below(len(few))]
		}
		if isStraightOne(x) && (!wantedFaults(x) || s.below(6) == 0) {
			l = append(l, x)
		}
	}
	return l
}

func TestDeadFlagsOfSundryRows(t *testing.T) {
	s := &sundry{seed: 141}
	seen := map[byte]int{}
	for length := range 17 {
		for range 150 {
			told := checkDead(t, sundryRow(s, length))
			for i := range told {
				seen[told[i]]++
			}
		}
	}
	if seen['x'] < 1000 || seen['.'] < 1000 {
		t.Error(seen)
	}
}

func refusesEffects(t *testing.T, x impl.Ins) {
	t.Helper()
	if is, ok := impl.IsStraight(x); is || ok {
		t.Fatalf("IsStraight(%v) = %v, %v; want the zero answer", x, is, ok)
	}
	if sets, ok := impl.SetsOf(x); sets != 0 || ok {
		t.Fatalf("SetsOf(%v) = %d, %v; want the zero answer", x, sets, ok)
	}
	if reads, ok := impl.ReadsOf(x); reads != 0 || ok {
		t.Fatalf("ReadsOf(%v) = %d, %v; want the zero answer", x, reads, ok)
	}
	if may, ok := impl.MayFault(x); may || ok {
		t.Fatalf("MayFault(%v) = %v, %v; want the zero answer", x, may, ok)
	}
	if may, ok := impl.MayWrite(x); may || ok {
		t.Fatalf("MayWrite(%v) = %v, %v; want the zero answer", x, may, ok)
	}
}

func refusesDead(t *testing.T, l []impl.Ins) {
	t.Helper()
	if dead, ok := impl.DeadFlags(l); len(dead) != 0 || ok {
		t.Fatalf("DeadFlags(%v) = %v, %v; want the zero answer", l, dead, ok)
	}
}

// wrongInstructions: of each kind one with each field out of its range, and with ways, sizes and Subs that are not for its Op.
func wrongInstructions() []impl.Ins {
	l := []impl.Ins{{}, {Size: 2}}
	for _, op := range wrongOps {
		l = append(l, impl.Ins{Op: op, Size: 2}, impl.Ins{Op: op, Size: 1, Ea: now(0)})
	}
	for i, good := range kinds() {
		for _, change := range []struct {
			field func(*impl.Ins) *int
			wrong []int
		}{
			{func(x *impl.Ins) *int { return &x.Size }, wrongSizes},
			{func(x *impl.Ins) *int { return &x.Reg }, wrongRegNumbers},
			{func(x *impl.Ins) *int { return &x.Sub }, wrongSubs},
			{func(x *impl.Ins) *int { return &x.Ea.Mode }, wrongModes},
			{func(x *impl.Ins) *int { return &x.Ea.Reg }, wrongRegNumbers},
			{func(x *impl.Ins) *int { return &x.Ea.Ext }, wrongWords},
		} {
			x := good
			*change.field(&x) = change.wrong[i%len(change.wrong)]
			l = append(l, x)
		}
	}
	for _, op := range ops {
		for _, mode := range modes {
			for sub := range 8 {
				for _, size := range sizes {
					if x := (impl.Ins{Op: op, Size: size, Ea: impl.Operand{Mode: mode}, Sub: sub}); !wantedGood(x) {
						l = append(l, x)
					}
				}
			}
		}
	}
	return l
}

func TestEffectsOfWrongInstructions(t *testing.T) {
	for _, x := range wrongInstructions() {
		if impl.GoodIns(x) {
			t.Fatal("it is good", x)
		}
		refusesEffects(t, x)
		refusesDead(t, []impl.Ins{x})
	}
}

func TestAWrongOneAtEveryPlaceOfARow(t *testing.T) {
	good := ofData(impl.OpAdd, 0)
	for _, x := range slices.Concat(wrongInstructions(), notStraight()) {
		for _, length := range []int{1, 2, 5, 16} {
			for _, at := range []int{0, length / 2, length - 1} {
				l := slices.Repeat([]impl.Ins{good}, length)
				l[at] = x
				refusesDead(t, l)
			}
		}
	}
	for _, x := range []impl.Ins{{}, {Op: impl.OpTo, Size: 1, Ea: by(impl.MdAddr, 0)}, flowOf(0), flowOf(4), {Op: impl.OpStatus, Size: 2, Ea: now(0)}} {
		for at := range 16 {
			l := slices.Repeat([]impl.Ins{good}, 16)
			l[at] = x
			refusesDead(t, l)
		}
	}
}

func TestMoreThanARowHas(t *testing.T) {
	for _, x := range straightKinds() {
		checkDead(t, slices.Repeat([]impl.Ins{x}, 16))
		for _, length := range []int{17, 18, 32, 40, 1000} {
			refusesDead(t, slices.Repeat([]impl.Ins{x}, length))
		}
	}
}

// roomyRow is a row with good and wrong instructions behind its end.
func roomyRow(length int) []impl.Ins {
	memory := slices.Concat(slices.Repeat([]impl.Ins{ofData(impl.OpTo, 0), ofData(impl.OpAdd, 0), ofMemory(impl.OpFrom, 0)}, 8), []impl.Ins{{Op: -7}, flowOf(4)})
	return memory[:length]
}

func TestDeadFlagsWriteIntoNone(t *testing.T) {
	for _, length := range []int{0, 1, 2, 15, 16, 17, 26} {
		l := roomyRow(length)
		want := slices.Clone(l[:cap(l)])
		impl.DeadFlags(l)
		if !slices.Equal(l[:cap(l)], want) {
			t.Fatal("an argument's memory was changed", length)
		}
	}
}

func TestDeadFlagsAnswerNewMemory(t *testing.T) {
	for length := range 17 {
		l := roomyRow(length)
		want := wantedDead(l)
		first, ok := impl.DeadFlags(l)
		second, _ := impl.DeadFlags(l)
		clear(l[:cap(l)])
		second = second[:cap(second)]
		for i := range second {
			second[i] = !second[i]
		}
		if !slices.Equal(first, want) || !ok {
			t.Fatal("an answer shares memory", length, first, ok)
		}
	}
}
