package impl

const SizeByte = 1
const SizeWord = 2

const (
	FlagC = 1 << iota
	FlagV
	FlagZ
	FlagN
	FlagX
)

const allFlags = FlagC | FlagV | FlagZ | FlagN | FlagX

const maxParts = 8

// part stands for a size: numbers turned into it wrap round where values of that size end.
type part interface{ uint8 | uint16 }

func signedAs[T part](v int) (int, bool) {
	if v != int(T(v)) {
		return 0, false
	}
	greatest := int(^T(0))
	if v > greatest/2 {
		return v - greatest - 1, true
	}
	return v, true
}

// wrapSum takes a result worked out twice, from the values without signs and from those with signs:
// wherever the value kept is another number than that result, the result has left its range.
func wrapSum[T part](plain int, signed int) (int, int) {
	v := int(T(plain))
	kept, _ := signedAs[T](v)
	flags := flagsIf(v != plain, FlagC|FlagX)
	flags |= flagsIf(kept != signed, FlagV)
	flags |= flagsIf(v == 0, FlagZ)
	flags |= flagsIf(kept < 0, FlagN)
	return v, flags
}

func flagsIf(is bool, flags int) int {
	if is {
		return flags
	}
	return 0
}

func wrapSumOf(size int, plain int, signed int) (int, int) {
	if size == SizeByte {
		return wrapSum[uint8](plain, signed)
	}
	return wrapSum[uint16](plain, signed)
}

func isFlags(flags int) bool {
	return flags >= 0 && flags <= allFlags
}

func isBit(x int) bool {
	return x == 0 || x == 1
}

func signedPair(size int, a int, b int) (int, int, bool) {
	p, okA := SignedOf(size, a)
	q, okB := SignedOf(size, b)
	return p, q, okA && okB
}

func SignedOf(size int, v int) (int, bool) {
	switch size {
	case SizeByte:
		return signedAs[uint8](v)
	case SizeWord:
		return signedAs[uint16](v)
	}
	return 0, false
}

func AddFlags(size int, x int, a int, b int) (int, int, bool) {
	p, q, ok := signedPair(size, a, b)
	if !ok || !isBit(x) {
		return 0, 0, false
	}
	v, flags := wrapSumOf(size, a+b+x, p+q+x)
	return v, flags, true
}

func SubFlags(size int, x int, a int, b int) (int, int, bool) {
	p, q, ok := signedPair(size, a, b)
	if !ok || !isBit(x) {
		return 0, 0, false
	}
	v, flags := wrapSumOf(size, a-b-x, p-q-x)
	return v, flags, true
}

func CmpFlags(size int, flags int, a int, b int) (int, bool) {
	_, told, ok := SubFlags(size, 0, a, b)
	if !ok || !isFlags(flags) {
		return 0, false
	}
	return told&^FlagX | flags&FlagX, true
}

func LogicFlags(size int, flags int, v int) (int, bool) {
	n, ok := SignedOf(size, v)
	if !ok || !isFlags(flags) {
		return 0, false
	}
	// a value by itself is within both ranges, so that only FlagZ and FlagN can be told of it
	_, told := wrapSumOf(size, v, n)
	return told | flags&FlagX, true
}

func NegFlags(size int, a int) (int, int, bool) {
	return SubFlags(size, 0, 0, a)
}

func ExtendWord(v int) (int, bool) {
	n, ok := SignedOf(SizeByte, v)
	if !ok {
		return 0, false
	}
	return int(uint16(n)), true
}

func SwapBytes(v int) (int, bool) {
	if _, ok := SignedOf(SizeWord, v); !ok {
		return 0, false
	}
	return v%256*256 + v/256, true
}

func AddMany(size int, a []int, b []int) ([]int, int, bool) {
	if len(a) != len(b) || len(a) < 1 || len(a) > maxParts {
		return nil, 0, false
	}
	sum := make([]int, len(a))
	flags, ones := 0, 0
	for i := range a {
		v, told, ok := AddFlags(size, flags&FlagC, a[i], b[i])
		if !ok {
			return nil, 0, false
		}
		sum[i], flags = v, told
		ones |= v
	}
	return sum, flags&^FlagZ | flagsIf(ones == 0, FlagZ), true
}
