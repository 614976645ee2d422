package impl

const MaxRam = 65536
const RamBase = 2147483648

// ramPage is what the length of a memory is a multiple of.
const ramPage = 4096

func RamOk(ram []byte) bool {
	n := len(ram)
	return n >= ramPage && n <= MaxRam && n%ramPage == 0
}

func Load(ram []byte, addr uint64, size int64) (uint64, bool) {
	at, ok := ramPlace(ram, addr, size)
	if !ok {
		return 0, false
	}
	// Near the end fewer than eight bytes follow, so the eight that are read
	// begin early enough to lie inside, and those ahead of the place go.
	first := min(at, len(ram)-8)
	word := wordOf([8]byte(ram[first : first+8]))
	return lowBytes(word>>(8*(at-first)), size), true
}

func Store(ram []byte, addr uint64, size int64, x uint64) ([]byte, bool) {
	at, ok := ramPlace(ram, addr, size)
	if !ok {
		return nil, false
	}
	out := make([]byte, len(ram))
	copy(out, ram)
	for k := range int(size) {
		out[at+k] = byte(x >> (8 * k))
	}
	return out, true
}

func Widen(x uint64, n int64) uint64 {
	if n < 1 || n > 64 {
		return 0
	}
	gap := 64 - n
	return uint64(int64(x<<gap) >> gap)
}

func Digest(ram []byte) int64 {
	if !RamOk(ram) {
		return 0
	}
	h := int64(0)
	for _, b := range ram {
		h = (h*257 + int64(b) + 1) % 1000000007
	}
	return h
}

func sizeOk(size int64) bool {
	return size == 1 || size == 2 || size == 4 || size == 8
}

// ramPlace tells at which byte of the memory an access begins, and whether it
// lies inside. The end is never summed up: near 2 to the 64 it would wrap round.
func ramPlace(ram []byte, addr uint64, size int64) (int, bool) {
	if !RamOk(ram) || !sizeOk(size) || addr < RamBase {
		return 0, false
	}
	at := addr - RamBase
	if at > uint64(len(ram))-uint64(size) {
		return 0, false
	}
	return int(at), true
}

func wordOf(b [8]byte) uint64 {
	word := uint64(0)
	for k, x := range b {
		word |= uint64(x) << (8 * k)
	}
	return word
}

// lowBytes keeps the lowest bytes of a word; size is one of the sizes.
func lowBytes(x uint64, size int64) uint64 {
	gap := 64 - 8*size
	return x << gap >> gap
}
