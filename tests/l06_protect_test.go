package tests

import (
	"math"
	"math/big"
	"slices"
	"testing"

	"loop.example/g00134/impl"
)

const greatestAddr = uint64(1<<54 - 1)

var kinds = []int64{impl.KdFetch, impl.KdLoad, impl.KdStore}

var noKinds = []int64{0, -1, -2, -3, 4, 5, 6, 7, 8, 257, 258, 259, 1 << 32, 1<<32 + 1, 1<<32 + 2, 1<<32 + 3, 1 << 62, math.MaxInt64, math.MaxInt64 - 1, math.MinInt64, math.MinInt64 + 1, math.MinInt64 + 2, math.MinInt64 + 3}

var noEntries = []int64{-1, -2, -3, -4, -17, 4, 5, 6, 7, 8, 16, 17, 63, 64, 256, 257, 1 << 32, 1<<32 + 1, 1<<61 + 1, 1 << 62, math.MaxInt64, math.MaxInt64 - 3, math.MinInt64, math.MinInt64 + 1, math.MinInt64 + 3}

// entryBytes are all that an entry's byte can be: bits 0 to 4 and 7, bit 1 with bit 0 alone.
func entryBytes() []uint64 {
	var out []uint64
	for b := range uint64(256) {
		if b/32%4 == 0 && b%4 != 2 {
			out = append(out, b)
		}
	}
	return out
}

// guarded are registers with these bytes of pmpcfg0 and pmpaddrs, and a mark in some of the others.
func guarded(bytes [4]uint64, addrs [4]uint64) []uint64 {
	list := make([]uint64, 22)
	list[5], list[11], list[15], list[21] = 0x5555, 0xbbbb, 0x80000000000fffff, 21
	for k := range 4 {
		list[16] += bytes[k] << (8 * k)
		list[17+k] = addrs[k]
	}
	return list
}

// has is a second reading of whether an entry's region has an address, without the region's ends.
func has(list []uint64, i int, addr uint64) bool {
	word, a := addr/4, list[17+i]
	switch list[16] >> (8*i + 3) % 4 {
	case 1:
		return word < a && (i == 0 || word >= list[16+i])
	case 2:
		return word == a
	case 3:
		// What is above the lowest nought of a must be the same, whatever is at and below it.
		return word <= greatestAddr && (word^a)|(a^(a+1)) == a^(a+1)
	}
	return false
}

// ends is a second reading of Region, in numbers of any length.
func ends(list []uint64, i int) (uint64, uint64, bool) {
	four := big.NewInt(4)
	times := func(x uint64) *big.Int { return new(big.Int).Mul(four, new(big.Int).SetUint64(x)) }
	a := list[17+i]
	first, many := times(a), big.NewInt(4)
	switch list[16] >> (8*i + 3) % 4 {
	case 0:
		return 0, 0, false
	case 1:
		first = big.NewInt(0)
		if i > 0 {
			first = times(list[16+i])
		}
		many = new(big.Int).Sub(times(a), first)
	case 3:
		ones := uint(0)
		for ones < 53 && a>>ones%2 == 1 {
			ones++
		}
		first = times(a - a%(1<<(ones+1)))
		many = new(big.Int).Exp(big.NewInt(2), big.NewInt(int64(ones)+3), nil)
	}
	if many.Sign() <= 0 {
		return 0, 0, false
	}
	last := new(big.Int).Add(first, many)
	return first.Uint64(), last.Sub(last, big.NewInt(1)).Uint64(), true
}

var kindBits = map[int64]int{impl.KdFetch: 2, impl.KdLoad: 0, impl.KdStore: 1}

// may is a second reading of Permits, byte by byte, for arguments that are right.
func may(list []uint64, priv int64, addr uint64, size int64, kind int64) bool {
	if addr > allOnes-uint64(size)+1 {
		return false
	}
	for i := range 4 {
		met := int64(0)
		for k := range uint64(size) {
			if has(list, i, addr+k) {
				met++
			}
		}
		if met > 0 {
			free := priv == 3 && bit(list[16], 8*i+7) == 0
			return met == size && (free || bit(list[16], 8*i+kindBits[kind]) == 1)
		}
	}
	return priv == 3
}

// shut is a second reading of Locked, for lists that are right.
func shut(list []uint64, addr uint64) bool {
	for i := range 4 {
		if has(list, i, addr) {
			return bit(list[16], 8*i+7) == 1 && bit(list[16], 8*i+1) == 0
		}
	}
	return false
}

func wantRegion(t *testing.T, list []uint64, i int64, first, last uint64, is bool) {
	t.Helper()
	before := slices.Clone(list)
	f, l, ok := impl.Region(list, i)
	if f != first || l != last || ok != is {
		t.Fatalf("Region of entry %d with pmpcfg0 %#x, pmpaddrs %#x: %#x, %#x, %v; want %#x, %#x, %v", i, list[16], list[17:21], f, l, ok, first, last, is)
	}
	if !slices.Equal(list, before) {
		t.Fatal("Region wrote into its argument")
	}
}

func wantPermits(t *testing.T, list []uint64, priv int64, addr uint64, size, kind int64, want bool) {
	t.Helper()
	if got := impl.Permits(list, priv, addr, size, kind); got != want {
		t.Fatalf("Permits of %#x at %d, %#x, %d bytes, kind %d: %v", list, priv, addr, size, kind, got)
	}
}

func wantLocked(t *testing.T, list []uint64, addr uint64, want bool) {
	t.Helper()
	if got := impl.Locked(list, addr); got != want {
		t.Fatalf("Locked of %#x at %#x: %v", list, addr, got)
	}
}

// someAddrs are four pmpaddrs each: regions apart, side by side, one in another, across one another, and at both ends.
var someAddrs = [][4]uint64{
	{0x100, 0x200, 0x303, 0x400},
	{0, 0, 0, 0},
	{1, 2, 3, 4},
	{4, 3, 2, 1},
	{0x101, 0x101, 0x101, 0x101},
	{0x10, 0x13, 0x17, 0x1f},
	{0x1f, 0x17, 0x13, 0x10},
	{greatestAddr, greatestAddr, greatestAddr, greatestAddr},
	{0, greatestAddr, 0, greatestAddr},
	{greatestAddr - 1, greatestAddr, 1<<53 - 1, 1 << 53},
	{1<<52 - 1, 1<<53 + 1<<52 - 1, 1<<53 - 1, 0x20000400},
	{0x20000000, 0x20000400, 0x200001ff, 0x200003ff},
	{0x20000003, 0x20000001, 0x20000000, 0x20000007},
	{0x20000002, 0x20000002, 0x20000004, 0x1fffffff},
}

// reachBytes are the bytes of entries whose bits 3 and 4 are the digits of n to the base 4, with other bits in turn.
func reachBytes(n, turn uint64) [4]uint64 {
	var out [4]uint64
	rest := []uint64{0x87, 0x00, 0x81, 0x03, 0x04, 0x80, 0x07, 0x85, 0x01, 0x83, 0x05, 0x84}
	for k := range out {
		out[k] = n>>(2*k)%4<<3 + rest[(turn+n+5*uint64(k))%12]
	}
	return out
}

// guardedLists have each pair of kinds side by side, and each kind at each entry, with regions of all sorts.
func guardedLists() [][]uint64 {
	var out [][]uint64
	for turn, addrs := range someAddrs {
		for n := range uint64(256) {
			out = append(out, guarded(reachBytes(n, uint64(turn)), addrs))
		}
	}
	return out
}

// near are the addresses about the ends of all regions of a list, and the first and the last of all.
func near(list []uint64) []uint64 {
	out := []uint64{0, 1, 2, 8, 1 << 56, 1 << 58, allOnes - 8, allOnes - 7, allOnes - 3, allOnes - 1, allOnes}
	for i := range 4 {
		if first, last, is := ends(list, i); is {
			for _, d := range []uint64{0, 1, 2, 3, 4, 7, 8} {
				out = append(out, first-d, first+d, last-d, last+d)
			}
			out = append(out, first/2+last/2)
		}
	}
	slices.Sort(out)
	return slices.Compact(out)
}

func TestKindsOfAccess(t *testing.T) {
	if !slices.Equal(kinds, []int64{1, 2, 3}) {
		t.Errorf("fetch, load and store are %d", kinds)
	}
}

func TestGuardedListsAreRight(t *testing.T) {
	if n := len(entryBytes()); n != 48 {
		t.Errorf("%d bytes that an entry can have", n)
	}
	for _, b := range entryBytes() {
		if !impl.CsrsOk(guarded([4]uint64{b, b, b, b}, [4]uint64{})) {
			t.Errorf("not CsrsOk with the byte %#x", b)
		}
	}
	for _, list := range guardedLists() {
		if !impl.CsrsOk(list) {
			t.Fatalf("not CsrsOk: %#x", list)
		}
	}
}

// Promise 6, its first half: the entry alone is locked and lets nothing be, so where it is met it is seen.
func TestARegionIsFoundByItsFirstAndLastAddress(t *testing.T) {
	met, apart := [4][4]int{}, [4][4]int{}
	for _, list := range guardedLists() {
		for i := range 4 {
			first, last, is := impl.Region(list, int64(i))
			if !is {
				continue
			}
			reach := list[16] >> (8*i + 3) % 4
			seen := withWord(list, 16, list[16]&0x18181818|0x07070707)
			seen[16] -= 0x07 << (8 * i)
			seen[16] += 0x80 << (8 * i)
			ahead := func(addr uint64) bool {
				for k := range i {
					if has(seen, k, addr) {
						return true
					}
				}
				return false
			}
			for _, addr := range []uint64{first, last, first + (last-first)/2} {
				if ahead(addr) {
					continue
				}
				met[i][reach]++
				wantLocked(t, seen, addr, true)
				for _, kind := range kinds {
					wantPermits(t, seen, 3, addr, 1, kind, false)
				}
			}
			for _, addr := range []uint64{first - 1, last + 1} {
				if ahead(addr) || first == 0 && addr == first-1 {
					continue
				}
				apart[i][reach]++
				wantLocked(t, seen, addr, false)
				for _, kind := range kinds {
					wantPermits(t, seen, 3, addr, 1, kind, true)
				}
			}
		}
	}
	for i := range 4 {
		for reach := 1; reach < 4; reach++ {
			if met[i][reach] == 0 || apart[i][reach] == 0 {
				t.Errorf("entry %d of kind %d: met %d times, %d times not", i, reach, met[i][reach], apart[i][reach])
			}
		}
	}
}

// Promise 6, its second half; and every answer against the second readings.
func TestWhoMayAccessMayDoSoByteByByte(t *testing.T) {
	many, locked := 0, 0
	for _, list := range guardedLists() {
		before := slices.Clone(list)
		for _, addr := range near(list) {
			single := map[[2]int64]bool{}
			for _, priv := range privs {
				for _, kind := range kinds {
					single[[2]int64{priv, kind}] = impl.Permits(list, priv, addr, 1, kind)
				}
			}
			for _, size := range sizes {
				for _, priv := range privs {
					for _, kind := range kinds {
						is := impl.Permits(list, priv, addr, size, kind)
						if want := may(list, priv, addr, size, kind); is != want {
							t.Fatalf("Permits of %#x at %d, %#x, %d bytes, kind %d: %v", list, priv, addr, size, kind, is)
						}
						if !is || size == 1 {
							continue
						}
						many++
						if !single[[2]int64{priv, kind}] {
							t.Fatalf("%d bytes at %#x, but not the first alone", size, addr)
						}
						for k := range uint64(size) {
							wantPermits(t, list, priv, addr+k, 1, kind, true)
						}
					}
				}
			}
			is := impl.Locked(list, addr)
			if is != shut(list, addr) {
				t.Fatalf("Locked of %#x at %#x: %v", list, addr, is)
			}
			for _, priv := range privs {
				if is && single[[2]int64{priv, impl.KdStore}] {
					t.Fatalf("Locked, but stored into at %d: %#x at %#x", priv, list, addr)
				}
			}
			if is {
				locked++
			}
		}
		if !slices.Equal(list, before) {
			t.Fatal("an argument was written into")
		}
	}
	if many == 0 || locked == 0 {
		t.Errorf("%d accesses of more bytes, %d addresses that are Locked", many, locked)
	}
}

func TestRegionOfEveryKindOfList(t *testing.T) {
	for _, list := range append(guardedLists(), rightLists(t)...) {
		for i := range 4 {
			first, last, is := ends(list, i)
			wantRegion(t, list, int64(i), first, last, is)
			if is && (!has(list, i, first) || !has(list, i, last) || has(list, i, last+1) || first > 0 && has(list, i, first-1)) {
				t.Fatal("the two second readings are not the same")
			}
		}
	}
}

// Every byte that an entry can have, and every byte of the one ahead: the region hangs on bits 3 and 4 of its own alone.
func TestRegionGoesByItsOwnReach(t *testing.T) {
	for i := range 4 {
		for _, own := range entryBytes() {
			for _, other := range entryBytes() {
				bytes := [4]uint64{other, other, other, other}
				bytes[i] = own
				list := guarded(bytes, [4]uint64{0x100, 0x203, 0x305, 0x40f})
				want := [4][4][2]uint64{
					{{}, {0, 0x3ff}, {0x400, 0x403}, {0x400, 0x407}},
					{{}, {0x400, 0x80b}, {0x80c, 0x80f}, {0x800, 0x81f}},
					{{}, {0x80c, 0xc13}, {0xc14, 0xc17}, {0xc10, 0xc1f}},
					{{}, {0xc14, 0x103b}, {0x103c, 0x103f}, {0x1000, 0x107f}},
				}[i][own/8%4]
				wantRegion(t, list, int64(i), want[0], want[1], own/8%4 != 0)
			}
		}
	}
}

// alone has one entry with a region, of that kind, and the pmpaddr ahead of it.
func alone(i int, reach, ahead, a uint64) []uint64 {
	var bytes, addrs [4]uint64
	bytes[i], addrs[i] = reach<<3, a
	if i > 0 {
		addrs[i-1] = ahead
	}
	return guarded(bytes, addrs)
}

func TestRegionUpToAnAddress(t *testing.T) {
	for _, x := range []struct {
		ahead, a    uint64
		first, last uint64
		is          bool
	}{
		{0, 0, 0, 0, false},
		{0, 1, 0, 3, true},
		{1, 1, 0, 0, false},
		{1, 0, 0, 0, false},
		{2, 1, 0, 0, false},
		{1, 2, 4, 7, true},
		{0x100, 0x200, 0x400, 0x7ff, true},
		{0x200, 0x200, 0, 0, false},
		{0x201, 0x200, 0, 0, false},
		{0x1ff, 0x200, 0x7fc, 0x7ff, true},
		{0, greatestAddr, 0, 1<<56 - 5, true},
		{greatestAddr, greatestAddr, 0, 0, false},
		{greatestAddr, 0, 0, 0, false},
		{greatestAddr, greatestAddr - 1, 0, 0, false},
		{greatestAddr - 1, greatestAddr, 1<<56 - 8, 1<<56 - 5, true},
		{1 << 53, greatestAddr, 1 << 55, 1<<56 - 5, true},
	} {
		for i := 1; i < 4; i++ {
			wantRegion(t, alone(i, 1, x.ahead, x.a), int64(i), x.first, x.last, x.is)
		}
	}
	// Entry 0 begins at 0, whatever stands in the places about its own.
	for _, x := range []struct {
		a, last uint64
		is      bool
	}{{0, 0, false}, {1, 3, true}, {2, 7, true}, {0x100, 0x3ff, true}, {greatestAddr, 1<<56 - 5, true}} {
		for _, other := range []uint64{0, 1, 0x200, greatestAddr} {
			list := guarded([4]uint64{0x08, 0, 0x1f, 0x9f}, [4]uint64{x.a, other, other, other})
			wantRegion(t, list, 0, 0, x.last, x.is)
			wantRegion(t, withWord(list, 15, 0x8fffffffffffffff), 0, 0, x.last, x.is)
		}
	}
}

func TestRegionOfFourBytes(t *testing.T) {
	for i := range 4 {
		for _, ahead := range []uint64{0, 5, greatestAddr} {
			for _, x := range [][2]uint64{{0, 0}, {1, 4}, {3, 12}, {0x101, 0x404}, {0x20000000, impl.RamBase}, {1 << 53, 1 << 55}, {greatestAddr, 1<<56 - 4}} {
				wantRegion(t, alone(i, 2, ahead, x[0]), int64(i), x[1], x[1]+3, true)
			}
		}
	}
}

func TestRegionOfAPowerOfTwo(t *testing.T) {
	for _, x := range []struct {
		a, first, last uint64
	}{
		{0, 0, 7},
		{2, 8, 15},
		{4, 16, 23},
		{0x100, 0x400, 0x407},
		{greatestAddr - 1, 1<<56 - 8, 1<<56 - 1},
		{1, 0, 15},
		{5, 16, 31},
		{0x101, 0x400, 0x40f},
		{greatestAddr - 2, 1<<56 - 16, 1<<56 - 1},
		{3, 0, 31},
		{0xb, 32, 63},
		{0x303, 0xc00, 0xc1f},
		{greatestAddr - 4, 1<<56 - 32, 1<<56 - 1},
		{1<<51 - 1, 0, 1<<54 - 1},
		{1<<53 + 1<<51 - 1, 1 << 55, 1<<55 + 1<<54 - 1},
		{1<<52 - 1, 0, 1<<55 - 1},
		{1<<53 + 1<<52 - 1, 1 << 55, 1<<56 - 1},
		{1<<53 - 1, 0, 1<<56 - 1},
		{1<<54 - 1, 0, 1<<56 - 1},
	} {
		for i := range 4 {
			for _, ahead := range []uint64{0, 7, greatestAddr} {
				wantRegion(t, alone(i, 3, ahead, x.a), int64(i), x.first, x.last, true)
			}
		}
	}
	// Every number of ones, with nothing and with all bits above the nought behind them.
	for ones := range 55 {
		low := uint64(1)<<ones - 1
		last := uint64(1)<<(min(ones, 53)+3) - 1
		wantRegion(t, alone(2, 3, 1, low), 2, 0, last, true)
		if ones < 53 {
			high := greatestAddr - (uint64(1)<<(ones+1) - 1)
			wantRegion(t, alone(2, 3, 1, high+low), 2, 4*high, 4*high+last, true)
		}
	}
}

func TestNoSuchEntry(t *testing.T) {
	for _, list := range append(guardedLists()[:300], fullCsrs(), withWord(fullCsrs(), 16, 0x9f9f9f9f)) {
		for _, i := range noEntries {
			wantRegion(t, list, i, 0, 0, false)
		}
	}
}

// Rows by hand: entry 1 has 0x400 to 0x7ff, for loads and fetches; entry 3, which would allow stores, has the same.
func TestAcrossAndBesideTheEnds(t *testing.T) {
	list := guarded([4]uint64{0, 0x0d, 0, 0x1f}, [4]uint64{0x100, 0x200, 0, 0x17f})
	for _, x := range []struct {
		addr uint64
		size int64
		is   bool
	}{
		{0x3f8, 8, false}, {0x3f9, 8, false}, {0x3fc, 8, false}, {0x3ff, 8, false}, {0x3ff, 1, false}, {0x3ff, 2, false},
		{0x400, 1, true}, {0x400, 2, true}, {0x400, 4, true}, {0x400, 8, true}, {0x401, 8, true}, {0x5a5, 4, true},
		{0x7f8, 8, true}, {0x7f9, 8, false}, {0x7fc, 4, true}, {0x7fd, 4, false}, {0x7fe, 2, true}, {0x7ff, 2, false}, {0x7ff, 1, true},
		{0x800, 1, false}, {0x800, 8, false},
	} {
		for _, priv := range []int64{0, 1} {
			wantPermits(t, list, priv, x.addr, x.size, impl.KdLoad, x.is)
			wantPermits(t, list, priv, x.addr, x.size, impl.KdFetch, x.is)
			wantPermits(t, list, priv, x.addr, x.size, impl.KdStore, false)
		}
		// The machine may where the entry has all of the bytes or none of them.
		in := x.addr >= 0x400 && x.addr+uint64(x.size) <= 0x800
		out := x.addr+uint64(x.size) <= 0x400 || x.addr >= 0x800
		for _, kind := range kinds {
			wantPermits(t, list, 3, x.addr, x.size, kind, in || out)
		}
	}
}

// Two entries that have the address, in each order and at each pair of places: the lower one has the say.
func TestTheFirstEntryHasTheSay(t *testing.T) {
	pairs := [][2]uint64{{0x00, 0x07}, {0x07, 0x00}, {0x80, 0x07}, {0x07, 0x80}, {0x87, 0x80}, {0x80, 0x87}, {0x01, 0x04}, {0x84, 0x81}, {0x83, 0x85}, {0x81, 0x03}}
	for one := range 4 {
		for other := one + 1; other < 4; other++ {
			for _, p := range pairs {
				for _, reach := range [][2]uint64{{2, 2}, {2, 3}, {3, 2}, {3, 3}} {
					var bytes, addrs [4]uint64
					bytes[one], bytes[other] = p[0]+reach[0]<<3, p[1]+reach[1]<<3
					addrs[one], addrs[other] = 0x100, 0x100
					list := guarded(bytes, addrs)
					wantLocked(t, list, 0x400, p[0] >= 0x80 && p[0]/2%2 == 0)
					for _, priv := range privs {
						for _, kind := range kinds {
							free := priv == 3 && p[0] < 0x80
							wantPermits(t, list, priv, 0x400, 4, kind, free || bit(p[0], kindBits[kind]) == 1)
						}
					}
				}
			}
		}
	}
}

// The first that has one of the bytes has four of them, one behind it all: nobody may, not even the machine.
func TestAnEntryThatHasNotAllOfThem(t *testing.T) {
	for one := range 4 {
		for other := range 4 {
			if one == other {
				continue
			}
			for _, lock := range []uint64{0, 0x80} {
				var bytes, addrs [4]uint64
				bytes[one], addrs[one] = 0x17+lock, 0x101
				bytes[other], addrs[other] = 0x1f+lock, 0x10f
				list := guarded(bytes, addrs)
				for _, priv := range privs {
					for _, kind := range kinds {
						for _, addr := range []uint64{0x400, 0x401, 0x403, 0x404, 0x405, 0x407} {
							wantPermits(t, list, priv, addr, 8, kind, other < one)
						}
						wantPermits(t, list, priv, 0x404, 4, kind, true)
						wantPermits(t, list, priv, 0x400, 4, kind, true)
						wantPermits(t, list, priv, 0x408, 8, kind, true)
						wantPermits(t, list, priv, 0x402, 4, kind, other < one)
						wantPermits(t, list, priv, 0x407, 2, kind, other < one)
					}
				}
			}
		}
	}
}

// Every byte that an entry can have, at every entry and privilege.
func TestEveryByteOfAnEntry(t *testing.T) {
	for i := range 4 {
		for _, b := range entryBytes() {
			var bytes, addrs [4]uint64
			bytes[i], addrs[i] = b, 0x100
			list := guarded(bytes, addrs)
			reach := b / 8 % 4
			addr := uint64(0x400)
			if reach == 1 {
				addr = 0x3f8
			}
			for _, size := range []int64{1, 2, 4} {
				for kind, place := range map[int64]int{impl.KdFetch: 2, impl.KdLoad: 0, impl.KdStore: 1} {
					says := bit(b, place) == 1 && reach != 0
					wantPermits(t, list, 0, addr, size, kind, says)
					wantPermits(t, list, 1, addr, size, kind, says)
					wantPermits(t, list, 3, addr, size, kind, says || b < 0x80 || reach == 0)
				}
			}
			wantLocked(t, list, addr, reach != 0 && b >= 0x80 && b/2%2 == 0)
			wantLocked(t, list, 0x410, false)
		}
	}
}

func TestWhereNoEntryHasIt(t *testing.T) {
	lists := [][]uint64{impl.NewCsrs(), guarded([4]uint64{0x87, 0x80, 0x07, 0x05}, [4]uint64{1, 2, 3, greatestAddr})}
	lists = append(lists, guarded([4]uint64{0x90, 0x97, 0x98, 0x9f}, [4]uint64{0x100, 0x200, 0x300, 0x400}))
	lists = append(lists, guarded([4]uint64{0x08, 0x8f, 0x8f, 0x8f}, [4]uint64{0, 0, 0, 0}))
	for _, list := range lists {
		for _, addr := range []uint64{0x10, 0x11, impl.RamBase, 1 << 56, 1 << 63, allOnes - 7} {
			for _, size := range sizes {
				for _, kind := range kinds {
					wantPermits(t, list, 0, addr, size, kind, false)
					wantPermits(t, list, 1, addr, size, kind, false)
					wantPermits(t, list, 3, addr, size, kind, true)
				}
			}
			wantLocked(t, list, addr, false)
		}
	}
}

// A region of the greatest size ends at 2^56 - 1, and no entry has what is beyond.
func TestBeyondTheGreatestRegion(t *testing.T) {
	for _, a := range []uint64{1<<53 - 1, greatestAddr} {
		list := guarded([4]uint64{0x9d, 0, 0, 0}, [4]uint64{a, 0, 0, 0})
		for _, addr := range []uint64{0, 1 << 55, 1<<56 - 8} {
			wantPermits(t, list, 0, addr, 8, impl.KdLoad, true)
			wantPermits(t, list, 3, addr, 8, impl.KdStore, false)
			wantLocked(t, list, addr, true)
		}
		wantLocked(t, list, 1<<56-1, true)
		wantPermits(t, list, 3, 1<<56-4, 8, impl.KdLoad, false)
		for _, addr := range []uint64{1 << 56, 1<<56 + 1<<55, 1 << 57, 1 << 58, 1 << 63, allOnes - 7} {
			wantPermits(t, list, 0, addr, 8, impl.KdLoad, false)
			wantPermits(t, list, 3, addr, 8, impl.KdStore, true)
			wantLocked(t, list, addr, false)
		}
	}
}

// The last byte at 2^64 - 1 is fine, one beyond is not, though the sum comes round to what is allowed.
func TestTheLastAddressOfAll(t *testing.T) {
	lists := [][]uint64{impl.NewCsrs(), fullCsrs(), withWord(fullCsrs(), 16, 0x9f9f9f9f)}
	lists = append(lists, guarded([4]uint64{0x80, 0, 0, 0}, [4]uint64{}), guarded([4]uint64{0x97, 0x1f, 0, 0}, [4]uint64{0, greatestAddr, 0, 0}))
	for _, list := range lists {
		for _, kind := range kinds {
			for _, size := range sizes {
				for d := range uint64(16) {
					fits := d+1 >= uint64(size)
					wantPermits(t, list, 3, allOnes-d, size, kind, fits)
					wantPermits(t, list, 0, allOnes-d, size, kind, false)
					wantPermits(t, list, 1, allOnes-d, size, kind, false)
				}
			}
		}
	}
}

func TestPermitsRefuses(t *testing.T) {
	lists := [][]uint64{impl.NewCsrs(), fullCsrs(), withWord(fullCsrs(), 16, 0x9f9f9f9f)}
	addrs := []uint64{0, 8, impl.RamBase, 1 << 56, allOnes - 15, allOnes - 7, allOnes}
	wrongSizes := append(slices.Clone(noSizes), 0, 3, 16, -1, -2, -4, -8, math.MinInt64, math.MaxInt64)
	for _, list := range lists {
		for _, addr := range addrs {
			for _, priv := range privs {
				for _, kind := range kinds {
					for _, size := range wrongSizes {
						wantPermits(t, list, priv, addr, size, kind, false)
					}
				}
				for _, kind := range noKinds {
					for _, size := range sizes {
						wantPermits(t, list, priv, addr, size, kind, false)
					}
				}
			}
			for _, priv := range noPrivs {
				for _, kind := range kinds {
					for _, size := range sizes {
						wantPermits(t, list, priv, addr, size, kind, false)
					}
				}
			}
		}
	}
}

// barred are wrong lists; but for what is wrong, their entry 0 would have all addresses below 2^56, and let all be, or be locked.
func barred(t *testing.T) [][]uint64 {
	t.Helper()
	lists := append(wrongLists(t), withWord(impl.NewCsrs(), 16, 0x82))
	for _, config := range []uint64{0x9f9f9f9f, 0x9d9d9d9d, 0x1f} {
		full := withWord(fullCsrs(), 16, config)
		for _, l := range csrLines(t) {
			for n := range 64 {
				if !slices.Contains(l.bits, n) {
					lists = append(lists, withWord(full, l.place, full[l.place]|1<<n))
				}
			}
		}
		room := append(slices.Clone(full), 0, 0)
		lists = append(lists, room[:21], room[:23], room, append(room[:22:22], room...), withWord(full, 0, 0x1000), withWord(full, 15, 1<<60))
		lists = append(lists, withWord(full, 16, config&0xff+0x8200), withWord(full, 16, config&0xff+0x02000000))
	}
	return lists
}

func TestProtectionOfListsThatAreNotRight(t *testing.T) {
	for _, list := range barred(t) {
		before := slices.Clone(list)
		if impl.CsrsOk(list) {
			t.Fatalf("CsrsOk: %#x", list)
		}
		for _, i := range append([]int64{0, 1, 2, 3}, noEntries...) {
			if first, last, ok := impl.Region(list, i); first != 0 || last != 0 || ok {
				t.Fatalf("Region of %#x, entry %d: %#x, %#x, %v", list, i, first, last, ok)
			}
		}
		for _, addr := range []uint64{0, 0x400, impl.RamBase, 1 << 56, allOnes - 7} {
			wantLocked(t, list, addr, false)
			for _, priv := range privs {
				for _, kind := range kinds {
					wantPermits(t, list, priv, addr, 1, kind, false)
					wantPermits(t, list, priv, addr, 8, kind, false)
				}
			}
		}
		if !slices.Equal(list, before) {
			t.Fatal("an argument was written into")
		}
	}
}

func TestLockedByHand(t *testing.T) {
	for _, x := range []struct {
		bytes, addrs [4]uint64
		addr         uint64
		is           bool
	}{
		{[4]uint64{0x98}, [4]uint64{0x101}, 0x3ff, false},
		{[4]uint64{0x98}, [4]uint64{0x101}, 0x400, true},
		{[4]uint64{0x98}, [4]uint64{0x101}, 0x40f, true},
		{[4]uint64{0x98}, [4]uint64{0x101}, 0x410, false},
		{[4]uint64{0x9b}, [4]uint64{0x101}, 0x400, false},
		{[4]uint64{0x1d}, [4]uint64{0x101}, 0x400, false},
		{[4]uint64{0x9d}, [4]uint64{0x101}, 0x400, true},
		{[4]uint64{0x99}, [4]uint64{0x101}, 0x400, true},
		{[4]uint64{0x80}, [4]uint64{0x101}, 0x400, false},
		{[4]uint64{0x88}, [4]uint64{0x101}, 0, true},
		{[4]uint64{0x88}, [4]uint64{0x101}, 0x403, true},
		{[4]uint64{0x88}, [4]uint64{0x101}, 0x404, false},
		{[4]uint64{0x88}, [4]uint64{0}, 0, false},
		{[4]uint64{0x90, 0x1f}, [4]uint64{0x100, greatestAddr}, 0x403, true},
		{[4]uint64{0x90, 0x1f}, [4]uint64{0x100, greatestAddr}, 0x404, false},
		{[4]uint64{0x10, 0x9d}, [4]uint64{0x100, greatestAddr}, 0x400, false},
		{[4]uint64{0x10, 0x9d}, [4]uint64{0x100, greatestAddr}, 0x404, true},
		{[4]uint64{0, 0x88, 0, 0x9f}, [4]uint64{0x100, 0x200, 0, greatestAddr}, 0x3ff, false},
		{[4]uint64{0, 0x88, 0, 0x9f}, [4]uint64{0x100, 0x200, 0, greatestAddr}, 0x400, true},
		{[4]uint64{0, 0, 0, 0x9d}, [4]uint64{0, 0, 0, greatestAddr}, 1<<56 - 1, true},
		{[4]uint64{0, 0, 0, 0x9d}, [4]uint64{0, 0, 0, greatestAddr}, 1 << 56, false},
		{[4]uint64{0, 0, 0, 0x9d}, [4]uint64{0, 0, 0, greatestAddr}, allOnes, false},
		{[4]uint64{}, [4]uint64{}, 0, false},
	} {
		wantLocked(t, guarded(x.bytes, x.addrs), x.addr, x.is)
	}
}

// Promise 15: whatever they are given, they answer, and the list and the room behind it stay.
func TestProtectionAnswersAtEveryArgument(t *testing.T) {
	mixed, lists := mixedNumbers(4000), guardedLists()
	numbers := append(slices.Clone(noSizes), 0, 1, 2, 3, 4, 8, math.MinInt64, math.MaxInt64)
	for k := range 2000 {
		room := slices.Clone(mixed[k : k+k%40])
		if k%2 == 0 {
			room = append(slices.Clone(lists[k]), mixed[k:k+4]...)
			room[k%22] = mixed[k]
		}
		before := slices.Clone(room)
		list := room[:min(22, len(room))]
		a, b, c := numbers[k%len(numbers)], numbers[k/3%len(numbers)], numbers[k/7%len(numbers)]
		if first, last, ok := impl.Region(list, a); first > last || !ok && last != 0 {
			t.Errorf("Region of %#x, %d: %#x, %#x, %v", list, a, first, last, ok)
		}
		impl.Permits(list, a, mixed[k+1], b, c)
		impl.Permits(list, 3, mixed[k+1], b, c)
		impl.Permits(list, 3, mixed[k+1], 8, 2)
		impl.Locked(list, mixed[k+1])
		if !slices.Equal(room, before) {
			t.Fatalf("the argument was %#x, is %#x", before, room)
		}
	}
}
