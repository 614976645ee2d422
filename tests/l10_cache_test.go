package tests

import (
	"math"
	"slices"
	"testing"

	"loop.example/g00134/impl"
)

// beyondPages is the first number that is no page's and no frame's.
const beyondPages = uint64(1 << 52)

// keptFor is a kind of access and a privilege that counts for it.
type keptFor struct{ kind, priv int64 }

// shifts has, by kind and privilege, by how much a slot's place is beyond its page's number, modulo 16.
var shifts = map[keptFor]uint64{{1, 0}: 5, {1, 1}: 8, {2, 0}: 10, {2, 1}: 13, {3, 0}: 15, {3, 1}: 2}

// allFor are those of shifts, in one order each time.
var allFor = []keptFor{{1, 0}, {1, 1}, {2, 0}, {2, 1}, {3, 0}, {3, 1}}

var keptPrivs = []int64{0, 1}

var noKeptPrivs = append([]int64{3}, noPrivs...)

var someFrames = []uint64{0, 1, 0x80007, 1 << 44, beyondPages - 2, beyondPages - 1}

// someTurns are the pages' numbers without their low four bits.
var someTurns = []uint64{0, 1, 2, 3, 16, 1 << 28, 1<<48 - 2, 1<<48 - 1}

var cacheAddrs = []uint64{0, 1, 4094, 4095, 4096, 4097, 8191, 8192, 0x5123, 0x80007fff, 1 << 16, 1<<16 + 4095, greatestSigned, leastSigned, allOnes - 4096, allOnes - 4095, allOnes - 1, allOnes}

// slotFor is a slot that may lie at a place.
func slotFor(place int, f keptFor, turn, frame uint64) impl.Slot {
	low := (uint64(place) + 16 - shifts[f]) % 16
	return impl.Slot{Used: true, Kind: f.kind, Priv: f.priv, Page: turn*16 + low, Frame: frame}
}

func emptyCache() impl.Cache {
	return impl.Cache{Slots: make([]impl.Slot, 16)}
}

// fullCache is one whose 16 slots are all Used; those of two numbers n are unlike.
func fullCache(n int) impl.Cache {
	c := emptyCache()
	for place := range c.Slots {
		f := allFor[(place+n)%6]
		c.Slots[place] = slotFor(place, f, someTurns[(place/3+n)%len(someTurns)], someFrames[(place+n)%len(someFrames)])
	}
	return c
}

// halfCache has every other slot Used.
func halfCache(n int) impl.Cache {
	c := fullCache(n)
	for place := n % 2; place < 16; place += 2 {
		c.Slots[place] = impl.Slot{}
	}
	return c
}

// onePageCache has kept one page for each kind and privilege, and other pages at all other places.
func onePageCache(page uint64) impl.Cache {
	c := emptyCache()
	for place := range c.Slots {
		c.Slots[place] = slotFor(place, allFor[place%6], page/16^1, uint64(place))
	}
	for k, f := range allFor {
		c.Slots[(page+shifts[f])%16] = impl.Slot{Used: true, Kind: f.kind, Priv: f.priv, Page: page, Frame: 0x100 + uint64(k)}
	}
	return c
}

func rightCaches() []impl.Cache {
	all := []impl.Cache{emptyCache()}
	for n := range 12 {
		all = append(all, fullCache(n), halfCache(n))
	}
	for _, page := range []uint64{0, 1, 5, 16, 0x1234567, beyondPages - 1} {
		all = append(all, onePageCache(page))
	}
	return all
}

func withSlot(c impl.Cache, place int, s impl.Slot) impl.Cache {
	slots := slices.Clone(c.Slots)
	slots[place] = s
	return impl.Cache{Slots: slots}
}

// brokenUnused are slots that are not Used, but have something else.
func brokenUnused(place int) []impl.Slot {
	all := []impl.Slot{{Kind: 1}, {Kind: 3}, {Kind: -1}, {Kind: math.MinInt64}, {Priv: 1}, {Priv: 3}, {Priv: -1}, {Priv: math.MinInt64},
		{Page: 1}, {Page: 16}, {Page: beyondPages}, {Page: 1 << 63}, {Frame: 1}, {Frame: beyondPages}, {Frame: 1 << 63}}
	for _, f := range allFor {
		s := slotFor(place, f, 3, 9)
		s.Used = false
		all = append(all, s)
	}
	return all
}

// brokenUsed are slots that are Used and wrong by one thing; but for that they may lie at the place.
func brokenUsed(place int) []impl.Slot {
	var all []impl.Slot
	for _, kind := range noKinds {
		for _, priv := range keptPrivs {
			low := uint64(place) - 5*uint64(kind) - 3*uint64(priv)
			all = append(all, impl.Slot{Used: true, Kind: kind, Priv: priv, Page: low%16 + 32, Frame: 6})
		}
	}
	for _, kind := range kinds {
		for _, priv := range noKeptPrivs {
			low := uint64(place) - 5*uint64(kind) - 3*uint64(priv)
			all = append(all, impl.Slot{Used: true, Kind: kind, Priv: priv, Page: low%16 + 32, Frame: 6})
		}
	}
	for _, f := range allFor {
		for _, turn := range []uint64{1 << 48, 1<<48 + 1, 1 << 49, 1 << 59, 1<<60 - 1} {
			all = append(all, slotFor(place, f, turn, 6))
		}
		for _, frame := range []uint64{beyondPages, beyondPages + 1, beyondPages * 2, 1 << 63, allOnes} {
			all = append(all, slotFor(place, f, 2, frame))
		}
		for away := 1; away < 16; away++ {
			all = append(all, slotFor((place+away)%16, f, 2, 6))
		}
	}
	return append(all, impl.Slot{Used: true})
}

// wrongCaches are not CacheOk, each by one thing.
func wrongCaches() []impl.Cache {
	all := []impl.Cache{{}, {Slots: []impl.Slot{}}}
	for _, c := range []impl.Cache{emptyCache(), fullCache(0), halfCache(1)} {
		for n := range 16 {
			all = append(all, impl.Cache{Slots: c.Slots[:n]}, impl.Cache{Slots: c.Slots[16-n:]})
		}
		for _, n := range []int{1, 2, 15, 16, 48, 240, 256} {
			all = append(all, impl.Cache{Slots: slices.Concat(c.Slots, make([]impl.Slot, n))})
		}
		all = append(all, impl.Cache{Slots: slices.Concat(c.Slots, c.Slots)})
		for place := range 16 {
			for _, s := range append(brokenUnused(place), brokenUsed(place)...) {
				all = append(all, withSlot(c, place, s))
			}
		}
	}
	return all
}

// someWrongCaches are enough of them where each is asked many times.
func someWrongCaches() []impl.Cache {
	var out []impl.Cache
	for k, c := range wrongCaches() {
		if k < 130 || k%37 == 0 {
			out = append(out, c)
		}
	}
	return out
}

// cacheRight is a second reading of CacheOk.
func cacheRight(c impl.Cache) bool {
	for place, s := range c.Slots {
		if s == (impl.Slot{}) {
			continue
		}
		shift, is := shifts[keptFor{s.Kind, s.Priv}]
		if !s.Used || !is || s.Page>>52 != 0 || s.Frame>>52 != 0 || (s.Page+shift)%16 != uint64(place) {
			return false
		}
	}
	return len(c.Slots) == 16
}

// found is a second reading of Lookup, for a right cache: by all slots.
func found(c impl.Cache, kind, priv int64, addr uint64) (uint64, bool) {
	for _, s := range c.Slots {
		if s.Used && s.Kind == kind && s.Priv == priv && s.Page == addr>>12 {
			return s.Frame<<12 | addr&0xfff, true
		}
	}
	return 0, false
}

// keptIn is a second reading of Keep, for what is right.
func keptIn(c impl.Cache, f keptFor, addr, to uint64) impl.Cache {
	s := impl.Slot{Used: true, Kind: f.kind, Priv: f.priv, Page: addr >> 12, Frame: to >> 12}
	return withSlot(c, int((addr>>12+shifts[f])%16), s)
}

// droppedOf is a second reading of Drop, for a right cache.
func droppedOf(c impl.Cache, addr uint64, all bool) impl.Cache {
	out := emptyCache()
	for place, s := range c.Slots {
		if !all && s.Used && s.Page != addr>>12 {
			out.Slots[place] = s
		}
	}
	return out
}

var spareSlot = impl.Slot{Used: true, Kind: 7, Priv: 8, Page: 9, Frame: 10}

// withRoom is the cache with slots ahead of its own and spare room behind them, and the list that these are a piece of.
func withRoom(c impl.Cache) (impl.Cache, []impl.Slot) {
	room := slices.Concat([]impl.Slot{spareSlot, spareSlot}, c.Slots, slices.Repeat([]impl.Slot{spareSlot}, 20))
	return impl.Cache{Slots: room[2 : 2+len(c.Slots)]}, room
}

func turnSlots(list []impl.Slot) {
	list = list[:cap(list)]
	for k, s := range list {
		list[k] = impl.Slot{Used: !s.Used, Kind: ^s.Kind, Priv: ^s.Priv, Page: ^s.Page, Frame: ^s.Frame}
	}
}

// wantCache holds what a call answers against what it must be. Promise 15: the argument and its spare room stay, and what is answered is new memory.
func wantCache(t *testing.T, c, want impl.Cache, call func(c impl.Cache) impl.Cache) {
	t.Helper()
	given, room := withRoom(c)
	was := slices.Clone(room)
	got := call(given)
	if !slices.Equal(got.Slots, want.Slots) {
		t.Fatalf("of %v\nit is %v\nwant  %v", c, got, want)
	}
	if len(want.Slots) != 0 && !impl.CacheOk(got) {
		t.Fatalf("of %v it is not CacheOk: %v", c, got)
	}
	if !slices.Equal(room, was) {
		t.Fatalf("of %v: the argument was written into", c)
	}
	turnSlots(got.Slots)
	if !slices.Equal(room, was) {
		t.Fatalf("of %v: the answer shares memory", c)
	}
}

func wantCacheOk(t *testing.T, c impl.Cache, want bool) {
	t.Helper()
	given, room := withRoom(c)
	was := slices.Clone(room)
	if got := impl.CacheOk(given); got != want {
		t.Fatalf("CacheOk of %v: %v", c, got)
	}
	if !slices.Equal(room, was) {
		t.Fatalf("CacheOk of %v wrote into its argument", c)
	}
}

func wantLookup(t *testing.T, c impl.Cache, kind, priv int64, addr, want uint64, is bool) {
	t.Helper()
	given, room := withRoom(c)
	was := slices.Clone(room)
	if to, ok := impl.Lookup(given, kind, priv, addr); to != want || ok != is {
		t.Fatalf("Lookup in %v of kind %d at %d, %#x: %#x, %v; want %#x, %v", c, kind, priv, addr, to, ok, want, is)
	}
	if !slices.Equal(room, was) {
		t.Fatalf("Lookup in %v wrote into its argument", c)
	}
}

func wantNotFound(t *testing.T, c impl.Cache, kind, priv int64, addr uint64) {
	t.Helper()
	wantLookup(t, c, kind, priv, addr, 0, false)
}

func wantKeep(t *testing.T, c impl.Cache, kind, priv int64, addr, to uint64, want impl.Cache) {
	t.Helper()
	wantCache(t, c, want, func(c impl.Cache) impl.Cache { return impl.Keep(c, kind, priv, addr, to) })
}

func wantDrop(t *testing.T, c impl.Cache, addr uint64, all bool, want impl.Cache) {
	t.Helper()
	wantCache(t, c, want, func(c impl.Cache) impl.Cache { return impl.Drop(c, addr, all) })
}

// pagesOf are the first addresses of the pages that a cache has kept, of those beside them, and of others.
func pagesOf(c impl.Cache) []uint64 {
	all := []uint64{0, 16, beyondPages - 1}
	for _, s := range c.Slots {
		all = append(all, s.Page, s.Page-1, s.Page+1, s.Page^16)
	}
	for k := range all {
		all[k] <<= 12
	}
	return all
}

// wantSameFound holds that what a right cache has is found in another one, and nothing else.
func wantSameFound(t *testing.T, c, want impl.Cache) {
	t.Helper()
	for _, addr := range pagesOf(want) {
		for _, f := range allFor {
			wantFound(t, c, want, f, addr+0x123)
		}
	}
}

func wantFound(t *testing.T, c, want impl.Cache, f keptFor, addr uint64) {
	t.Helper()
	to, is := found(want, f.kind, f.priv, addr)
	if got, ok := impl.Lookup(c, f.kind, f.priv, addr); got != to || ok != is {
		t.Fatalf("Lookup in %v of kind %d at %d, %#x: %#x, %v; want %#x, %v", c, f.kind, f.priv, addr, got, ok, to, is)
	}
}

func TestNewCache(t *testing.T) {
	c := impl.NewCache()
	if len(c.Slots) != 16 {
		t.Fatalf("%d slots", len(c.Slots))
	}
	for place, s := range c.Slots {
		if s != (impl.Slot{}) {
			t.Errorf("slot %d: %v", place, s)
		}
	}
	wantCacheOk(t, c, true)
	for _, kind := range append(slices.Clone(kinds), noKinds...) {
		for _, priv := range append(slices.Clone(keptPrivs), noKeptPrivs...) {
			for _, addr := range cacheAddrs {
				wantNotFound(t, c, kind, priv, addr)
			}
		}
	}
}

func TestNewCachesShareNothing(t *testing.T) {
	a, b := impl.NewCache(), impl.NewCache()
	turnSlots(a.Slots)
	if !slices.Equal(b.Slots, make([]impl.Slot, 16)) || !slices.Equal(impl.NewCache().Slots, make([]impl.Slot, 16)) {
		t.Error("two calls share memory")
	}
}

// The caches that the other tests take as right and as wrong are so by the second reading, too.
func TestCachesOfTheTests(t *testing.T) {
	for _, c := range rightCaches() {
		if !cacheRight(c) {
			t.Errorf("not right: %v", c)
		}
	}
	for _, c := range wrongCaches() {
		if cacheRight(c) {
			t.Errorf("right: %v", c)
		}
	}
	for n := range 12 {
		for place, s := range fullCache(n).Slots {
			if !s.Used {
				t.Errorf("cache %d: slot %d is not Used", n, place)
			}
		}
	}
}

func TestCacheOkOfMany(t *testing.T) {
	for _, c := range rightCaches() {
		wantCacheOk(t, c, true)
	}
	for _, c := range wrongCaches() {
		wantCacheOk(t, c, false)
	}
}

func TestCacheOkBySlots(t *testing.T) {
	wantCacheOk(t, impl.Cache{}, false)
	if impl.CacheOk(impl.Cache{}) || impl.CacheOk(impl.Cache{Slots: make([]impl.Slot, 0, 16)}) {
		t.Error("CacheOk without a slot")
	}
	for n := range 300 {
		wantCacheOk(t, impl.Cache{Slots: make([]impl.Slot, n)}, n == 16)
	}
	full := fullCache(3)
	wantCacheOk(t, full, true)
	wantCacheOk(t, impl.Cache{Slots: full.Slots[:15]}, false)
	wantCacheOk(t, impl.Cache{Slots: append(slices.Clone(full.Slots), impl.Slot{})}, false)
	wantCacheOk(t, impl.Cache{Slots: append(slices.Clone(full.Slots), full.Slots[0])}, false)
}

// A slot by hand, with each of its fields as the last that may be and the first that may not.
func TestCacheOkByHand(t *testing.T) {
	at := func(place int, s impl.Slot) impl.Cache { return withSlot(emptyCache(), place, s) }
	wantCacheOk(t, at(2, impl.Slot{Used: true, Kind: 2, Priv: 1, Page: 5, Frame: 0x80007}), true)
	wantCacheOk(t, at(2, impl.Slot{Kind: 2, Priv: 1, Page: 5, Frame: 0x80007}), false)
	wantCacheOk(t, at(3, impl.Slot{Used: true, Kind: 2, Priv: 1, Page: 5, Frame: 0x80007}), false)
	wantCacheOk(t, at(5, impl.Slot{Used: true, Kind: 1}), true)
	wantCacheOk(t, at(0, impl.Slot{Used: true}), false)
	wantCacheOk(t, at(4, impl.Slot{Used: true, Kind: 4}), false)
	wantCacheOk(t, at(11, impl.Slot{Used: true, Kind: -1}), false)
	wantCacheOk(t, at(8, impl.Slot{Used: true, Kind: 1, Priv: 1}), true)
	wantCacheOk(t, at(11, impl.Slot{Used: true, Kind: 1, Priv: 2}), false)
	wantCacheOk(t, at(14, impl.Slot{Used: true, Kind: 1, Priv: 3}), false)
	wantCacheOk(t, at(2, impl.Slot{Used: true, Kind: 1, Priv: -1}), false)
	wantCacheOk(t, at(4, impl.Slot{Used: true, Kind: 1, Page: 1<<52 - 1}), true)
	wantCacheOk(t, at(5, impl.Slot{Used: true, Kind: 1, Page: 1 << 52}), false)
	wantCacheOk(t, at(5, impl.Slot{Used: true, Kind: 1, Frame: 1<<52 - 1}), true)
	wantCacheOk(t, at(5, impl.Slot{Used: true, Kind: 1, Frame: 1 << 52}), false)
	wantCacheOk(t, at(15, impl.Slot{Used: true, Kind: 3}), true)
	wantCacheOk(t, at(2, impl.Slot{Used: true, Kind: 3, Priv: 1}), true)
}

// A right slot is so at its own place alone, and what is at the others does not matter.
func TestEverySlotAtEveryPlace(t *testing.T) {
	for place := range 16 {
		for _, f := range allFor {
			for _, turn := range someTurns {
				for _, frame := range someFrames {
					s := slotFor(place, f, turn, frame)
					for other := range 16 {
						for _, c := range []impl.Cache{emptyCache(), fullCache(1)} {
							if got := impl.CacheOk(withSlot(c, other, s)); got != (other == place) {
								t.Fatalf("CacheOk with %v at %d: %v", s, other, got)
							}
						}
					}
				}
			}
		}
	}
}

// Slots that are right, but have changed their places.
func TestSlotsThatWereMoved(t *testing.T) {
	for n := range 12 {
		full := fullCache(n)
		for a := range 16 {
			for b := range a {
				c := impl.Cache{Slots: slices.Clone(full.Slots)}
				c.Slots[a], c.Slots[b] = c.Slots[b], c.Slots[a]
				wantCacheOk(t, c, false)
			}
			if a > 0 {
				wantCacheOk(t, impl.Cache{Slots: slices.Concat(full.Slots[a:], full.Slots[:a])}, false)
			}
		}
	}
}

func TestLookupByHand(t *testing.T) {
	c := withSlot(emptyCache(), 2, impl.Slot{Used: true, Kind: 2, Priv: 1, Page: 5, Frame: 0x80007})
	wantLookup(t, c, 2, 1, 0x5000, 0x80007000, true)
	wantLookup(t, c, 2, 1, 0x5001, 0x80007001, true)
	wantLookup(t, c, 2, 1, 0x5fff, 0x80007fff, true)
	wantNotFound(t, c, 2, 1, 0x4fff)
	wantNotFound(t, c, 2, 1, 0x6000)
	wantNotFound(t, c, 2, 1, 0x15000)
	wantNotFound(t, c, 2, 0, 0x5000)
	wantNotFound(t, c, 1, 1, 0x5000)
	wantNotFound(t, c, 3, 1, 0x5000)
	// These have the same place.
	wantNotFound(t, c, 3, 1, 0)
	wantNotFound(t, c, 2, 0, 0x8000)
	wantNotFound(t, c, 1, 0, 0xd000)
	first := withSlot(emptyCache(), 5, impl.Slot{Used: true, Kind: 1, Frame: 0})
	wantLookup(t, first, 1, 0, 0, 0, true)
	wantLookup(t, first, 1, 0, 4095, 4095, true)
	wantNotFound(t, first, 1, 0, 4096)
	wantNotFound(t, first, 1, 0, allOnes)
	last := withSlot(emptyCache(), 14, impl.Slot{Used: true, Kind: 3, Priv: 0, Page: 1<<52 - 1, Frame: 1<<52 - 1})
	wantLookup(t, last, 3, 0, allOnes, allOnes, true)
	wantLookup(t, last, 3, 0, allOnes-4095, allOnes-4095, true)
	wantNotFound(t, last, 3, 0, allOnes-4096)
	wantNotFound(t, last, 3, 0, 0)
	crossed := withSlot(emptyCache(), 14, impl.Slot{Used: true, Kind: 3, Priv: 0, Page: 1<<52 - 1})
	wantLookup(t, crossed, 3, 0, allOnes, 4095, true)
	wantLookup(t, withSlot(emptyCache(), 15, impl.Slot{Used: true, Kind: 3, Frame: 1<<52 - 1}), 3, 0, 0, 0xfffffffffffff000, true)
}

// Each kind and privilege, at every place, by the addresses at a page's ends and beside them.
func TestLookupAtTheEndsOfPages(t *testing.T) {
	for place := range 16 {
		for _, f := range allFor {
			for _, turn := range someTurns {
				for _, frame := range someFrames {
					s := slotFor(place, f, turn, frame)
					first, to := s.Page*4096, frame*4096
					alone := withSlot(emptyCache(), place, s)
					for _, c := range []impl.Cache{alone, withSlot(fullCache(place), place, s)} {
						wantLookup(t, c, f.kind, f.priv, first, to, true)
						wantLookup(t, c, f.kind, f.priv, first+1, to+1, true)
						wantLookup(t, c, f.kind, f.priv, first+4094, to+4094, true)
						wantLookup(t, c, f.kind, f.priv, first+4095, to+4095, true)
					}
					wantNotFound(t, alone, f.kind, f.priv, first-1)
					wantNotFound(t, alone, f.kind, f.priv, first+4096)
				}
			}
		}
	}
}

// Promise 10: at every address of the page.
func TestLookupAtEveryAddressOfAPage(t *testing.T) {
	for n, f := range allFor {
		s := slotFor(n, f, 77, 0x80000+uint64(n))
		c := withSlot(fullCache(n), n, s)
		for k := range uint64(4096) {
			wantLookup(t, c, f.kind, f.priv, s.Page<<12+k, s.Frame<<12+k, true)
		}
	}
}

// Promise 10: at no other page, kind or privilege, those of the same place among them.
func TestLookupOfOthers(t *testing.T) {
	for place := range 16 {
		for _, f := range allFor {
			s := slotFor(place, f, 0x123456789, 8)
			c := withSlot(emptyCache(), place, s)
			for _, g := range allFor {
				if g != f {
					wantNotFound(t, c, g.kind, g.priv, s.Page<<12)
					for _, turn := range someTurns {
						wantNotFound(t, c, g.kind, g.priv, slotFor(place, g, turn, 0).Page<<12)
					}
					wantNotFound(t, c, g.kind, g.priv, slotFor(place, g, 0x123456789, 0).Page<<12)
				}
			}
			for n := range 52 {
				wantNotFound(t, c, f.kind, f.priv, (s.Page^1<<n)<<12)
			}
			for k := uint64(1); k <= 64; k++ {
				wantNotFound(t, c, f.kind, f.priv, (s.Page+k)<<12)
				wantNotFound(t, c, f.kind, f.priv, (s.Page-k)<<12)
			}
		}
	}
}

// A slot that is not Used is found by nothing, not even by what its noughts would be.
func TestLookupOfUnusedSlots(t *testing.T) {
	for place := range 16 {
		c := withSlot(fullCache(place), place, impl.Slot{})
		for _, f := range allFor {
			for _, turn := range someTurns {
				addr := slotFor(place, f, turn, 0).Page << 12
				to, is := found(c, f.kind, f.priv, addr)
				if is {
					t.Fatalf("%v has the slot elsewhere", c)
				}
				wantLookup(t, c, f.kind, f.priv, addr, to, is)
			}
		}
		for _, priv := range []int64{0, 1, 2, 3, -1} {
			wantNotFound(t, c, 0, priv, 0)
			wantNotFound(t, c, 0, priv, uint64(place)<<12)
		}
	}
}

func TestLookupOfMany(t *testing.T) {
	for _, c := range rightCaches() {
		for _, addr := range append(pagesOf(c), cacheAddrs...) {
			for _, f := range allFor {
				to, is := found(c, f.kind, f.priv, addr)
				wantLookup(t, c, f.kind, f.priv, addr, to, is)
			}
		}
	}
}

func TestLookupOfNoKindOrPrivilege(t *testing.T) {
	for n := range 6 {
		for _, c := range []impl.Cache{emptyCache(), fullCache(n), halfCache(n), onePageCache(0), onePageCache(7)} {
			for place, s := range c.Slots {
				for _, addr := range []uint64{s.Page << 12, uint64(place) << 12} {
					for _, kind := range noKinds {
						for _, priv := range []int64{0, 1, 3} {
							wantNotFound(t, c, kind, priv, addr)
						}
					}
					for _, kind := range kinds {
						for _, priv := range noKeptPrivs {
							wantNotFound(t, c, kind, priv, addr)
						}
					}
				}
			}
		}
	}
}

// In a cache that is wrong nothing is found: neither what is wrong there, nor what is right.
func TestLookupInWrongCaches(t *testing.T) {
	for _, c := range wrongCaches() {
		for _, s := range c.Slots {
			wantNotFound(t, c, s.Kind, s.Priv, s.Page<<12)
		}
		wantNotFound(t, c, 1, 0, 0)
	}
	for _, c := range someWrongCaches() {
		for _, s := range c.Slots {
			for _, f := range allFor {
				wantNotFound(t, c, f.kind, f.priv, s.Page<<12+1)
			}
		}
	}
}

func TestKeepByHand(t *testing.T) {
	kept := func(place int, s impl.Slot) impl.Cache { return withSlot(emptyCache(), place, s) }
	none := emptyCache()
	wantKeep(t, none, 2, 1, 0x5123, 0x80007fff, kept(2, impl.Slot{Used: true, Kind: 2, Priv: 1, Page: 5, Frame: 0x80007}))
	wantKeep(t, none, 1, 0, 0, 0, kept(5, impl.Slot{Used: true, Kind: 1}))
	wantKeep(t, none, 1, 0, 4095, 4095, kept(5, impl.Slot{Used: true, Kind: 1}))
	wantKeep(t, none, 1, 0, 4096, 4096, kept(6, impl.Slot{Used: true, Kind: 1, Page: 1, Frame: 1}))
	wantKeep(t, none, 1, 1, 0, 4096, kept(8, impl.Slot{Used: true, Kind: 1, Priv: 1, Frame: 1}))
	wantKeep(t, none, 2, 0, 4096, 0, kept(11, impl.Slot{Used: true, Kind: 2, Page: 1}))
	wantKeep(t, none, 3, 0, 0, allOnes, kept(15, impl.Slot{Used: true, Kind: 3, Frame: 1<<52 - 1}))
	wantKeep(t, none, 3, 1, allOnes, 0, kept(1, impl.Slot{Used: true, Kind: 3, Priv: 1, Page: 1<<52 - 1}))
	wantKeep(t, none, 3, 0, allOnes, allOnes, kept(14, impl.Slot{Used: true, Kind: 3, Page: 1<<52 - 1, Frame: 1<<52 - 1}))
	wantKeep(t, none, 2, 3, 0x5123, 0x80007fff, impl.Cache{})
	wantKeep(t, none, 0, 1, 0x5123, 0x80007fff, impl.Cache{})
	wantKeep(t, impl.Cache{}, 2, 1, 0x5123, 0x80007fff, impl.Cache{})
}

// Promise 10: what is kept is found, for its kind and privilege alone; what was at its place is not, and all else is as it was.
func TestKeepOfMany(t *testing.T) {
	for n, c := range rightCaches() {
		for k, f := range allFor {
			for _, addr := range append(pagesOf(c)[:12], cacheAddrs...) {
				for _, to := range []uint64{0, 4095, 4096, allOnes, uint64(n*k) << 30} {
					wantKeep(t, c, f.kind, f.priv, addr, to, keptIn(c, f, addr, to))
				}
				out, want := impl.Keep(c, f.kind, f.priv, addr, 0x80007fff), keptIn(c, f, addr, 0x80007fff)
				for _, g := range allFor {
					wantFound(t, out, want, g, addr)
				}
				for _, s := range c.Slots {
					wantFound(t, out, want, keptFor{s.Kind, s.Priv}, s.Page<<12)
				}
			}
		}
	}
}

func TestFoundBehindKeep(t *testing.T) {
	for n, c := range rightCaches() {
		for k, f := range allFor {
			addr := cacheAddrs[(n+5*k)%len(cacheAddrs)]
			out := impl.Keep(c, f.kind, f.priv, addr, 0x80007fff)
			wantLookup(t, out, f.kind, f.priv, addr, 0x80007000+addr%4096, true)
			wantSameFound(t, out, keptIn(c, f, addr, 0x80007fff))
		}
	}
}

// A place that is free, and one that is Used: by the same page, and by what is unlike it in one thing or in several.
func TestKeepAtAPlaceThatIsUsed(t *testing.T) {
	for place := range 16 {
		for _, f := range allFor {
			for _, g := range allFor {
				for _, turn := range someTurns {
					was, is := slotFor(place, g, turn, 3), slotFor(place, f, 2, 4)
					for _, c := range []impl.Cache{emptyCache(), fullCache(place)} {
						c = withSlot(c, place, was)
						wantKeep(t, c, f.kind, f.priv, is.Page<<12+9, is.Frame<<12+8, withSlot(c, place, is))
						out := impl.Keep(c, f.kind, f.priv, is.Page<<12+9, is.Frame<<12+8)
						wantLookup(t, out, f.kind, f.priv, is.Page<<12, 4<<12, true)
						if g != f || was.Page != is.Page {
							wantNotFound(t, out, g.kind, g.priv, was.Page<<12)
						}
					}
				}
			}
		}
	}
}

// What is kept again is as it was; what is kept with another frame has that one.
func TestKeepAgain(t *testing.T) {
	for _, c := range rightCaches() {
		for _, f := range allFor {
			for _, addr := range cacheAddrs {
				once := impl.Keep(c, f.kind, f.priv, addr, 0x5000)
				wantKeep(t, once, f.kind, f.priv, addr^0xfff, 0x5fff, once)
				wantKeep(t, once, f.kind, f.priv, addr, 0x6000, impl.Keep(c, f.kind, f.priv, addr, 0x6000))
				wantLookup(t, impl.Keep(once, f.kind, f.priv, addr, 0), f.kind, f.priv, addr, addr%4096, true)
			}
		}
	}
}

// All six of one page are kept side by side.
func TestKeepOfOnePageForAll(t *testing.T) {
	for _, addr := range cacheAddrs {
		c := impl.NewCache()
		for k, f := range allFor {
			c = impl.Keep(c, f.kind, f.priv, addr, uint64(k)<<12)
		}
		for k, f := range allFor {
			wantLookup(t, c, f.kind, f.priv, addr, uint64(k)<<12+addr%4096, true)
		}
	}
}

func TestKeepOfNoKindOrPrivilege(t *testing.T) {
	for _, c := range []impl.Cache{emptyCache(), fullCache(0), halfCache(1), onePageCache(5)} {
		for _, addr := range []uint64{0, 4095, 4096, 0x5123, allOnes} {
			for _, to := range []uint64{0, 4096, allOnes} {
				for _, kind := range noKinds {
					for _, priv := range append(slices.Clone(keptPrivs), noKeptPrivs...) {
						wantKeep(t, c, kind, priv, addr, to, impl.Cache{})
					}
				}
				for _, kind := range kinds {
					for _, priv := range noKeptPrivs {
						wantKeep(t, c, kind, priv, addr, to, impl.Cache{})
					}
				}
			}
		}
	}
}

// Not even where the slot that is wrong would be gone then.
func TestKeepInWrongCaches(t *testing.T) {
	for _, c := range wrongCaches() {
		for k, f := range allFor {
			wantKeep(t, c, f.kind, f.priv, uint64(k*5)<<12, 0x80007000, impl.Cache{})
		}
		wantKeep(t, c, 0, 3, 0, 0, impl.Cache{})
	}
	for _, c := range someWrongCaches() {
		for place := range 16 {
			for _, f := range allFor {
				wantKeep(t, c, f.kind, f.priv, slotFor(place, f, 2, 0).Page<<12, allOnes, impl.Cache{})
			}
		}
	}
}

func TestDropByHand(t *testing.T) {
	five := impl.Slot{Used: true, Kind: 2, Priv: 1, Page: 5, Frame: 0x80007}
	c := withSlot(emptyCache(), 2, five)
	for _, addr := range []uint64{0x5000, 0x5001, 0x5123, 0x5ffe, 0x5fff} {
		wantDrop(t, c, addr, false, emptyCache())
	}
	for _, addr := range []uint64{0, 0x4fff, 0x6000, 0x15000, 0x2000, 0x5, 0x1000000000005000, allOnes} {
		wantDrop(t, c, addr, false, c)
		wantDrop(t, c, addr, true, emptyCache())
	}
	for place, s := range map[int]impl.Slot{10: {Used: true, Kind: 1, Page: 5}, 4: {Used: true, Kind: 3, Page: 5, Frame: 1}, 13: {Used: true, Kind: 1, Priv: 1, Page: 5, Frame: 2}} {
		wantDrop(t, withSlot(c, place, s), 0x5800, false, emptyCache())
	}
	like := withSlot(c, 15, impl.Slot{Used: true, Kind: 2, Page: 21, Frame: 7})
	wantDrop(t, like, 0x5000, false, withSlot(like, 2, impl.Slot{}))
	wantDrop(t, like, 21<<12, false, c)
	zero := withSlot(emptyCache(), 5, impl.Slot{Used: true, Kind: 1})
	wantDrop(t, zero, 0, false, emptyCache())
	wantDrop(t, zero, 4095, false, emptyCache())
	wantDrop(t, zero, 4096, false, zero)
	last := withSlot(emptyCache(), 1, impl.Slot{Used: true, Kind: 3, Priv: 1, Page: 1<<52 - 1, Frame: 1})
	wantDrop(t, last, allOnes, false, emptyCache())
	wantDrop(t, last, allOnes-4095, false, emptyCache())
	wantDrop(t, last, allOnes-4096, false, last)
	wantDrop(t, impl.Cache{}, 0, false, impl.Cache{})
	wantDrop(t, impl.Cache{}, 0, true, impl.Cache{})
}

// Promise 10: what is dropped is not found, what is kept for another page is; with all, nothing is.
func TestDropOfMany(t *testing.T) {
	for _, c := range rightCaches() {
		for _, addr := range append(pagesOf(c), cacheAddrs...) {
			for _, all := range []bool{false, true} {
				wantDrop(t, c, addr, all, droppedOf(c, addr, all))
				wantDrop(t, c, addr^0xfff, all, droppedOf(c, addr, all))
			}
			for _, f := range allFor {
				wantNotFound(t, impl.Drop(c, addr, false), f.kind, f.priv, addr)
				wantNotFound(t, impl.Drop(c, addr, true), f.kind, f.priv, addr)
			}
		}
	}
}

func TestFoundBehindDrop(t *testing.T) {
	for _, c := range rightCaches() {
		for _, s := range c.Slots {
			addr := s.Page << 12
			wantSameFound(t, impl.Drop(c, addr+4095, false), droppedOf(c, addr, false))
			for _, other := range c.Slots {
				if other.Used {
					is := other.Page != s.Page
					want := uint64(0)
					if is {
						want = other.Frame<<12 + 77
					}
					wantLookup(t, impl.Drop(c, addr, false), other.Kind, other.Priv, other.Page<<12+77, want, is)
					wantNotFound(t, impl.Drop(c, addr, true), other.Kind, other.Priv, other.Page<<12+77)
				}
			}
		}
	}
}

// A page that every kind and privilege has kept goes as a whole, each slot of it with every field; a page like it modulo 16 stays.
func TestDropOfAPageThatAllKeep(t *testing.T) {
	for _, page := range []uint64{0, 1, 5, 15, 16, 0x1234567, beyondPages - 1} {
		c := onePageCache(page)
		out := impl.Drop(c, page<<12+5, false)
		gone := 0
		for place, s := range out.Slots {
			if c.Slots[place].Page == page {
				gone++
				if s != (impl.Slot{}) {
					t.Fatalf("slot %d is %v", place, s)
				}
			} else if s != c.Slots[place] {
				t.Fatalf("slot %d is %v, was %v", place, s, c.Slots[place])
			}
		}
		if gone != 6 {
			t.Fatalf("%d slots of the page", gone)
		}
		for n := 4; n < 52; n++ {
			wantDrop(t, c, (page^1<<n)<<12, false, droppedOf(c, (page^1<<n)<<12, false))
			six := droppedOf(c, (page^16)<<12, false)
			if n > 4 {
				wantDrop(t, six, (page^1<<n)<<12, false, six)
			}
		}
	}
}

// Each of the kinds and privileges alone is dropped with its page.
func TestDropOfEachAlone(t *testing.T) {
	for place := range 16 {
		for _, f := range allFor {
			for _, turn := range someTurns {
				for _, frame := range someFrames {
					s := slotFor(place, f, turn, frame)
					c := withSlot(emptyCache(), place, s)
					wantDrop(t, c, s.Page<<12, false, emptyCache())
					wantDrop(t, c, s.Page<<12+4095, false, emptyCache())
					wantDrop(t, c, s.Page<<12-1, false, c)
					wantDrop(t, c, s.Page<<12+4096, false, c)
					wantDrop(t, c, (s.Page+16)<<12, false, c)
					wantDrop(t, c, (s.Page-16)<<12, false, c)
					wantDrop(t, c, s.Page<<12+8192, true, emptyCache())
				}
			}
		}
	}
}

func TestDropInWrongCaches(t *testing.T) {
	for _, c := range wrongCaches() {
		for _, all := range []bool{false, true} {
			for _, addr := range []uint64{0, 0x5123, 32 << 12, allOnes} {
				wantDrop(t, c, addr, all, impl.Cache{})
			}
		}
	}
	for _, c := range someWrongCaches() {
		for _, s := range c.Slots {
			wantDrop(t, c, s.Page<<12, false, impl.Cache{})
			wantDrop(t, c, s.Page<<12, true, impl.Cache{})
		}
	}
}

// keptPage is what Keep was told to keep.
type keptPage struct {
	f    keptFor
	page uint64
}

// keptList tells, without a look at slots, what is kept: by place the last that was, and by that its frame.
type keptList struct {
	last   map[uint64]keptPage
	frames map[keptPage]uint64
}

func (l keptList) keep(x keptPage, frame uint64) {
	l.last[(x.page+shifts[x.f])%16] = x
	l.frames[x] = frame
}

func (l keptList) drop(page uint64) {
	for place, x := range l.last {
		if x.page == page {
			delete(l.last, place)
		}
	}
}

func (l keptList) find(x keptPage) (uint64, bool) {
	if l.last[(x.page+shifts[x.f])%16] != x {
		return 0, false
	}
	return l.frames[x], true
}

// somePages has pages of all sorts, some of which are like others modulo 16 or share their places.
func somePages(d *dice) []uint64 {
	pages := []uint64{d.below(beyondPages), d.below(beyondPages), 0, beyondPages - 1}
	for k := range 4 {
		pages = append(pages, pages[k]^16, (pages[k]+5)%beyondPages, (pages[k]+3)%beyondPages)
	}
	return pages
}

// keptOrDropped does one thing at random to a cache and to what is told of it.
func keptOrDropped(d *dice, c impl.Cache, l keptList, pages []uint64) impl.Cache {
	page, low := pages[d.below(uint64(len(pages)))], d.below(4096)
	switch n := d.below(20); {
	case n == 0:
		clear(l.last)
		return impl.Drop(c, page<<12+low, true)
	case n < 5:
		l.drop(page)
		return impl.Drop(c, page<<12+low, false)
	}
	f, frame := allFor[d.below(6)], d.below(beyondPages)
	l.keep(keptPage{f, page}, frame)
	return impl.Keep(c, f.kind, f.priv, page<<12+low, frame<<12+d.below(4096))
}

// Promise 10, through keeps and drops in any order.
func TestMixedCaches(t *testing.T) {
	d, seen := dice(0x13198a2e03707344), map[bool]int{}
	for range 60 {
		c, l, pages := impl.NewCache(), keptList{map[uint64]keptPage{}, map[keptPage]uint64{}}, somePages(&d)
		for range 200 {
			c = keptOrDropped(&d, c, l, pages)
			if !impl.CacheOk(c) {
				t.Fatalf("not CacheOk: %v", c)
			}
			for _, page := range pages {
				f, low := allFor[d.below(6)], d.below(4096)
				frame, is := l.find(keptPage{f, page})
				want := uint64(0)
				if is {
					want = frame<<12 + low
				}
				wantLookup(t, c, f.kind, f.priv, page<<12+low, want, is)
				seen[is]++
			}
		}
	}
	if seen[true] < 1000 || seen[false] < 1000 {
		t.Errorf("found and not: %v", seen)
	}
}

// Promise 15: the answers of two calls share nothing, nor does what is answered with what it was made of.
func TestCachesShareNothing(t *testing.T) {
	base := fullCache(2)
	was := slices.Clone(base.Slots)
	answers := []impl.Cache{
		impl.Keep(base, 1, 0, 0, 0), impl.Keep(base, 1, 0, 0, 0), impl.Drop(base, 0, false), impl.Drop(base, 0, false),
		impl.Drop(base, base.Slots[3].Page<<12, false), impl.Drop(base, 0, true), impl.Drop(base, 0, true), impl.NewCache(), base,
	}
	var before [][]impl.Slot
	for _, c := range answers {
		before = append(before, slices.Clone(c.Slots))
	}
	for k, c := range answers[:len(answers)-1] {
		turnSlots(c.Slots)
		for n := k + 1; n < len(answers); n++ {
			if !slices.Equal(answers[n].Slots, before[n]) {
				t.Fatalf("answers %d and %d share memory", k, n)
			}
		}
	}
	if !slices.Equal(base.Slots, was) {
		t.Error("the argument was written into")
	}
}

// Promise 15: no argument makes one of them panic.
func TestCachesAnswerAtEveryArgument(t *testing.T) {
	all := append(rightCaches(), wrongCaches()...)
	someKinds := append(slices.Clone(kinds), noKinds...)
	somePrivs := append(slices.Clone(keptPrivs), noKeptPrivs...)
	addrs := append(slices.Clone(cacheAddrs), edgeNumbers...)
	for k := range 200000 {
		c, kind, priv := all[k*7%len(all)], someKinds[k*5%len(someKinds)], somePrivs[k*3%len(somePrivs)]
		addr, to := addrs[k%len(addrs)], addrs[k*11%len(addrs)]
		right := cacheRight(c)
		_, keeps := shifts[keptFor{kind, priv}]
		if _, ok := impl.Lookup(c, kind, priv, addr); ok && !(right && keeps) {
			t.Fatalf("Lookup in %v of kind %d at %d", c, kind, priv)
		}
		if got := impl.CacheOk(impl.Keep(c, kind, priv, addr, to)); got != (right && keeps) {
			t.Fatalf("Keep in %v of kind %d at %d: %v", c, kind, priv, got)
		}
		if got := impl.CacheOk(impl.Drop(c, addr, k%2 == 0)); got != right {
			t.Fatalf("Drop in %v of %#x: %v", c, addr, got)
		}
	}
}
