package memory_test

import (
	"math"
	"math/rand"
	"slices"
	"testing"

	"strobe/api"
	"strobe/memory"
)

// P9.5: the example 6 of the chapter.
func TestPackingExample(t *testing.T) {
	data, e := memory.Pack([]int{5, 3, 200})
	sameList(t, "Pack", data, e, []byte{10, 3, 138, 3}, api.OK)
	codes, e := memory.Unpack([]byte{10, 3, 138, 3})
	sameList(t, "Unpack", codes, e, []int{5, 3, 200}, api.OK)
	data, e = memory.PackWords([]uint16{7, 7, 300})
	sameList(t, "PackWords", data, e, []byte{2, 7, 0, 1, 44, 1}, api.OK)
	words, e := memory.UnpackWords([]byte{2, 7, 0, 1, 44, 1})
	sameList(t, "UnpackWords", words, e, []uint16{7, 7, 300}, api.OK)
}

// P9.5: all differences of codes, among them those next to one and two bytes.
func TestDifferences(t *testing.T) {
	for d := -4095; d <= 4095; d++ {
		codes := []int{max(0, -d), max(0, d)}
		unchanged(t, codes, func(codes []int) {
			data, e := memory.Pack(codes)
			sameList(t, "Pack", data, e, referencePack(codes), api.OK)
			again, e := memory.Unpack(data)
			sameList(t, "Unpack", again, e, codes, api.OK)
		})
	}
	for _, row := range []struct {
		codes []int
		data  []byte
	}{
		{nil, nil}, {[]int{0}, []byte{0}}, {[]int{63}, []byte{126}}, {[]int{64}, []byte{128, 1}}, {[]int{64, 0}, []byte{128, 1, 127}}, {[]int{65, 0}, []byte{130, 1, 129, 1}}, {[]int{4095}, []byte{254, 63}}, {[]int{4095, 0}, []byte{254, 63, 253, 63}}, {[]int{4095, 4095, 4094}, []byte{254, 63, 0, 1}},
	} {
		data, e := memory.Pack(row.codes)
		sameList(t, "Pack", data, e, row.data, api.OK)
		codes, e := memory.Unpack(row.data)
		sameList(t, "Unpack", codes, e, row.codes, api.OK)
	}
}

// P9.5: the errors of codes, in their order.
func TestPackErrors(t *testing.T) {
	for _, row := range []struct {
		codes []int
		e     api.Errno
	}{
		{[]int{-1}, api.ErrRange}, {[]int{4096}, api.ErrRange}, {[]int{0, 4095, 4096}, api.ErrRange}, {[]int{5, -1, 5}, api.ErrRange}, {[]int{math.MinInt}, api.ErrRange}, {[]int{math.MaxInt}, api.ErrRange}, {make([]int, 4097), api.ErrMany}, {append(make([]int, 4096), -1), api.ErrMany}, {slices.Repeat([]int{-1}, 5000), api.ErrMany},
		{append(make([]int, 4095), -1), api.ErrRange},
	} {
		data, e := memory.Pack(row.codes)
		sameList(t, "Pack", data, e, nil, row.e)
	}
	data, e := memory.Pack(make([]int, 4096))
	sameList(t, "Pack", data, e, make([]byte, 4096), api.OK)
}

// P9.5: all data of up to two bytes, and some of up to four.
func TestUnpackAll(t *testing.T) {
	check := func(data []byte) {
		t.Helper()
		wanted, wantedError := referenceUnpack(data)
		unchanged(t, data, func(data []byte) {
			codes, e := memory.Unpack(data)
			sameList(t, "Unpack", codes, e, wanted, wantedError)
		})
	}
	bytes := []byte{0, 1, 2, 3, 63, 64, 126, 127, 128, 129, 130, 253, 254, 255}
	for a := range 256 {
		check([]byte{byte(a)})
	}
	for _, a := range bytes {
		for _, b := range bytes {
			check([]byte{a, b})
			for _, c := range bytes {
				check([]byte{a, b, c})
			}
			check([]byte{a, 31, b, 63})
		}
	}
	check([]byte{255, 127, 255, 127})
}

// P9.5: random data, many of them with an error.
func TestUnpackRandom(t *testing.T) {
	r := source(40)
	found := map[api.Errno]int{}
	for range 1000 {
		codes := anyCodes(r, r.Intn(12))
		data := referencePack(codes)
		switch at := r.Intn(len(data) + 1); {
		case r.Intn(4) == 0:
			data = data[:at]
		case at < len(data):
			data[at] = byte(r.Intn(256))
		}
		wanted, wantedError := referenceUnpack(data)
		codes, e := memory.Unpack(data)
		sameList(t, "Unpack", codes, e, wanted, wantedError)
		found[e]++
	}
	decided(t, "Unpack", found, api.OK, api.ErrTorn, api.ErrForm, api.ErrRange)
}

// anyCodes returns n codes with small and great differences.
func anyCodes(r *rand.Rand, n int) []int {
	codes := make([]int, n)
	code := r.Intn(4096)
	for i := range codes {
		if code += r.Intn(200) - 100; r.Intn(5) == 0 || code < 0 || code > 4095 {
			code = r.Intn(4096)
		}
		codes[i] = code
	}
	return codes
}

// P9.5: the errors of packed codes, in their order.
func TestUnpackErrors(t *testing.T) {
	many := make([]byte, 4096)
	for _, row := range []struct {
		what string
		data []byte
		e    api.Errno
	}{
		{"too long", make([]byte, 8193), api.ErrLong}, {"too long, torn", slices.Repeat([]byte{255}, 8193), api.ErrLong}, {"too many", make([]byte, 8192), api.ErrMany}, {"one too many", make([]byte, 4097), api.ErrMany},
		{"torn", []byte{128}, api.ErrTorn}, {"torn after codes", []byte{0, 0, 255}, api.ErrTorn}, {"one too many, torn", append(many, 128), api.ErrTorn}, {"one too many, with a wrong byte", append(many, 128, 0), api.ErrForm}, {"one too many, negative", append(many, 1), api.ErrRange}, {"one too many, with two bytes", append(many, 128, 1), api.ErrMany},
		{"zero", []byte{128, 0}, api.ErrForm}, {"the greatest first byte and zero", []byte{255, 0}, api.ErrForm}, {"a second byte that is first", []byte{128, 128}, api.ErrForm}, {"the greatest bytes", []byte{255, 255}, api.ErrForm},
		{"negative", []byte{1}, api.ErrRange}, {"4096", []byte{128, 64}, api.ErrRange}, {"4095 and one more", []byte{254, 63, 2}, api.ErrRange}, {"4095 and -4096", []byte{254, 63, 255, 63}, api.ErrRange}, {"the greatest number", []byte{254, 127}, api.ErrRange}, {"the least number", []byte{255, 127}, api.ErrRange},
		{"negative, then torn", []byte{1, 128}, api.ErrRange}, {"zero, then negative", []byte{128, 0, 1}, api.ErrForm}, {"in order, then negative", []byte{2, 1, 1}, api.ErrRange},
	} {
		codes, e := memory.Unpack(row.data)
		sameList(t, "Unpack: "+row.what, codes, e, nil, row.e)
	}
	codes, e := memory.Unpack(many)
	sameList(t, "Unpack", codes, e, make([]int, 4096), api.OK)
	codes, e = memory.Unpack(append([]byte{128, 1}, many[1:]...))
	sameList(t, "Unpack", codes, e, slices.Repeat([]int{64}, 4096), api.OK)
	// As many bytes as packed codes may have.
	full := slices.Repeat([]int{4095, 0}, 2048)
	data, e := memory.Pack(full)
	same(t, "the number of bytes", len(data), e, 8192, api.OK)
	codes, e = memory.Unpack(data)
	sameList(t, "Unpack", codes, e, full, api.OK)
}

// P9.5: runs of any length, up to the greatest number of words.
func TestPackWords(t *testing.T) {
	for _, n := range []int{0, 1, 2, 254, 255, 256, 509, 510, 511, 765, 4095, 4096} {
		for _, word := range []uint16{0, 1, 255, 256, 257, 32768, 65535} {
			words := append(slices.Repeat([]uint16{word}, n), 9)[:min(n+1, 4096)]
			unchanged(t, words, func(words []uint16) {
				data, e := memory.PackWords(words)
				sameList(t, "PackWords", data, e, referencePackWords(words), api.OK)
				again, e := memory.UnpackWords(data)
				sameList(t, "UnpackWords", again, e, words, api.OK)
			})
		}
	}
	for _, row := range []struct {
		words []uint16
		data  []byte
	}{
		{nil, nil}, {[]uint16{65535}, []byte{1, 255, 255}}, {slices.Repeat([]uint16{256}, 255), []byte{255, 0, 1}}, {slices.Repeat([]uint16{256}, 256), []byte{255, 0, 1, 1, 0, 1}}, {[]uint16{1, 2, 1}, []byte{1, 1, 0, 1, 2, 0, 1, 1, 0}}, {slices.Repeat([]uint16{0}, 600), []byte{255, 0, 0, 255, 0, 0, 90, 0, 0}},
	} {
		data, e := memory.PackWords(row.words)
		sameList(t, "PackWords", data, e, row.data, api.OK)
		words, e := memory.UnpackWords(row.data)
		sameList(t, "UnpackWords", words, e, row.words, api.OK)
	}
	for _, n := range []int{4097, 10000} {
		data, e := memory.PackWords(make([]uint16, n))
		sameList(t, "PackWords", data, e, nil, api.ErrMany)
	}
}

// P9.5: the errors of packed words, in their order.
func TestUnpackWordsErrors(t *testing.T) {
	full := slices.Repeat([]byte{255, 7, 0}, 16)
	for _, row := range []struct {
		what string
		data []byte
		e    api.Errno
	}{
		{"too long", make([]byte, 12289), api.ErrLong}, {"too long, whole", make([]byte, 12291), api.ErrLong}, {"as long as possible", make([]byte, 12288), api.ErrZero}, {"torn", []byte{1}, api.ErrTorn}, {"torn in the middle", []byte{1, 1, 0, 1}, api.ErrTorn}, {"torn with two bytes", []byte{0, 1}, api.ErrTorn},
		{"no words", []byte{0, 1, 1}, api.ErrZero}, {"no words after some", []byte{1, 1, 1, 0, 1, 1}, api.ErrZero}, {"no words that continue", []byte{1, 0, 0, 0, 0, 0}, api.ErrZero}, {"continued", []byte{1, 1, 1, 1, 1, 1}, api.ErrForm}, {"continued zeros", []byte{1, 0, 0, 1, 0, 0}, api.ErrForm}, {"continued by the longest run", []byte{254, 1, 1, 255, 1, 1}, api.ErrForm},
		{"continued after a full run", []byte{255, 1, 1, 1, 1, 1, 1, 1, 1}, api.ErrForm}, {"continued, then no words", []byte{1, 1, 1, 1, 1, 1, 0, 1, 1}, api.ErrForm}, {"no words, then continued", []byte{0, 1, 1, 1, 1, 1, 1, 1, 1}, api.ErrZero},
		{"one too many", append(slices.Clone(full), 17, 7, 0), api.ErrMany}, {"too many", slices.Repeat([]byte{255, 7, 0}, 17), api.ErrMany}, {"too many other words", append(slices.Clone(full), 255, 8, 0), api.ErrMany}, {"no words after the last", append(slices.Clone(full), 16, 7, 0, 0, 7, 0), api.ErrZero}, {"continued after the last", append(slices.Clone(full), 16, 7, 0, 1, 7, 0), api.ErrForm}, {"others after the last", append(slices.Clone(full), 16, 7, 0, 1, 8, 0), api.ErrMany},
		{"too many, then no words", append(slices.Clone(full), 17, 7, 0, 0, 7, 0), api.ErrMany},
	} {
		unchanged(t, row.data, func(data []byte) {
			words, e := memory.UnpackWords(data)
			sameList(t, "UnpackWords: "+row.what, words, e, nil, row.e)
		})
	}
	words, e := memory.UnpackWords(append(slices.Clone(full), 16, 7, 0))
	sameList(t, "UnpackWords", words, e, slices.Repeat([]uint16{7}, 4096), api.OK)
	words, e = memory.UnpackWords([]byte{1, 1, 1, 1, 1, 0, 1, 0, 1, 1, 1, 1})
	sameList(t, "UnpackWords", words, e, []uint16{257, 1, 256, 257}, api.OK)
	// As many bytes as packed words may have.
	different := make([]uint16, 4096)
	for i := range different {
		different[i] = uint16(i)
	}
	data, e := memory.PackWords(different)
	same(t, "the number of bytes", len(data), e, 12288, api.OK)
	words, e = memory.UnpackWords(data)
	sameList(t, "UnpackWords", words, e, different, api.OK)
}
