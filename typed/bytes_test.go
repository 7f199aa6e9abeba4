package typed_test

// 15.3, and of 15.8 what is said of Put and Take.

import (
	"encoding/binary"
	"encoding/hex"
	"math"
	"math/rand"
	"slices"
	"testing"

	"cameo/api"
	"cameo/typed"
)

// 15.3
func TestSize(t *testing.T) {
	for i, want := range []int{1, 1, 1, 2, 2, 4, 4, 4, 8} {
		if n := typed.Size(i + 1); n != want {
			t.Errorf("15.3: Size(%d): %d", i+1, n)
		}
	}
	for _, kind := range noKinds() {
		if n := typed.Size(kind); n != 0 {
			t.Errorf("15.3: Size(%d): %d", kind, n)
		}
	}
}

// written is numbers and their bytes, the highest first, as elements of a kind.
func written(kind int) map[float64]string {
	pow := math.Ldexp
	switch kind {
	case api.TInt8, api.TUint8:
		return map[float64]string{
			0: "00", 1: "01", 127: "7f", 128: "80", 200: "c8", 255: "ff", 256: "00", 257: "01", -1: "ff", -128: "80", -129: "7f", -255: "01", -256: "00",
			0.5: "00", -0.5: "00", 0.99: "00", -0.99: "00", 1.5: "01", -1.5: "ff", 2.5: "02", 127.9: "7f", 255.9: "ff", 4294967295: "ff", 4294967296: "00", 4294967297.5: "01", -4294967297: "ff",
			api.MaxSafe: "ff", -api.MaxSafe: "01", pow(1, 53): "00", pow(1, 53) + 2: "02", pow(255, 1): "fe", 1e300: "00", math.MaxFloat64: "00", pow(1, -1074): "00", endless: "00", -endless: "00", nan: "00",
		}
	case api.TUint8C:
		return map[float64]string{
			0: "00", 1: "01", 127: "7f", 128: "80", 254: "fe", 255: "ff", 256: "ff", 300: "ff", -1: "00", -300: "00", 1e300: "ff", -1e300: "00",
			0.5: "00", 1.5: "02", 2.5: "02", 3.5: "04", 253.5: "fe", 254.5: "fe", 255.5: "ff", -0.5: "00", 0.49999999999999994: "00", 0.5000000000000001: "01", 1.4999999999999998: "01", 2.5000000000000004: "03", 254.49999999999997: "fe", 254.50000000000003: "ff",
			pow(1, -1074): "00", -pow(1, -1074): "00", endless: "ff", -endless: "00", nan: "00",
		}
	case api.TInt16, api.TUint16:
		return map[float64]string{
			0: "0000", 1: "0001", 258: "0102", 32767: "7fff", 32768: "8000", 65535: "ffff", 65536: "0000", 65537: "0001", -1: "ffff", -2: "fffe", -32768: "8000", -32769: "7fff", -65536: "0000", -65537: "ffff",
			0.5: "0000", -0.5: "0000", 1.5: "0001", -1.5: "ffff", 32767.9: "7fff", 4294967295: "ffff", 4295032833: "0001", pow(1, 52) + 0.5: "0000", 1e300: "0000", endless: "0000", -endless: "0000", nan: "0000",
		}
	case api.TInt32, api.TUint32:
		return map[float64]string{
			0: "00000000", 1: "00000001", 16909060: "01020304", 2147483647: "7fffffff", 2147483648: "80000000", 4294967295: "ffffffff", 4294967296: "00000000", 4294967297: "00000001", -1: "ffffffff", -2147483648: "80000000", -2147483649: "7fffffff", -4294967296: "00000000", -4294967297: "ffffffff",
			0.5: "00000000", -0.5: "00000000", 1.5: "00000001", -1.5: "ffffffff", 2147483647.9: "7fffffff", -2147483648.9: "80000000", api.MaxSafe: "ffffffff", -api.MaxSafe: "00000001", pow(1, 53): "00000000", pow(1, 53) + 2: "00000002", pow(3, 52) + 4: "00000004", 1e300: "00000000", endless: "00000000", -endless: "00000000", nan: "00000000",
		}
	case api.TFloat32:
		return map[float64]string{
			0: "00000000", 1: "3f800000", -1: "bf800000", 2.5: "40200000", 0.1: "3dcccccd", -0.1: "bdcccccd", 16777216: "4b800000", 16777217: "4b800000", 16777219: "4b800002", endless: "7f800000", -endless: "ff800000", nan: "7fc00000",
			// As near to two: the even one. A little more, or less, and it is that one.
			1 + pow(1, -24): "3f800000", 1 + pow(3, -24): "3f800002", 1 + pow(1, -24) + pow(1, -52): "3f800001", 1 + pow(3, -24) - pow(1, -52): "3f800001", -1 - pow(1, -24): "bf800000", -1 - pow(3, -24): "bf800002",
			// The greatest one, and what becomes infinite.
			math.MaxFloat32: "7f7fffff", pow(1, 128) - pow(1, 103): "7f800000", pow(1, 128) - pow(1, 103) - pow(1, 75): "7f7fffff", pow(1, 128): "7f800000", 1e39: "7f800000", -1e39: "ff800000", -math.MaxFloat32: "ff7fffff", math.MaxFloat64: "7f800000",
			// Subnormal ones, and what is nearest to nought.
			pow(1, -126): "00800000", pow(1, -126) - pow(1, -149): "007fffff", pow(1, -126) - pow(1, -150): "00800000", pow(1, -126) - pow(3, -150): "007ffffe", pow(1, -149): "00000001", pow(3, -150): "00000002", pow(5, -150): "00000002", pow(7, -150): "00000004",
			pow(1, -150): "00000000", math.Nextafter(pow(1, -150), 1): "00000001", math.Nextafter(pow(1, -150), 0): "00000000", -pow(1, -150): "80000000", -pow(3, -151): "80000001", pow(1, -1074): "00000000", -pow(1, -1074): "80000000",
		}
	}
	return map[float64]string{
		0: "0000000000000000", 1: "3ff0000000000000", -1: "bff0000000000000", 2.5: "4004000000000000", 0.1: "3fb999999999999a", api.MaxSafe: "433fffffffffffff", math.MaxFloat64: "7fefffffffffffff", -math.MaxFloat64: "ffefffffffffffff",
		pow(1, -1074): "0000000000000001", -pow(1, -1074): "8000000000000001", pow(1, -1022): "0010000000000000", pow(1, -1022) - pow(1, -1074): "000fffffffffffff", endless: "7ff0000000000000", -endless: "fff0000000000000", nan: "7ff8000000000000",
	}
}

// backwards is the same bytes, the last first.
func backwards(l []byte) []byte {
	l = slices.Clone(l)
	slices.Reverse(l)
	return l
}

// puts holds what Put answers, both ways, against what it must; the highest byte stands first in want.
func puts(t *testing.T, kind int, x float64, want []byte) {
	t.Helper()
	big, e := typed.Put(kind, x, false)
	little, too := typed.Put(kind, x, true)
	if !slices.Equal(big, want) || !slices.Equal(little, backwards(want)) || e != api.OK || too != api.OK {
		t.Errorf("15.3: Put(%d, %v): % x and % x, %v, %v; want % x", kind, x, big, little, e, too, want)
	}
}

// takes holds what Take answers, both ways, against what it must; the highest byte stands first.
func takes(t *testing.T, kind int, l []byte, want float64) {
	t.Helper()
	big, e := typed.Take(kind, l, false)
	little, too := typed.Take(kind, backwards(l), true)
	if !sameNumber(big, want) || !sameNumber(little, want) || e != api.OK || too != api.OK {
		t.Errorf("15.3: Take(%d, % x): %v and %v, %v, %v; want %v", kind, l, big, little, e, too, want)
	}
}

// 15.3: numbers at each kind's edges.
func TestPut(t *testing.T) {
	for _, kind := range kinds() {
		for x, s := range written(kind) {
			want, err := hex.DecodeString(s)
			if err != nil {
				t.Fatal(err)
			}
			puts(t, kind, x, want)
		}
		zero := make([]byte, sizeOf(kind))
		if kind == api.TFloat32 || kind == api.TFloat64 {
			zero[0] = 0x80
		}
		puts(t, kind, below0, zero)
	}
	// Whichever it is, what is not a number has the same bytes.
	for _, bits := range []uint64{0x7FF0000000000001, 0x7FF7FFFFFFFFFFFF, 0x7FFFFFFFFFFFFFFF, 0xFFF8000000000000, 0xFFF0000000000001, 0xFFFFFFFFFFFFFFFF, 0x7FF8000000000001} {
		puts(t, api.TFloat32, math.Float64frombits(bits), []byte{0x7F, 0xC0, 0, 0})
		puts(t, api.TFloat64, math.Float64frombits(bits), []byte{0x7F, 0xF8, 0, 0, 0, 0, 0, 0})
		for _, kind := range kinds()[:7] {
			puts(t, kind, math.Float64frombits(bits), make([]byte, sizeOf(kind)))
		}
	}
}

// 15.3: every byte, and every two; four and eight at their edges and at random.
func TestTake(t *testing.T) {
	for n := range 1 << 8 {
		l := []byte{byte(n)}
		takes(t, api.TInt8, l, float64(int8(n)))
		takes(t, api.TUint8, l, float64(n))
		takes(t, api.TUint8C, l, float64(n))
	}
	for n := range 1 << 16 {
		l := binary.BigEndian.AppendUint16(nil, uint16(n))
		takes(t, api.TInt16, l, float64(int16(n)))
		takes(t, api.TUint16, l, float64(n))
	}
	r := rand.New(rand.NewSource(1))
	for n := range 20000 {
		four := r.Uint32()
		if n%4 == 0 {
			four = four & 0x80FFFFFF >> (n % 24) // subnormal ones and noughts among them
		}
		l := binary.BigEndian.AppendUint32(nil, four)
		takes(t, api.TInt32, l, float64(int32(four)))
		takes(t, api.TUint32, l, float64(four))
		takes(t, api.TFloat32, l, float64(math.Float32frombits(four)))
		eight := r.Uint64()
		takes(t, api.TFloat64, binary.BigEndian.AppendUint64(nil, eight), math.Float64frombits(eight))
	}
	for s, want := range map[string]float64{
		"00000000": 0, "80000000": below0, "7f800000": endless, "ff800000": -endless, "00000001": math.Ldexp(1, -149), "80000001": -math.Ldexp(1, -149), "007fffff": math.Ldexp(1<<23-1, -149), "7f7fffff": math.MaxFloat32,
		"7f800001": nan, "7fc00000": nan, "7fffffff": nan, "ff800001": nan, "ffffffff": nan, "ffc00000": nan,
	} {
		l, _ := hex.DecodeString(s)
		takes(t, api.TFloat32, l, want)
	}
	for s, want := range map[string]float64{
		"0000000000000000": 0, "8000000000000000": below0, "7ff0000000000000": endless, "fff0000000000000": -endless, "0000000000000001": math.Ldexp(1, -1074), "7fefffffffffffff": math.MaxFloat64,
		"7ff0000000000001": nan, "7ff8000000000000": nan, "fff0000000000001": nan, "ffffffffffffffff": nan, "fff8000000000000": nan,
	} {
		l, _ := hex.DecodeString(s)
		takes(t, api.TFloat64, l, want)
	}
}

// 15.3: what is no kind, or not as many bytes as it has.
func TestPutAndTakeRefuse(t *testing.T) {
	for _, little := range []bool{false, true} {
		for _, kind := range noKinds() {
			for _, x := range []float64{0, 1, nan, endless} {
				if l, e := typed.Put(kind, x, little); len(l) != 0 || e != api.ErrRange {
					t.Errorf("15.3: Put(%d): %v, %v", kind, l, e)
				}
			}
			for n := range 10 {
				if x, e := typed.Take(kind, make([]byte, n), little); x != 0 || e != api.ErrRange {
					t.Errorf("15.3: Take(%d): %v, %v", kind, x, e)
				}
			}
			if x, e := typed.Take(kind, nil, little); x != 0 || e != api.ErrRange {
				t.Errorf("15.3: Take(%d): %v, %v", kind, x, e)
			}
		}
		for _, kind := range kinds() {
			for _, n := range []int{0, 1, 2, 3, 4, 5, 6, 7, 8, 9, 16, 64, 1 << 20} {
				l := slices.Repeat([]byte{1}, n)
				if x, e := typed.Take(kind, l, little); n != sizeOf(kind) && (x != 0 || e != api.ErrRange) || n == sizeOf(kind) && (x == 0 || e != api.OK) {
					t.Errorf("15.3: Take(%d, %d bytes): %v, %v", kind, n, x, e)
				}
			}
		}
	}
}

// odd is a number that is hard for some kind: anything, or something near an edge.
func odd(r *rand.Rand) float64 {
	x := math.Float64frombits(r.Uint64())
	near := func(x float64) float64 {
		for range r.Intn(3) {
			x = math.Nextafter(x, float64(r.Intn(3)-1)*math.MaxFloat64)
		}
		return x
	}
	switch r.Intn(6) {
	case 0:
		return near(float64(r.Intn(1200)-400) / 4)
	case 1: // between two floats of 32 bits
		a := math.Float32frombits(r.Uint32() &^ (uint32(r.Intn(2)) * 0x7F000000))
		b := math.Nextafter32(a, math.MaxFloat32)
		return near(float64(a)/2 + float64(b)/2)
	case 2:
		return near(math.Ldexp(float64(r.Intn(5)-2), r.Intn(70)) + float64(r.Intn(5)-2)/2)
	case 3:
		return near(float64(r.Int63n(1<<54) - 1<<53))
	case 4:
		return []float64{0, below0, nan, endless, -endless, math.MaxFloat32, math.MaxFloat64, math.SmallestNonzeroFloat32, math.SmallestNonzeroFloat64}[r.Intn(9)]
	}
	return x
}

// 15.3: numbers at random against a second reading, which reckons with whole numbers of any size, and with the library's reader of texts.
func TestPutTwice(t *testing.T) {
	t.Parallel()
	r := rand.New(rand.NewSource(2))
	for range 60000 {
		x := odd(r)
		for _, kind := range kinds() {
			puts(t, kind, x, twinBytes(kind, x))
		}
	}
}

// 15.8: Put of Take is the bytes, but of a not a number; Take of Put is x, as the kind has it, and again that.
func TestThereAndBack(t *testing.T) {
	t.Parallel()
	r := rand.New(rand.NewSource(3))
	for n := range 60000 {
		for _, kind := range kinds() {
			l := make([]byte, sizeOf(kind))
			r.Read(l)
			little := n%2 == 0
			x, _ := typed.Take(kind, l, little)
			again, _ := typed.Put(kind, x, little)
			if x == x && !slices.Equal(again, l) {
				t.Fatalf("15.8: Put(%d) of Take(% x): % x", kind, l, again)
			}
			y := odd(r)
			had, _ := typed.Put(kind, y, little)
			z, _ := typed.Take(kind, had, little)
			if !sameNumber(z, twinNumber(kind, y)) {
				t.Fatalf("15.8: Take(%d) of Put(%v): %v", kind, y, z)
			}
			if again, _ := typed.Put(kind, z, little); !slices.Equal(again, had) {
				t.Fatalf("15.8: %d, %v: % x, then % x", kind, y, had, again)
			}
			if kind == api.TFloat64 && !sameNumber(z, y) {
				t.Fatalf("15.8: %v became %v", y, z)
			}
		}
	}
}
