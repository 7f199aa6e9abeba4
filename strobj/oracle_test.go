package strobj_test

// The layer read a second time, by other means, as ECMA-262 has it (10.4.3.1 to 10.4.3.5): the string is kept as it came, units are cut out of its bytes by hand, numbers are found by the library, and what may be defined is said once more; none of the package's functions is used, nor those of units, key and desc.

import (
	"slices"
	"strconv"
	"unicode/utf16"
	"unicode/utf8"

	"cameo/api"
	"cameo/heap"
	"cameo/strobj"
)

// twinUnits is the code units of a string, found by the first byte of each code point.
func twinUnits(s string) []uint16 {
	var l []uint16
	for i := 0; i < len(s); {
		switch b := s[i]; {
		case b < 0x80:
			l = append(l, uint16(b))
			i++
		case b < 0xE0:
			l = append(l, uint16(b&0x1F)<<6|uint16(s[i+1]&0x3F))
			i += 2
		case b < 0xF0:
			l = append(l, uint16(b&0x0F)<<12|uint16(s[i+1]&0x3F)<<6|uint16(s[i+2]&0x3F))
			i += 3
		default:
			c, _ := utf8.DecodeRuneInString(s[i:])
			first, second := utf16.EncodeRune(c)
			l = append(l, uint16(first), uint16(second))
			i += 4
		}
	}
	return l
}

// twinUnit is the string of one unit.
func twinUnit(u uint16) string {
	if u >= 0xD800 && u <= 0xDFFF {
		return string([]byte{0xED, 0x80 | byte(u>>6)&0x3F, 0x80 | byte(u)&0x3F})
	}
	return string(rune(u))
}

// twinString is the string of a row of units.
func twinString(l []uint16) string {
	s := ""
	for i := 0; i < len(l); i++ {
		if i+1 < len(l) {
			if c := utf16.DecodeRune(rune(l[i]), rune(l[i+1])); c != utf8.RuneError {
				s += string(c)
				i++
				continue
			}
		}
		s += twinUnit(l[i])
	}
	return s
}

// twinValid tells whether bytes are a string: the units that they would have are written as these bytes.
func twinValid(s string) bool {
	if len(s) > 1<<20 {
		return false
	}
	var l []uint16
	for i := 0; i < len(s); {
		c, n := utf8.DecodeRuneInString(s[i:])
		if c == utf8.RuneError && n == 1 {
			if len(s) < i+3 || s[i] != 0xED {
				return false
			}
			c, n = 0xD000|rune(s[i+1]&0x3F)<<6|rune(s[i+2]&0x3F), 3
		}
		if c > 0xFFFF {
			first, second := utf16.EncodeRune(c)
			l = append(l, uint16(first), uint16(second))
		} else {
			l = append(l, uint16(c))
		}
		i += n
	}
	return twinString(l) == s
}

// twinText is what a String object has, by the second reading.
type twinText struct{ s string }

// twin is the methods of a String object, by the second reading.
type twin struct{ heap.Ordinary }

// numbered is the number of a key that is a whole number; -1 of any other one.
func numbered(k api.Key) int {
	n, err := strconv.Atoi(k.Str)
	if k.Sym != 0 || err != nil || n < 0 || strconv.Itoa(n) != k.Str {
		return -1
	}
	return n
}

// unit is StringGetOwnProperty.
func (twin) unit(h *heap.Heap, o int, k api.Key) (string, bool) {
	l := twinUnits(h.Own(o).(*twinText).s)
	if i := numbered(k); i >= 0 && i < len(l) {
		return twinUnit(l[i]), true
	}
	return "", false
}

func (m twin) GetOwnProperty(h *heap.Heap, o int, k api.Key) (api.Desc, bool, error) {
	s, _ := h.Shape(o)
	if d := lying(s, k); d != (api.Desc{}) {
		return d, true, nil
	}
	if c, ok := m.unit(h, o, k); ok {
		return data(text(c), "e"), true, nil
	}
	return api.Desc{}, false, nil
}

func (m twin) DefineOwnProperty(h *heap.Heap, o int, k api.Key, d api.Desc) (bool, error) {
	c, ok := m.unit(h, o, k)
	if !ok {
		return m.Ordinary.DefineOwnProperty(h, o, k, d)
	}
	return fits(c, d), nil
}

// fits tells whether a unit may be defined so: each field that is there must be what it is.
func fits(unit string, d api.Desc) bool {
	none := api.Value{}
	return d.Writable != api.Yes && d.Enumerable != api.No && d.Configurable != api.Yes && d.Get == none && d.Set == none && (d.Value == none || d.Value == text(unit))
}

func (twin) OwnPropertyKeys(h *heap.Heap, o int) ([]api.Key, error) {
	var keys, names, symbols []api.Key
	for i := range twinUnits(h.Own(o).(*twinText).s) {
		keys = append(keys, at(i))
	}
	var more []int
	s, _ := h.Shape(o)
	for _, p := range s.Props {
		switch n := numbered(p.Key); {
		case p.Key.Sym != 0:
			symbols = append(symbols, p.Key)
		case n >= 0 && n < 1<<32-1:
			more = append(more, n)
		default:
			names = append(names, p.Key)
		}
	}
	slices.Sort(more)
	for _, n := range more {
		keys = append(keys, at(n))
	}
	return slices.Concat(keys, names, symbols), nil
}

// reading is the layer, by the package or by the second reading.
type reading struct {
	make func(h *heap.Heap, proto api.Value, s string) (int, error)
	data func(h *heap.Heap, o int) (string, api.Errno)
}

func byPackage() reading { return reading{strobj.New, strobj.Data} }

func byTwins() reading { return reading{twinNew, twinData} }

func twinNew(h *heap.Heap, proto api.Value, s string) (int, error) {
	if wrong := h.Check(proto); wrong != api.OK {
		return 0, wrong
	}
	if proto.Kind != api.KNull && proto.Kind != api.KRef || !twinValid(s) {
		return 0, api.ErrValue
	}
	o, err := h.Add(api.CString, proto, twin{}, &twinText{s})
	if err == nil {
		heap.Ordinary{}.DefineOwnProperty(h, o, str("length"), data(num(float64(len(twinUnits(s)))), ""))
	}
	return o, err
}

func twinData(h *heap.Heap, o int) (string, api.Errno) {
	if o < 1 || o > h.Len() {
		return "", api.ErrRef
	}
	x, ok := h.Own(o).(*twinText)
	if !ok {
		return "", api.ErrKind
	}
	return x.s, api.OK
}
