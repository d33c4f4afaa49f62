package tests

import (
	"encoding/binary"
	"hash/fnv"
	"math/rand"
	"slices"
	"strconv"
	"strings"
	"testing"

	"loop.example/kiln/impl"
)

// librarySum is the sum of all 8 bytes, by the library.
func librarySum(text string) string {
	h := fnv.New64a()
	h.Write([]byte(text))
	return string(binary.BigEndian.AppendUint64(nil, h.Sum64()))
}

func TestSumIsTheLastBytes(t *testing.T) {
	for _, text := range []string{"", "a", "foobar", "\x00", "\xff\xfe\n", strings.Repeat("long ", 200)} {
		whole := librarySum(text)
		for width := 1; width <= impl.MaxWidth; width++ {
			if got := impl.Sum(text, width); got != whole[8-width:] {
				t.Errorf("Sum(%q, %d) = %x, want %x", text, width, got, whole[8-width:])
			}
		}
	}
}

func TestSumOfNoWidth(t *testing.T) {
	for _, width := range []int{0, -1, -8, impl.MaxWidth + 1, 1 << 40, -1 << 63} {
		if got := impl.Sum("a", width); got != "" {
			t.Errorf("width %d: %x", width, got)
		}
	}
}

func TestTag(t *testing.T) {
	long := strings.Repeat("k", impl.MaxKey)
	for _, c := range []struct{ body, key string }{
		{"body", "key"}, {"", ""}, {"", "k"}, {"b", ""}, {"a\x00b", "a\x00"}, {"b", long}, {strings.Repeat("b", 5000), "\xff"},
	} {
		if got, want := impl.Tag(c.body, c.key), librarySum(c.key+"\x00"+c.body); got != want {
			t.Errorf("Tag(%q, %q) = %x, want %x", c.body, c.key, got, want)
		}
	}
	if got := impl.Tag("b", long+"k"); got != "" {
		t.Errorf("a key that is too long: %x", got)
	}
}

// slowClash goes through all pairs, in the order that the document gives.
func slowClash(texts []string, width int) (string, string, bool) {
	for j := range texts {
		for i := range j {
			if texts[i] != texts[j] && impl.Sum(texts[i], width) == impl.Sum(texts[j], width) {
				return texts[i], texts[j], true
			}
		}
	}
	return "", "", false
}

func checkClash(t *testing.T, texts []string, width int) {
	t.Helper()
	before := slices.Clone(texts)
	x, y, ok := impl.Clash(texts, width)
	wantX, wantY, wantOk := slowClash(texts, width)
	if x != wantX || y != wantY || ok != wantOk {
		t.Errorf("Clash of %d texts, width %d: %q %q %v, want %q %q %v", len(texts), width, x, y, ok, wantX, wantY, wantOk)
	}
	if !slices.Equal(texts, before) {
		t.Error("Clash has changed its texts")
	}
}

func TestClashAgainstAllPairs(t *testing.T) {
	r := rand.New(rand.NewSource(1))
	for range 400 {
		var texts []string
		kinds := 1 + r.Intn(40)
		for range r.Intn(60) {
			texts = append(texts, strconv.Itoa(r.Intn(kinds)))
		}
		for _, width := range []int{1, 2, impl.MaxWidth} {
			checkClash(t, texts, width)
		}
	}
}

// twins gives three different texts with one sum of the width.
func twins(t *testing.T, width int, start string) [3]string {
	t.Helper()
	found := [3]string{start}
	count := 1
	for i := 0; count < 3; i++ {
		text := strconv.Itoa(i)
		if text != start && impl.Sum(text, width) == impl.Sum(start, width) {
			found[count] = text
			count++
		}
	}
	return found
}

func TestClashOrder(t *testing.T) {
	a, b := twins(t, 1, "a"), twins(t, 1, "b")
	for i, c := range []struct {
		texts []string
		x, y  string
		ok    bool
	}{
		{nil, "", "", false},
		{[]string{a[0]}, "", "", false},
		{[]string{a[0], a[0], a[0]}, "", "", false},
		{[]string{a[0], b[0], a[0], b[0]}, "", "", false},
		{[]string{a[0], a[1]}, a[0], a[1], true},
		{[]string{a[1], a[0]}, a[1], a[0], true},
		{[]string{a[0], b[0], b[1], a[1]}, b[0], b[1], true},
		{[]string{a[0], b[0], a[1], b[1]}, a[0], a[1], true},
		{[]string{b[0], a[0], a[0], a[1], a[2], b[1]}, a[0], a[1], true},
		{[]string{a[2], a[2], b[0], a[1], a[0]}, a[2], a[1], true},
	} {
		if x, y, ok := impl.Clash(c.texts, 1); x != c.x || y != c.y || ok != c.ok {
			t.Errorf("case %d: %q %q %v", i, x, y, ok)
		}
		checkClash(t, c.texts, 1)
	}
}

func TestClashHangsOnTheWidth(t *testing.T) {
	for _, width := range []int{1, 2} {
		twin := twins(t, width, "a")
		if _, _, ok := impl.Clash(twin[:], width); !ok {
			t.Errorf("width %d: no clash", width)
		}
		if x, y, ok := impl.Clash(twin[:], impl.MaxWidth); ok {
			t.Errorf("width %d: %q %q", impl.MaxWidth, x, y)
		}
	}
}

func TestClashLimit(t *testing.T) {
	twin := twins(t, 1, "a")
	texts := slices.Repeat([]string{twin[0]}, impl.MaxClash)
	texts[impl.MaxClash-1] = twin[1]
	if x, y, ok := impl.Clash(texts, 1); x != twin[0] || y != twin[1] || !ok {
		t.Errorf("MaxClash texts: %q %q %v", x, y, ok)
	}
	if x, y, ok := impl.Clash(append(texts, twin[2]), 1); x != "" || y != "" || ok {
		t.Errorf("one more: %q %q %v", x, y, ok)
	}
}

func TestClashOfNoWidth(t *testing.T) {
	for _, width := range []int{0, -1, impl.MaxWidth + 1} {
		if x, y, ok := impl.Clash([]string{"a", "b", "c"}, width); x != "" || y != "" || ok {
			t.Errorf("width %d: %q %q %v", width, x, y, ok)
		}
	}
}
