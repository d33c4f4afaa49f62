// Package impl: a build that many machines do.
package impl

// Limits of sums and keys.
const (
	MaxWidth = 8
	MaxKey   = 30
	MaxClash = 2000
)

const (
	sumStart  uint64 = 14695981039346656037
	sumFactor uint64 = 1099511628211
)

// sumKey holds a sum of any width at its end, so that one kind of map key serves all widths.
type sumKey [MaxWidth]byte

// Sum is the sum of a text.
func Sum(text string, width int) string {
	if !isWidth(width) {
		return ""
	}
	key := keyOfSum(text, width)
	return string(key[MaxWidth-width:])
}

// Clash looks for two different texts with one sum.
func Clash(texts []string, width int) (string, string, bool) {
	if !isWidth(width) || len(texts) > MaxClash {
		return "", "", false
	}
	// The first place alone is enough: while no clash is found, all texts met with one sum are the same.
	firstPlace := map[sumKey]int{}
	for j, text := range texts {
		key := keyOfSum(text, width)
		i, met := firstPlace[key]
		if !met {
			firstPlace[key] = j
			continue
		}
		if texts[i] != text {
			return texts[i], text, true
		}
	}
	return "", "", false
}

// Tag is the tag of a body under a key.
func Tag(body string, key string) string {
	if !isKey(key) {
		return ""
	}
	return Sum(key+"\x00"+body, MaxWidth)
}

func isWidth(width int) bool {
	return width >= 1 && width <= MaxWidth
}

func isKey(key string) bool {
	return len(key) <= MaxKey
}

func wholeSum(text string) uint64 {
	sum := sumStart
	for i := range len(text) {
		sum ^= uint64(text[i])
		sum *= sumFactor
	}
	return sum
}

func keyOfSum(text string, width int) sumKey {
	var key sumKey
	sum := wholeSum(text)
	for i := range width {
		key[MaxWidth-1-i] = byte(sum)
		sum >>= 8
	}
	return key
}
