package script

import (
	"strconv"
	"strings"

	"palaver/api"
)

const (
	blank  = " "                // what stands between two words
	empty  = "-"                // the word of an empty string
	hex    = "0123456789abcdef" // the digits of a string's bytes
	perHex = 2                  // digits of a byte
	half   = 4                  // bits of a digit
	low    = 1<<half - 1        // the bits of a byte's second digit
)

// isNumber tells whether a number may stand in a line.
func isNumber(n int64) bool {
	return 0 <= n && n <= api.MaxTime
}

// number is a number as a word.
func number(n int64) string {
	return strconv.FormatInt(n, 10)
}

// parseNumber is the number that a word tells, if it tells one that may stand in a line.
func parseNumber(word string) (int64, bool) {
	n, err := strconv.ParseInt(word, 10, 64)
	// ParseInt takes signs and leading zeros too: a number's word is only what number makes of it.
	if err != nil || !isNumber(n) || number(n) != word {
		return 0, false
	}
	return n, true
}

// digits is a string as a word.
func digits(text string) string {
	if text == "" {
		return empty
	}
	b := make([]byte, 0, perHex*len(text))
	for i := range len(text) {
		b = append(b, hex[text[i]>>half], hex[text[i]&low])
	}
	return string(b)
}

// parseDigits is the string that a word tells, if it tells one that may stand in a line.
func parseDigits(word string) (string, bool) {
	if word == empty {
		return "", true
	}
	if word == "" || len(word)%perHex != 0 || len(word) > perHex*api.MaxText {
		return "", false
	}
	b := make([]byte, 0, len(word)/perHex)
	for i := 0; i < len(word); i += perHex {
		first, second := strings.IndexByte(hex, word[i]), strings.IndexByte(hex, word[i+1])
		if first < 0 || second < 0 {
			return "", false
		}
		b = append(b, byte(first<<half|second))
	}
	return string(b), true
}
