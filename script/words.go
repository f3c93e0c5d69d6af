package script

import (
	"strconv"
	"strings"
)

// A word that stands for no bytes.
const noBytes = "-"

// wordsOf answers a line's words.
func wordsOf(text string) []string {
	var words []string
	for _, w := range strings.Split(text, blank) {
		if w != "" {
			words = append(words, w)
		}
	}
	return words
}

// numbersOf answers the numbers that words are; false, if they are not as many as asked for, or one of them is none.
func numbersOf(words []string, many int) ([]int64, bool) {
	if len(words) != many {
		return nil, false
	}
	found := make([]int64, many)
	for i, w := range words {
		n, ok := numberOf(w)
		if !ok {
			return nil, false
		}
		found[i] = n
	}
	return found, true
}

// numberOf answers the number that a word is.
func numberOf(word string) (int64, bool) {
	n, err := strconv.ParseInt(word, 10, 64)
	// Each number is written in one way alone: that keeps out a plus, leading zeros and a 0 below 0.
	if err != nil || strconv.FormatInt(n, 10) != word {
		return 0, false
	}
	return n, true
}

// bytesOf answers the bytes that a word tells by two digits each.
func bytesOf(word string) (string, bool) {
	if word == noBytes {
		return "", true
	}
	if len(word)%2 != 0 {
		return "", false
	}
	found := make([]byte, len(word)/2)
	for i := range found {
		high, ok := digitOf(word[2*i])
		low, fine := digitOf(word[2*i+1])
		if !ok || !fine {
			return "", false
		}
		found[i] = high<<4 | low
	}
	return string(found), true
}

// digitOf answers what a digit of base 16 stands for.
func digitOf(c byte) (byte, bool) {
	switch {
	case '0' <= c && c <= '9':
		return c - '0', true
	case 'a' <= c && c <= 'f':
		return c - 'a' + 10, true
	}
	return 0, false
}

// line answers numbers as a line of words.
func line[T int | int64](list ...T) string {
	words := make([]string, len(list))
	for i, n := range list {
		words[i] = strconv.FormatInt(int64(n), 10)
	}
	return strings.Join(words, blank)
}
