package desk

import (
	"strconv"
	"strings"

	"mailcoach/api"
	"mailcoach/ask"
)

const (
	// mostWords is how many words a line has at most, the body, which may have blanks, as one.
	mostWords = 4
	// mostDigits is how many digits a number has at most.
	mostDigits = 6
)

// lengths: how many words a line has, by its first one.
func lengths() map[string]int {
	return map[string]int{"send": mostWords, "join": 3, "leave": 2, "ack": 2, "back": 2, "drop": 2, "next": 2, "lying": 1, "sums": 1}
}

// split: the words of a line, of which there are as many as its first one asks for.
func split(line string) []string {
	// Only a send has so many words: what is left of any other line by then is one word too many.
	words := strings.SplitN(line, blank, mostWords)
	n, known := lengths()[words[0]]
	ask.Never(api.ErrForm, !known, len(words) != n)
	return words
}

// number: the number that a word is.
func number(word string) int {
	ask.Never(api.ErrForm, word == "", len(word) > mostDigits, len(word) > 1 && word[0] == '0')
	n := 0
	for i := range len(word) {
		ask.Never(api.ErrForm, word[i] < '0', word[i] > '9')
		n = 10*n + int(word[i]-'0')
	}
	return n
}

// told: the numbers, as a line tells them.
func told(numbers ...int) string {
	var l []string
	for _, n := range numbers {
		l = append(l, strconv.Itoa(n))
	}
	return strings.Join(l, blank)
}
