// Package words: words: see doc/01-words.md.
package words

import (
	"iter"
	"strings"

	"mailcoach/api"
)

const (
	stop    = "."
	anyOne  = "*"
	anyMany = "#"
)

// Split: the words of a key.
func Split(s string) ([]string, api.Errno) {
	if e := check(s, plain); e != api.OK {
		return nil, e
	}
	var l []string
	for w := range each(s) {
		l = append(l, w)
	}
	return l, api.OK
}

// Pattern: OK, if s is a pattern.
func Pattern(s string) api.Errno {
	return check(s, func(w string) bool { return w == anyOne || w == anyMany || plain(w) })
}

// Match: can the pattern's words be laid along the key's?
func Match(pattern, key string) (bool, api.Errno) {
	if e := Pattern(pattern); e != api.OK {
		return false, e
	}
	l, e := Split(key)
	if e != api.OK {
		return false, e
	}
	// reached[n]: the pattern's words so far can be laid on the key's first n, with none left over. All n are
	// kept side by side, since which of its choices a # should take shows only further on.
	reached := make([]bool, len(l)+1)
	reached[0] = true
	for w := range each(pattern) {
		reached = lay(w, reached, l)
	}
	return reached[len(l)], api.OK
}

// lay: what is reached when one more word of a pattern is laid behind what was reached.
func lay(word string, reached []bool, key []string) []bool {
	next := make([]bool, len(reached))
	for n := range next {
		switch {
		case word == anyMany:
			next[n] = reached[n] || n > 0 && next[n-1]
		case n > 0:
			next[n] = reached[n-1] && (word == anyOne || word == key[n-1])
		}
	}
	return next
}

// check: the first error of s as a text of words, each of which must be right.
func check(s string, right func(word string) bool) api.Errno {
	if len(s) > api.MaxKey || strings.Count(s, stop) >= api.MaxWords {
		return api.ErrMany
	}
	for w := range each(s) {
		if !right(w) {
			return api.ErrForm
		}
	}
	return api.OK
}

// each goes through the words of s, right or not; an empty text has one, which is empty.
func each(s string) iter.Seq[string] {
	return func(yield func(string) bool) {
		rest, more := s, true
		for more {
			var word string
			word, rest, more = strings.Cut(rest, stop)
			if !yield(word) {
				return
			}
		}
	}
}

// plain: is it a word of a key?
func plain(word string) bool {
	for i := range len(word) {
		c := word[i]
		if (c < 'a' || c > 'z') && (c < '0' || c > '9') {
			return false
		}
	}
	return word != ""
}
