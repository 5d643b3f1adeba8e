// Package plan: plans: see doc/02-plan.md.
package plan

import (
	"mailcoach/api"
	"mailcoach/words"
)

// Name: is it a name of a post or a queue?
func Name(s string) bool {
	if len(s) < 1 || len(s) > api.MaxName {
		return false
	}
	for i := range len(s) {
		if s[i] < 'a' || s[i] > 'z' {
			return false
		}
	}
	return true
}

// Check: the first error of a plan; OK, if it is right.
func Check(p api.Plan) api.Errno {
	// Ahead of all else, so that nothing below goes through more than a plan may have.
	if len(p.Posts) > api.MaxPosts || len(p.Queues) > api.MaxQueues || len(p.Binds) > api.MaxBinds {
		return api.ErrMany
	}
	posts := names(p.Posts, func(x api.Post) string { return x.Name })
	queues := names(p.Queues, func(x api.Queue) string { return x.Name })
	switch {
	case !allNames(posts) || !allNames(queues):
		return api.ErrName
	case anyTwice(posts) || anyTwice(queues):
		return api.ErrThere
	case !kindsRight(p.Posts):
		return api.ErrKind
	case !queuesInRange(p) || !bindsInRange(p):
		return api.ErrRange
	}
	return patternError(p.Binds)
}

// Fits: does the key fit by bind n?
func Fits(p api.Plan, n int, key string) (bool, api.Errno) {
	if e := Check(p); e != api.OK {
		return false, e
	}
	if !numberOf(n, p.Binds) {
		return false, api.ErrNone
	}
	if _, e := words.Split(key); e != api.OK {
		return false, e
	}
	b := p.Binds[n]
	switch p.Posts[b.From].Kind {
	case api.Direct:
		return key == b.Pattern, api.OK
	case api.Fanout:
		return true, api.OK
	default:
		return words.Match(b.Pattern, key)
	}
}

// names: the name of each thing of l, as name tells it.
func names[T any](l []T, name func(x T) string) []string {
	var out []string
	for _, x := range l {
		out = append(out, name(x))
	}
	return out
}

// allNames: is each of them a name?
func allNames(l []string) bool {
	for _, s := range l {
		if !Name(s) {
			return false
		}
	}
	return true
}

// anyTwice: is one of them there twice?
func anyTwice(l []string) bool {
	seen := map[string]struct{}{}
	for _, s := range l {
		if _, there := seen[s]; there {
			return true
		}
		seen[s] = struct{}{}
	}
	return false
}

// kindsRight: has each post a Kind that there is?
func kindsRight(l []api.Post) bool {
	for _, x := range l {
		if x.Kind != api.Direct && x.Kind != api.Fanout && x.Kind != api.Topic {
			return false
		}
	}
	return true
}

// queuesInRange: are the numbers of all queues within their bounds?
func queuesInRange(p api.Plan) bool {
	for _, q := range p.Queues {
		if q.Limit < 1 || q.Limit > api.MaxLimit {
			return false
		}
		if q.Dead != -1 && !numberOf(q.Dead, p.Posts) {
			return false
		}
	}
	return true
}

// bindsInRange: are the numbers of all binds those of posts and queues?
func bindsInRange(p api.Plan) bool {
	for _, b := range p.Binds {
		if !numberOf(b.From, p.Posts) {
			return false
		}
		if b.ToPost && !numberOf(b.To, p.Posts) || !b.ToPost && !numberOf(b.To, p.Queues) {
			return false
		}
	}
	return true
}

// patternError: the error of the first bind whose Pattern has one.
func patternError(l []api.Bind) api.Errno {
	for _, b := range l {
		if e := words.Pattern(b.Pattern); e != api.OK {
			return e
		}
	}
	return api.OK
}

// numberOf: is n the number of one of l?
func numberOf[T any](n int, l []T) bool {
	return n >= 0 && n < len(l)
}
