package desk

import (
	"slices"
	"strconv"
	"strings"

	"mailcoach/api"
	"mailcoach/ask"
	"mailcoach/book"
	"mailcoach/hand"
	"mailcoach/reply"
	"mailcoach/takers"
)

const blank = " "

// done is what a line gives that has nothing to tell.
const done = "ok"

// clerk does what lines ask for, one behind the other, and has the state by now.
type clerk struct {
	plan  api.Plan
	state api.State
}

// serve: the line that a line gives.
func (c *clerk) serve(line string) string {
	given := ""
	e := ask.Tried(func() { given = c.do(split(line)) })
	if e != api.OK {
		return "error " + strconv.Itoa(int(e))
	}
	return given
}

// do: what a line of these words gives, when what it asks for is done.
func (c *clerk) do(words []string) string {
	switch words[0] {
	case "send":
		return c.send(words[1], words[2], words[3])
	case "join":
		return c.join(words[1], words[2])
	case "leave":
		c.keep(reply.Leave(c.plan, c.state, number(words[1])))
		return done
	case "ack":
		c.keep(reply.Ack(c.plan, c.state, number(words[1])))
		return done
	case "back":
		c.keep(reply.Reject(c.plan, c.state, number(words[1]), true))
		return done
	case "drop":
		c.keep(reply.Reject(c.plan, c.state, number(words[1]), false))
		return done
	case "next":
		return c.next(words[1])
	case "lying":
		l, e := book.Lying(c.plan, c.state)
		ask.OK(e)
		return told(l...)
	default:
		return told(c.state.Came, c.state.Acked, c.state.Dropped)
	}
}

// send: to how many queues a letter comes.
func (c *clerk) send(post, key, body string) string {
	after, n, e := hand.Publish(c.plan, c.state, c.post(post), key, body)
	c.keep(after, e)
	return told(n)
}

// join: the number of a taker that is new.
func (c *clerk) join(queue, most string) string {
	// The number first: a line that is none is told ahead of a queue that is none.
	atOnce := number(most)
	after, taker, e := takers.Join(c.plan, c.state, c.queue(queue), atOnce)
	c.keep(after, e)
	return told(taker)
}

// next: the letter that is out now, and with whom.
func (c *clerk) next(queue string) string {
	after, tag, e := takers.Deliver(c.plan, c.state, c.queue(queue))
	c.keep(after, e)
	n := slices.IndexFunc(after.Outs, func(o api.Out) bool { return o.Tag == tag })
	out := after.Outs[n]
	age := "new"
	if out.Item.Again {
		age = "again"
	}
	return strings.Join([]string{told(tag, out.Taker), age, out.Item.Body}, blank)
}

// keep: what came of an act is the state from here on; with an error it is left, and nothing has changed.
func (c *clerk) keep(after api.State, e api.Errno) {
	ask.OK(e)
	c.state = after
}

// post: the number of the post of that name.
func (c *clerk) post(name string) int {
	n := slices.IndexFunc(c.plan.Posts, func(x api.Post) bool { return x.Name == name })
	ask.Never(api.ErrNone, n < 0)
	return n
}

// queue: the number of the queue of that name.
func (c *clerk) queue(name string) int {
	n := slices.IndexFunc(c.plan.Queues, func(x api.Queue) bool { return x.Name == name })
	ask.Never(api.ErrNone, n < 0)
	return n
}
