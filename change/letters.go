package change

import (
	"mailcoach/api"
	"mailcoach/ask"
	"mailcoach/lines"
	"mailcoach/route"
)

// nowhere stands for the post of the dead of a queue that has none.
const nowhere = -1

// Put: the letter lies in that queue where its Seq says, and what is too many there is dropped. What arrives of that.
func Put(p api.Plan, t *api.State, queue int, x api.Item) []api.Arrival {
	line, e := lines.Push(t.Ready[queue], x)
	ask.OK(e)
	stays, shed, e := lines.Shed(line, p.Queues[queue].Limit)
	ask.OK(e)
	t.Ready[queue] = stays
	var l []api.Arrival
	for _, y := range shed {
		l = append(l, Drop(p, t, queue, y)...)
	}
	return l
}

// Drop: the letter, which is that queue's no more, is counted as dropped. What arrives of it, if it may die once more.
func Drop(p api.Plan, t *api.State, queue int, x api.Item) []api.Arrival {
	t.Dropped++
	dead := p.Queues[queue].Dead
	if dead == nowhere || x.Deaths >= api.MaxDeaths {
		return nil
	}
	queues, e := route.Queues(p, dead, x.Key)
	ask.OK(e)
	return Arrivals(queues, x.Key, x.Body, x.Deaths+1)
}

// Arrivals: an arrival at each of these queues.
func Arrivals(queues []int, key, body string, deaths int) []api.Arrival {
	var l []api.Arrival
	for _, q := range queues {
		l = append(l, api.Arrival{Queue: q, Key: key, Body: body, Deaths: deaths})
	}
	return l
}
