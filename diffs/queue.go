package diffs

// queue keeps nodes, and gives them back in the order of their distances. A node may stand in it several times.
type queue[N any] struct {
	heap []waiting[N]
}

// waiting is a node in a queue.
type waiting[N any] struct {
	far  int
	node N
}

func (q *queue[N]) isEmpty() bool { return len(q.heap) == 0 }

// push puts a node into q.
func (q *queue[N]) push(far int, node N) {
	q.heap = append(q.heap, waiting[N]{far, node})
	for i := len(q.heap) - 1; i > 0; {
		above := (i - 1) / 2
		if q.heap[above].far <= q.heap[i].far {
			return
		}
		q.swap(i, above)
		i = above
	}
}

// pop takes a node with the least distance out of q, which is not empty, and returns both.
func (q *queue[N]) pop() (far int, node N) {
	first := q.heap[0]
	last := len(q.heap) - 1
	q.heap[0] = q.heap[last]
	q.heap = q.heap[:last]
	for i := 0; ; {
		least := q.leastOf(i, 2*i+1, 2*i+2)
		if least == i {
			return first.far, first.node
		}
		q.swap(i, least)
		i = least
	}
}

// leastOf returns i, or that one of the places below it which has a lesser distance and the least one of them.
func (q *queue[N]) leastOf(i int, below ...int) int {
	for _, k := range below {
		if k < len(q.heap) && q.heap[k].far < q.heap[i].far {
			i = k
		}
	}
	return i
}

func (q *queue[N]) swap(i, k int) { q.heap[i], q.heap[k] = q.heap[k], q.heap[i] }
