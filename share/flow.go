package share

import "snowline/api"

// arc is a way from a node to another one, and how much more water can flow along it. Arcs are in pairs: beside each is the way back, along which can flow what has flowed along the arc.
type arc struct{ to, left int }

// endless is more than all water that can be taken.
const endless = 1 << 60

// stream is the water of a share that flows: from its source to the supplies, from these to the next ones, as far as there is room, and to the rights, and from there to the sink.
type stream struct {
	arcs     []arc
	leaving  [][]int // the indices of the arcs from each node
	supplies int
}

// The nodes are the source, the sink, the supplies and the rights.
const (
	sourceNode = 0
	sinkNode   = 1
	firstNode  = 2
)

// newStream returns the stream of a valid share in which nothing flows, and no right may take anything.
func newStream(s api.Share) *stream {
	w := &stream{leaving: make([][]int, firstNode+len(s.Supplies)+len(s.Rights)), supplies: len(s.Supplies)}
	// The arcs to the sink come first: those of the right i are at 2i.
	for i := range s.Rights {
		w.join(w.rightNode(i), sinkNode, 0)
	}
	for i, x := range s.Supplies {
		w.join(sourceNode, w.supplyNode(i), x.Volume)
		if i > 0 {
			w.join(w.supplyNode(i-1), w.supplyNode(i), keeps(s, i))
		}
		for j, y := range s.Rights {
			if mayTake(y, x) {
				w.join(w.supplyNode(i), w.rightNode(j), endless)
			}
		}
	}
	return w
}

func (w *stream) supplyNode(i int) int { return firstNode + i }

func (w *stream) rightNode(i int) int { return firstNode + w.supplies + i }

// join adds an arc, and the way back.
func (w *stream) join(from, to, most int) {
	w.leaving[from] = append(w.leaving[from], len(w.arcs))
	w.leaving[to] = append(w.leaving[to], len(w.arcs)+1)
	w.arcs = append(w.arcs, arc{to, most}, arc{from, 0})
}

// ask lets a right, which has taken nothing yet, take up to a volume.
func (w *stream) ask(right, volume int) { w.arcs[2*right].left = volume }

// taken returns how much a right takes.
func (w *stream) taken(right int) int { return w.arcs[2*right+1].left }

// depths returns for each node how many arcs with water left it is away from the source, counted from 1 on; 0 for nodes that cannot be reached, and for some that are not nearer than the sink.
func (w *stream) depths() []int {
	depth := make([]int, len(w.leaving))
	depth[sourceNode] = 1
	queue := []int{sourceNode}
search:
	for len(queue) > 0 {
		node := queue[0]
		queue = queue[1:]
		for _, i := range w.leaving[node] {
			x := w.arcs[i]
			if x.left == 0 || depth[x.to] > 0 {
				continue
			}
			depth[x.to] = depth[node] + 1
			if x.to == sinkNode {
				break search
			}
			queue = append(queue, x.to)
		}
	}
	return depth
}

// fill lets as much more flow as can, and returns for each node whether more could flow to it. What rights take already they still take.
func (w *stream) fill() []int {
	for {
		depth := w.depths()
		if depth[sinkNode] == 0 {
			return depth
		}
		w.deepen(depth)
	}
}

// deepen lets water flow along arcs that lead a step away from the source, until no way of such arcs is left.
func (w *stream) deepen(depth []int) {
	next := make([]int, len(w.leaving)) // the arcs of each node that are not used up
	var flow func(node, most int) int
	flow = func(node, most int) int {
		if node == sinkNode {
			return most
		}
		for ; next[node] < len(w.leaving[node]); next[node]++ {
			i := w.leaving[node][next[node]]
			x := w.arcs[i]
			if x.left == 0 || depth[x.to] != depth[node]+1 {
				continue
			}
			if much := flow(x.to, min(most, x.left)); much > 0 {
				w.arcs[i].left -= much
				w.arcs[i^1].left += much
				return much
			}
		}
		return 0
	}
	for flow(sourceNode, endless) > 0 {
	}
}
