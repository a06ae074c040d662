package basin

import (
	"snowline/api"
	"snowline/diffs"
)

// ground is the node whose water is 0.
const ground = 0

// frame is a valid scene with its net, in which each difference has the reason with the same index.
type frame struct {
	grid
	scene   api.Scene
	net     api.Net
	reasons []api.Reason
}

// Net returns the differences of s, and the reason of each of them.
func Net(s api.Scene) (api.Net, []api.Reason, api.Errno) {
	f, e := read(s)
	return f.net, f.reasons, e
}

// read returns the frame of s.
func read(s api.Scene) (frame, api.Errno) {
	if e := Check(s); e != api.OK {
		return frame{}, e
	}
	return newFrame(s), api.OK
}

// newFrame returns the frame of a valid scene.
func newFrame(s api.Scene) frame {
	f := frame{grid: newGrid(s), scene: s}
	f.net.Nodes = f.nodes()
	for day := range len(f.days) {
		f.addLimits(day)
		f.addPairs(day)
	}
	f.addSights()
	f.addChanges()
	return f
}

// addLimits adds that no cell has more water on a day than the basin can have, or less than none.
func (f *frame) addLimits(day int) {
	for i, c := range f.cells {
		node := f.node(i, day)
		f.add(ground, node, f.scene.Basin.Deep, api.Reason{Kind: api.DeepR, Index: c.No, Day: f.days[day]})
		f.add(node, ground, 0, api.Reason{Kind: api.BareR, Index: c.No, Day: f.days[day]})
	}
}

// addPairs adds what bounds the water of cells on like slopes on a day.
func (f *frame) addPairs(day int) {
	b := f.scene.Basin
	for i, p := range b.Pairs {
		lower, higher := pairCells(b, i)
		if !areLike(lower, higher) {
			continue
		}
		less := 0
		if lower.Height == higher.Height {
			less = b.Slack
		}
		from, to := f.node(p[0], day), f.node(p[1], day)
		f.add(from, to, more(b, lower, higher), api.Reason{Kind: api.MoreR, Index: i, Day: f.days[day]})
		f.add(to, from, less, api.Reason{Kind: api.LessR, Index: i, Day: f.days[day]})
	}
}

// addSights adds what the sights say.
func (f *frame) addSights() {
	for i, x := range f.scene.Sights {
		node, _ := f.find(x.Cell, x.Day)
		f.addSpan(ground, node, api.Span{Lo: x.Lo, Hi: x.Hi}, api.Reason{Kind: api.SightR, Index: i})
	}
}

// addChanges adds what the changes say.
func (f *frame) addChanges() {
	for i, x := range f.scene.Changes {
		from, _ := f.find(x.Cell, x.From)
		to, _ := f.find(x.Cell, x.To)
		f.addSpan(from, to, api.Span{Lo: x.Lo, Hi: x.Hi}, api.Reason{Kind: api.ChangeR, Index: i})
	}
}

// addSpan adds that the water of a node is greater than that of another one by a number of the span.
func (f *frame) addSpan(from, to int, s api.Span, lower api.Reason) {
	upper := lower
	upper.Upper = true
	f.add(from, to, s.Hi, upper)
	f.add(to, from, -s.Lo, lower)
}

func (f *frame) add(from, to, most int, r api.Reason) {
	f.net.Diffs = append(f.net.Diffs, api.Diff{From: from, To: to, Most: most})
	f.reasons = append(f.reasons, r)
}

// isAllowed reports whether some field is allowed.
func (f frame) isAllowed() bool {
	_, e := diffs.Solve(f.net)
	return e == api.OK
}
