package pack

import "snowline/api"

// Apply returns what a step makes of p, and what runs out at the bottom.
func Apply(p api.Pack, s api.Step) (api.Pack, int, api.Errno) {
	if e := Check(p); e != api.OK {
		return api.Pack{}, 0, e
	}
	if e := CheckStep(s); e != api.OK {
		return api.Pack{}, 0, e
	}
	c := stand(p)
	out, e := c.step(s)
	if e != api.OK {
		return api.Pack{}, 0, e
	}
	q := c.pack()
	if Check(q) != api.OK {
		return api.Pack{}, 0, api.ErrLimit
	}
	return q, out, api.OK
}

// Run returns what steps make of p, and what runs out with each of them.
func Run(p api.Pack, l []api.Step) (api.Pack, []int, api.Errno) {
	if e := Check(p); e != api.OK {
		return api.Pack{}, nil, e
	}
	if len(l) > api.MaxSteps {
		return api.Pack{}, nil, api.ErrLimit
	}
	// Without steps, too, the result is a pack of its own.
	q := stand(p).pack()
	outs := make([]int, len(l))
	for i, s := range l {
		next, out, e := Apply(q, s)
		if e != api.OK {
			return api.Pack{}, nil, e
		}
		q, outs[i] = next, out
	}
	return q, outs, api.OK
}
