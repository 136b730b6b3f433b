package level

import (
	"slices"

	"pintle/api"
)

// changes is what an entry does to a Config, by its kind; of other kinds it does nothing. With an error nothing has changed.
func changes() map[int]func(*Config, api.Entry) api.Errno {
	return map[int]func(*Config, api.Entry) api.Errno{
		api.Add:      (*Config).add,
		api.Remove:   (*Config).remove,
		api.Register: (*Config).register,
		api.Upgrade:  (*Config).upgrade,
		api.Lower:    (*Config).lower,
		api.Finalise: (*Config).finalise,
	}
}

// add makes a node a member.
func (c *Config) add(e api.Entry) api.Errno {
	at, member := c.place(e.Node)
	switch {
	case member:
		return api.ErrBusy
	case c.Level == 2:
		return api.ErrLevel
	}
	c.Members = slices.Insert(c.Members, at, e.Node)
	c.Highest = slices.Insert(c.Highest, at, 1)
	return api.OK
}

// remove makes a node no member any more.
func (c *Config) remove(e api.Entry) api.Errno {
	at, member := c.place(e.Node)
	switch {
	case !member:
		return api.ErrNone
	case len(c.Members) == 1:
		return api.ErrBusy
	}
	c.Members = slices.Delete(c.Members, at, at+1)
	c.Highest = slices.Delete(c.Highest, at, at+1)
	return api.OK
}

// register tells which version a member speaks at most.
func (c *Config) register(e api.Entry) api.Errno {
	at, member := c.place(e.Node)
	switch {
	case !member:
		return api.ErrNone
	case e.Level < c.Level:
		return api.ErrLevel
	}
	c.Highest[at] = e.Level
	return api.OK
}

// upgrade lets version 2 be spoken.
func (c *Config) upgrade(api.Entry) api.Errno {
	switch {
	case c.Level == 2:
		return api.ErrBusy
	case slices.Contains(c.Highest, 1):
		return api.ErrLevel
	}
	c.Level = 2
	return api.OK
}

// lower lets version 1 alone be spoken.
func (c *Config) lower(api.Entry) api.Errno {
	switch {
	case c.Level == 1:
		return api.ErrBusy
	case c.Final:
		return api.ErrLevel
	}
	c.Level = 1
	return api.OK
}

// finalise makes version 2 stay.
func (c *Config) finalise(api.Entry) api.Errno {
	switch {
	case c.Level == 1:
		return api.ErrLevel
	case c.Final:
		return api.ErrBusy
	}
	c.Final = true
	return api.OK
}

// place is where the node stands among the members; where it would, if it is none.
func (c *Config) place(node int) (at int, member bool) {
	return slices.BinarySearch(c.Members, node)
}
