package plain

import "announce/api"

func done(value int) api.Answer { return api.Answer{Status: api.Done, Value: value} }
