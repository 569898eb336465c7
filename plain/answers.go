package plain

import "announce/api"

func done(value int) api.Answer { return api.Answer{Status: api.Done, Value: value} }

func empty() api.Answer { return api.Answer{Status: api.Empty} }

func none() api.Answer { return api.Answer{Status: api.None} }

func badOp() api.Answer { return api.Answer{Status: api.BadOp} }
