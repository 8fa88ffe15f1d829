import Derived.Test.YtikgjgmgbfjcgaaGreatY21

