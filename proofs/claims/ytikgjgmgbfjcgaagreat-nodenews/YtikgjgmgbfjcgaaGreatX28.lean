import Derived.Test.YtikgjgmgbfjcgaaGreatX22

