import Derived.Test.YtikgjgmgbfjcgaaGreatV23

