import Derived.Test.YtikgjgmgbfjcgaaGreatV8

