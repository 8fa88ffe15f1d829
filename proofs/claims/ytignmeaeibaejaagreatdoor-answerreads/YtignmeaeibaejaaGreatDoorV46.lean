import Derived.Test.YtignmeaeibaejaaGreatDoorV40
import Derived.Deep.DeepCutAuto
import Derived.Deep.CutBlock
import Derived.Test.YtignmeaeibaejaaGreatDoorV45

