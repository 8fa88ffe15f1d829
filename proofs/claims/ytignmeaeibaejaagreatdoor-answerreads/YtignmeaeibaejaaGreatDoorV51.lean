import Derived.Test.YtignmeaeibaejaaGreatDoorV47
import Derived.Deep.RegionHeld3
import Derived.StillTactics

