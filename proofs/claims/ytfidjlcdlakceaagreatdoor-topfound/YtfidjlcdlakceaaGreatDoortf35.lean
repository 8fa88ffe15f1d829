import Derived.Test.YtfidjlcdlakceaaGreatDoortf22
namespace Go.Proofs.YtfidjlcdlakceaaGreatDoor
namespace Sv
open Go.RowKit
end Sv
end Go.Proofs.YtfidjlcdlakceaaGreatDoor
