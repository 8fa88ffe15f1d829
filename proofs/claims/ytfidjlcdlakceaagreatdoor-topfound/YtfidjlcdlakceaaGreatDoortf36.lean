import Derived.Test.YtfidjlcdlakceaaGreatDoortf35
namespace Go.Proofs.YtfidjlcdlakceaaGreatDoor
namespace Sv
open Go.RowKit
end Sv
end Go.Proofs.YtfidjlcdlakceaaGreatDoor
