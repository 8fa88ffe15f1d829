
/- The document's own Hear: a newer rumor of one that is known. -/
import Derived.Test.YtonbaiaoelegaacP
namespace Go.Proofs.Ytonbaiaoelegaac
open Go.RowKit

end Go.Proofs.Ytonbaiaoelegaac
