/-
  NARROWER THAN 'FOR EVERY INPUT', by the rows' own cells (each row's printed sentence says how): DnsChecks: laid · DnsWrites: laid · DnsReads: laid · DnsFits: laid · DnsBack: laid · DnsCuts: laid.
  DERIVED. THE GIVEN ROWS OF THIS SEAT. 6 by the template 'for every input the law returns true; each argument reads behind the call as it read before'; 0 by the template 'total and deterministic' (their statements: YtogmkdhljifbpaaDoorTotals.lean).
  GIVEN WITH THE SEED: the statements are not yours to turn. If you find one false, say at which input.
  Laid BY PROGRAM, IN A SANDBOX (cutbox-rows.mjs): the forced cells as the released guide's own fill.sh prints them over the translation 57bc80fd77cbf4f6… (all of the seat's roots in one cut). By AI agents, Wed Nov 11 2026. No macro, syntax, notation, axiom, sorry.
-/
import Derived.Test.YtogmkdhljifbpaaDoorChecked
import GoSem.PinnedTables
import GoSem.Claim
import GoSem.ClaimJoined
import GoSem.ClaimMapViews
import Derived.JoinedTies
import Derived.KernelRfl
namespace Go.Proofs.YtogmkdhljifbpaaDoor
/- THE CELL 'sum', in the pinned program and in every row, IS THE sha256 OF THE DUMP (.gsa) THAT YtogmkdhljifbpaaDoorProg.lean LOADS. Nothing in Lean hashes anything: it is a label: what it is worth is what the hold of that sum in a sandbox is worth. -/
noncomputable def Tryd.pinned : Pinned := { name := "ytogmkdhljifbpaadoor", sum := "57bc80fd77cbf4f6faa77ac049ca68831f29bc2df8bf4f5881825b462887ea3d", checked := Tryd.checked }
namespace Rows
def none {H : Type} : Left H := { results := [], args := [] }

/- WHAT THE LISTED PACKAGE-LEVEL VARIABLES READ AS WHEN THE CALL BEGINS. Each datum BY PROGRAM (the guide's laid-datum.mjs) off the statement by which the dump's own 'gosem.cut.vars' lays the variable. In a bare row this is a premise. The card (YtogmkdhljifbpaaDoorCards.lean) ties it to the program's text. -/
def laid_unicode_utf8_acceptRanges {H : Type} : DataW H := .agg [.agg [.lit (.int .u8 128), .lit (.int .u8 191)], .agg [.lit (.int .u8 160), .lit (.int .u8 191)], .agg [.lit (.int .u8 128), .lit (.int .u8 159)], .agg [.lit (.int .u8 144), .lit (.int .u8 191)], .agg [.lit (.int .u8 128), .lit (.int .u8 143)], .agg [.lit (.int .u8 0), .lit (.int .u8 0)], .agg [.lit (.int .u8 0), .lit (.int .u8 0)], .agg [.lit (.int .u8 0), .lit (.int .u8 0)], .agg [.lit (.int .u8 0), .lit (.int .u8 0)], .agg [.lit (.int .u8 0), .lit (.int .u8 0)], .agg [.lit (.int .u8 0), .lit (.int .u8 0)], .agg [.lit (.int .u8 0), .lit (.int .u8 0)], .agg [.lit (.int .u8 0), .lit (.int .u8 0)], .agg [.lit (.int .u8 0), .lit (.int .u8 0)], .agg [.lit (.int .u8 0), .lit (.int .u8 0)], .agg [.lit (.int .u8 0), .lit (.int .u8 0)]]
/-- One of Go's own tables, pinned by name: the form's constant. -/
def laid_unicode_utf8_first : DataW Unit := Go.Pinned.utf8First

/-- 'hearsaylaw.DnsChecks': WHATEVER THE INPUT: true; the input reads as it did. -/
def dnsChecksSpec : ChangeSpec := { name := "dnsChecks", fn := fun _ => fun
  | [d] => { results := [.lit (.bool true)], args := [d] }
  | _ => none }
def dnsChecksRow : OpenClaim := { program := "ytogmkdhljifbpaadoor", sum := "57bc80fd77cbf4f6faa77ac049ca68831f29bc2df8bf4f5881825b462887ea3d", func := "hearsay/hearsaylaw.DnsChecks", spec := "dnsChecks", inPlace := ["internal/bytealg.IndexByteString", "internal/bytealg.IndexString", "internal/bytealg.CountString", "internal/abi.NoEscape", "internal/bytealg.MakeNoZero"], unfollowed := true, recurses := true, named := ["internal/bytealg.MaxLen", "unicode/utf8.first", "unicode/utf8.acceptRanges"], apart := false, laid := [("unicode/utf8.acceptRanges", laid_unicode_utf8_acceptRanges), ("unicode/utf8.first", laid_unicode_utf8_first)] }
def DnsChecksSaid : Prop := dnsChecksRow.holds Tryd.pinned (OpenSpec.ofChange dnsChecksSpec)

/-- ITS FALSE NEIGHBOUR: 'it returns false'. Refute it at one input. -/
def dnsChecksWrong : ChangeSpec := { name := "dnsChecks", fn := fun _ => fun
  | [d] => { results := [.lit (.bool false)], args := [d] }
  | _ => none }
def DnsChecksWrongFalsely : Prop := dnsChecksRow.holds Tryd.pinned (OpenSpec.ofChange dnsChecksWrong)

/-- 'hearsaylaw.DnsWrites': WHATEVER THE INPUT: true; the input reads as it did. -/
def dnsWritesSpec : ChangeSpec := { name := "dnsWrites", fn := fun _ => fun
  | [d] => { results := [.lit (.bool true)], args := [d] }
  | _ => none }
def dnsWritesRow : OpenClaim := { program := "ytogmkdhljifbpaadoor", sum := "57bc80fd77cbf4f6faa77ac049ca68831f29bc2df8bf4f5881825b462887ea3d", func := "hearsay/hearsaylaw.DnsWrites", spec := "dnsWrites", inPlace := ["internal/bytealg.IndexByteString", "internal/bytealg.IndexString", "internal/bytealg.CountString", "internal/abi.NoEscape", "internal/bytealg.MakeNoZero"], unfollowed := true, recurses := true, named := ["internal/bytealg.MaxLen", "unicode/utf8.first", "unicode/utf8.acceptRanges"], apart := false, laid := [("unicode/utf8.acceptRanges", laid_unicode_utf8_acceptRanges), ("unicode/utf8.first", laid_unicode_utf8_first)] }
def DnsWritesSaid : Prop := dnsWritesRow.holds Tryd.pinned (OpenSpec.ofChange dnsWritesSpec)

/-- ITS FALSE NEIGHBOUR: 'it returns false'. Refute it at one input. -/
def dnsWritesWrong : ChangeSpec := { name := "dnsWrites", fn := fun _ => fun
  | [d] => { results := [.lit (.bool false)], args := [d] }
  | _ => none }
def DnsWritesWrongFalsely : Prop := dnsWritesRow.holds Tryd.pinned (OpenSpec.ofChange dnsWritesWrong)

/-- 'hearsaylaw.DnsReads': WHATEVER THE INPUT: true; the input reads as it did. -/
def dnsReadsSpec : ChangeSpec := { name := "dnsReads", fn := fun _ => fun
  | [d] => { results := [.lit (.bool true)], args := [d] }
  | _ => none }
def dnsReadsRow : OpenClaim := { program := "ytogmkdhljifbpaadoor", sum := "57bc80fd77cbf4f6faa77ac049ca68831f29bc2df8bf4f5881825b462887ea3d", func := "hearsay/hearsaylaw.DnsReads", spec := "dnsReads", inPlace := ["internal/abi.NoEscape", "internal/bytealg.MakeNoZero", "internal/bytealg.IndexByteString", "internal/bytealg.IndexString", "internal/bytealg.CountString"], unfollowed := true, recurses := true, named := ["internal/bytealg.MaxLen", "unicode/utf8.first", "unicode/utf8.acceptRanges"], apart := false, laid := [("unicode/utf8.acceptRanges", laid_unicode_utf8_acceptRanges), ("unicode/utf8.first", laid_unicode_utf8_first)] }
def DnsReadsSaid : Prop := dnsReadsRow.holds Tryd.pinned (OpenSpec.ofChange dnsReadsSpec)

/-- ITS FALSE NEIGHBOUR: 'it returns false'. Refute it at one input. -/
def dnsReadsWrong : ChangeSpec := { name := "dnsReads", fn := fun _ => fun
  | [d] => { results := [.lit (.bool false)], args := [d] }
  | _ => none }
def DnsReadsWrongFalsely : Prop := dnsReadsRow.holds Tryd.pinned (OpenSpec.ofChange dnsReadsWrong)

/-- 'hearsaylaw.DnsFits': WHATEVER THE INPUT: true; the input reads as it did. -/
def dnsFitsSpec : ChangeSpec := { name := "dnsFits", fn := fun _ => fun
  | [d1, d2] => { results := [.lit (.bool true)], args := [d1, d2] }
  | _ => none }
def dnsFitsRow : OpenClaim := { program := "ytogmkdhljifbpaadoor", sum := "57bc80fd77cbf4f6faa77ac049ca68831f29bc2df8bf4f5881825b462887ea3d", func := "hearsay/hearsaylaw.DnsFits", spec := "dnsFits", inPlace := ["internal/bytealg.IndexByteString", "internal/bytealg.IndexString", "internal/bytealg.CountString", "internal/abi.NoEscape", "internal/bytealg.MakeNoZero"], unfollowed := true, recurses := true, named := ["internal/bytealg.MaxLen", "unicode/utf8.first", "unicode/utf8.acceptRanges"], apart := false, laid := [("unicode/utf8.acceptRanges", laid_unicode_utf8_acceptRanges), ("unicode/utf8.first", laid_unicode_utf8_first)] }
def DnsFitsSaid : Prop := dnsFitsRow.holds Tryd.pinned (OpenSpec.ofChange dnsFitsSpec)

/-- ITS FALSE NEIGHBOUR: 'it returns false'. Refute it at one input. -/
def dnsFitsWrong : ChangeSpec := { name := "dnsFits", fn := fun _ => fun
  | [d1, d2] => { results := [.lit (.bool false)], args := [d1, d2] }
  | _ => none }
def DnsFitsWrongFalsely : Prop := dnsFitsRow.holds Tryd.pinned (OpenSpec.ofChange dnsFitsWrong)

/-- 'hearsaylaw.DnsBack': WHATEVER THE INPUT: true; the input reads as it did. -/
def dnsBackSpec : ChangeSpec := { name := "dnsBack", fn := fun _ => fun
  | [d1, d2] => { results := [.lit (.bool true)], args := [d1, d2] }
  | _ => none }
def dnsBackRow : OpenClaim := { program := "ytogmkdhljifbpaadoor", sum := "57bc80fd77cbf4f6faa77ac049ca68831f29bc2df8bf4f5881825b462887ea3d", func := "hearsay/hearsaylaw.DnsBack", spec := "dnsBack", inPlace := ["internal/bytealg.IndexByteString", "internal/bytealg.IndexString", "internal/bytealg.CountString", "internal/abi.NoEscape", "internal/bytealg.MakeNoZero"], unfollowed := true, recurses := true, named := ["internal/bytealg.MaxLen", "unicode/utf8.first", "unicode/utf8.acceptRanges"], apart := false, laid := [("unicode/utf8.acceptRanges", laid_unicode_utf8_acceptRanges), ("unicode/utf8.first", laid_unicode_utf8_first)] }
def DnsBackSaid : Prop := dnsBackRow.holds Tryd.pinned (OpenSpec.ofChange dnsBackSpec)

/-- ITS FALSE NEIGHBOUR: 'it returns false'. Refute it at one input. -/
def dnsBackWrong : ChangeSpec := { name := "dnsBack", fn := fun _ => fun
  | [d1, d2] => { results := [.lit (.bool false)], args := [d1, d2] }
  | _ => none }
def DnsBackWrongFalsely : Prop := dnsBackRow.holds Tryd.pinned (OpenSpec.ofChange dnsBackWrong)

/-- 'hearsaylaw.DnsCuts': WHATEVER THE INPUT: true; the input reads as it did. -/
def dnsCutsSpec : ChangeSpec := { name := "dnsCuts", fn := fun _ => fun
  | [d1, d2] => { results := [.lit (.bool true)], args := [d1, d2] }
  | _ => none }
def dnsCutsRow : OpenClaim := { program := "ytogmkdhljifbpaadoor", sum := "57bc80fd77cbf4f6faa77ac049ca68831f29bc2df8bf4f5881825b462887ea3d", func := "hearsay/hearsaylaw.DnsCuts", spec := "dnsCuts", inPlace := ["internal/bytealg.IndexByteString", "internal/bytealg.IndexString", "internal/bytealg.CountString", "internal/abi.NoEscape", "internal/bytealg.MakeNoZero"], unfollowed := true, recurses := true, named := ["internal/bytealg.MaxLen", "unicode/utf8.first", "unicode/utf8.acceptRanges"], apart := false, laid := [("unicode/utf8.acceptRanges", laid_unicode_utf8_acceptRanges), ("unicode/utf8.first", laid_unicode_utf8_first)] }
def DnsCutsSaid : Prop := dnsCutsRow.holds Tryd.pinned (OpenSpec.ofChange dnsCutsSpec)

/-- ITS FALSE NEIGHBOUR: 'it returns false'. Refute it at one input. -/
def dnsCutsWrong : ChangeSpec := { name := "dnsCuts", fn := fun _ => fun
  | [d1, d2] => { results := [.lit (.bool false)], args := [d1, d2] }
  | _ => none }
def DnsCutsWrongFalsely : Prop := dnsCutsRow.holds Tryd.pinned (OpenSpec.ofChange dnsCutsWrong)

/- THE SECOND FORM. 'bulk': how many values and letters a reading holds, each counted each time it is reached (what is shared counts as often as it is met; a slice's spare places count too). A statement '..UptoSaid' is the law's where the arguments, and the package variables that the reading takes, are together of bulk at most 1048576: NARROWER than '..Said'. Prove '..Said' where nothing that the law and all that it calls make is longer than what came in: it says more and counts as full. Else prove '..UptoSaid'. A law counts once. -/
mutual
def uptoBulk {H : Type} : DataW H → Nat
  | .lit (.string bytes) => bytes.length + 1
  | .lit _ => 1
  | .nil => 1
  | .ptr d => uptoBulk d + 1
  | .slice elems spare => uptoBulkAll elems + uptoBulkAll spare + 1
  | .agg parts => uptoBulkAll parts + 1
  | .iface _ d => uptoBulk d + 1
  | .map entries => uptoBulkEntries entries + 1
  | .held _ => 1
def uptoBulkAll {H : Type} : List (DataW H) → Nat
  | [] => 0
  | d :: r => uptoBulk d + uptoBulkAll r
def uptoBulkEntries {H : Type} : List (Lit × DataW H) → Nat
  | [] => 0
  | x :: r => uptoBulkEntry x + uptoBulkEntries r
def uptoBulkEntry {H : Type} : Lit × DataW H → Nat
  | (.string bytes, d) => bytes.length + uptoBulk d + 1
  | (_, d) => uptoBulk d + 1
 end
def uptoSmall : (H : Type) → List (DataW H) → Bool := fun _ ds => decide (uptoBulkAll ds ≤ 1048576)
def OpenSpec.upto (s : _root_.Go.ChangeSpec) : _root_.Go.OpenSpec := { _root_.Go.OpenSpec.ofChange s with cond := some uptoSmall }

/-- 'hearsaylaw.DnsChecks', WHERE WHAT IT READS IS OF BULK AT MOST 1048576: true; the input reads as it did. -/
def dnsChecksUptoRow : OpenClaim := { program := "ytogmkdhljifbpaadoor", sum := "57bc80fd77cbf4f6faa77ac049ca68831f29bc2df8bf4f5881825b462887ea3d", func := "hearsay/hearsaylaw.DnsChecks", spec := "dnsChecks", inPlace := ["internal/bytealg.IndexByteString", "internal/bytealg.IndexString", "internal/bytealg.CountString", "internal/abi.NoEscape", "internal/bytealg.MakeNoZero"], unfollowed := true, recurses := true, named := ["internal/bytealg.MaxLen", "unicode/utf8.first", "unicode/utf8.acceptRanges"], apart := false, laid := [("unicode/utf8.acceptRanges", laid_unicode_utf8_acceptRanges), ("unicode/utf8.first", laid_unicode_utf8_first)], narrowed := true }
def DnsChecksUptoSaid : Prop := dnsChecksUptoRow.holds Tryd.pinned (OpenSpec.upto dnsChecksSpec)

/-- 'hearsaylaw.DnsWrites', WHERE WHAT IT READS IS OF BULK AT MOST 1048576: true; the input reads as it did. -/
def dnsWritesUptoRow : OpenClaim := { program := "ytogmkdhljifbpaadoor", sum := "57bc80fd77cbf4f6faa77ac049ca68831f29bc2df8bf4f5881825b462887ea3d", func := "hearsay/hearsaylaw.DnsWrites", spec := "dnsWrites", inPlace := ["internal/bytealg.IndexByteString", "internal/bytealg.IndexString", "internal/bytealg.CountString", "internal/abi.NoEscape", "internal/bytealg.MakeNoZero"], unfollowed := true, recurses := true, named := ["internal/bytealg.MaxLen", "unicode/utf8.first", "unicode/utf8.acceptRanges"], apart := false, laid := [("unicode/utf8.acceptRanges", laid_unicode_utf8_acceptRanges), ("unicode/utf8.first", laid_unicode_utf8_first)], narrowed := true }
def DnsWritesUptoSaid : Prop := dnsWritesUptoRow.holds Tryd.pinned (OpenSpec.upto dnsWritesSpec)

/-- 'hearsaylaw.DnsReads', WHERE WHAT IT READS IS OF BULK AT MOST 1048576: true; the input reads as it did. -/
def dnsReadsUptoRow : OpenClaim := { program := "ytogmkdhljifbpaadoor", sum := "57bc80fd77cbf4f6faa77ac049ca68831f29bc2df8bf4f5881825b462887ea3d", func := "hearsay/hearsaylaw.DnsReads", spec := "dnsReads", inPlace := ["internal/abi.NoEscape", "internal/bytealg.MakeNoZero", "internal/bytealg.IndexByteString", "internal/bytealg.IndexString", "internal/bytealg.CountString"], unfollowed := true, recurses := true, named := ["internal/bytealg.MaxLen", "unicode/utf8.first", "unicode/utf8.acceptRanges"], apart := false, laid := [("unicode/utf8.acceptRanges", laid_unicode_utf8_acceptRanges), ("unicode/utf8.first", laid_unicode_utf8_first)], narrowed := true }
def DnsReadsUptoSaid : Prop := dnsReadsUptoRow.holds Tryd.pinned (OpenSpec.upto dnsReadsSpec)

/-- 'hearsaylaw.DnsFits', WHERE WHAT IT READS IS OF BULK AT MOST 1048576: true; the input reads as it did. -/
def dnsFitsUptoRow : OpenClaim := { program := "ytogmkdhljifbpaadoor", sum := "57bc80fd77cbf4f6faa77ac049ca68831f29bc2df8bf4f5881825b462887ea3d", func := "hearsay/hearsaylaw.DnsFits", spec := "dnsFits", inPlace := ["internal/bytealg.IndexByteString", "internal/bytealg.IndexString", "internal/bytealg.CountString", "internal/abi.NoEscape", "internal/bytealg.MakeNoZero"], unfollowed := true, recurses := true, named := ["internal/bytealg.MaxLen", "unicode/utf8.first", "unicode/utf8.acceptRanges"], apart := false, laid := [("unicode/utf8.acceptRanges", laid_unicode_utf8_acceptRanges), ("unicode/utf8.first", laid_unicode_utf8_first)], narrowed := true }
def DnsFitsUptoSaid : Prop := dnsFitsUptoRow.holds Tryd.pinned (OpenSpec.upto dnsFitsSpec)

/-- 'hearsaylaw.DnsBack', WHERE WHAT IT READS IS OF BULK AT MOST 1048576: true; the input reads as it did. -/
def dnsBackUptoRow : OpenClaim := { program := "ytogmkdhljifbpaadoor", sum := "57bc80fd77cbf4f6faa77ac049ca68831f29bc2df8bf4f5881825b462887ea3d", func := "hearsay/hearsaylaw.DnsBack", spec := "dnsBack", inPlace := ["internal/bytealg.IndexByteString", "internal/bytealg.IndexString", "internal/bytealg.CountString", "internal/abi.NoEscape", "internal/bytealg.MakeNoZero"], unfollowed := true, recurses := true, named := ["internal/bytealg.MaxLen", "unicode/utf8.first", "unicode/utf8.acceptRanges"], apart := false, laid := [("unicode/utf8.acceptRanges", laid_unicode_utf8_acceptRanges), ("unicode/utf8.first", laid_unicode_utf8_first)], narrowed := true }
def DnsBackUptoSaid : Prop := dnsBackUptoRow.holds Tryd.pinned (OpenSpec.upto dnsBackSpec)

/-- 'hearsaylaw.DnsCuts', WHERE WHAT IT READS IS OF BULK AT MOST 1048576: true; the input reads as it did. -/
def dnsCutsUptoRow : OpenClaim := { program := "ytogmkdhljifbpaadoor", sum := "57bc80fd77cbf4f6faa77ac049ca68831f29bc2df8bf4f5881825b462887ea3d", func := "hearsay/hearsaylaw.DnsCuts", spec := "dnsCuts", inPlace := ["internal/bytealg.IndexByteString", "internal/bytealg.IndexString", "internal/bytealg.CountString", "internal/abi.NoEscape", "internal/bytealg.MakeNoZero"], unfollowed := true, recurses := true, named := ["internal/bytealg.MaxLen", "unicode/utf8.first", "unicode/utf8.acceptRanges"], apart := false, laid := [("unicode/utf8.acceptRanges", laid_unicode_utf8_acceptRanges), ("unicode/utf8.first", laid_unicode_utf8_first)], narrowed := true }
def DnsCutsUptoSaid : Prop := dnsCutsUptoRow.holds Tryd.pinned (OpenSpec.upto dnsCutsSpec)

end Rows
end Go.Proofs.YtogmkdhljifbpaaDoor
