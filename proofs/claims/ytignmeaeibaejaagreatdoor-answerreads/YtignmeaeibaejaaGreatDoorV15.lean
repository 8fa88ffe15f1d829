import Derived.Test.YtignmeaeibaejaaGreatDoorV10
import Derived.Test.YtignmeaeibaejaaGreatDoorV8
namespace Go.Proofs.YtignmeaeibaejaaGreatDoor
open Go.RowKit
theorem ne_lit {s:ByteArray} (l:List UInt8) (h:s≠mk l):(s.toList == l)=false∧¬ s.toList=l:=by
 have h2:¬ s.toList=l:=fun e=>h (by rw [← e,Lib.toList_data,mk_data])
 exact ⟨by simpa using h2,h2⟩
abbrev lServ:List UInt8:=[115,101,114,118,105,99,101]
abbrev lNode:List UInt8:=[110,111,100,101]
abbrev lMesh:List UInt8:=[109,101,115,104]
theorem ne_serv {s:ByteArray} (h:s≠bServ):(s.toList == [115,101,114,118,105,99,101])=false∧¬ s.toList=[115,101,114,118,105,99,101]:=ne_lit lServ h
theorem ne_node {s:ByteArray} (h:s≠bNode):(s.toList == [110,111,100,101])=false∧¬ s.toList=[110,111,100,101]:=ne_lit lNode h
theorem ne_mesh {s:ByteArray} (h:s≠bMesh):(s.toList == [109,101,115,104])=false∧¬ s.toList=[109,101,115,104]:=ne_lit lMesh h
def bytes (s:ByteArray):List UInt8:=s.data.toList
def opt (s:ByteArray):List (List UInt8):=if s.size=0 then [] else [bytes s]
def pLabs (q:Qu):List (List UInt8):=
 if q.node.size=0 then opt q.tag++(opt q.service++([lServ]++(opt q.centre++[lMesh]))) else opt q.node++([lNode]++(opt q.centre++[lMesh]))
def prt (q:Qu):ByteArray:=mk (jn (pLabs q))
def prE (q:Qu):Int:=if chkQ q=0 then chkN (prt q) else chkQ q
def prS (q:Qu):ByteArray:=if prE q=0 then prt q else ⟨#[]⟩
theorem opt_full {s:ByteArray} (h:s.size≠0):opt s=[bytes s]:=if_neg h
theorem opt_none {s:ByteArray} (h:s.size=0):opt s=[]:=if_pos h
theorem chkQ_zero {q:Qu} (h:chkQ q=0):frmQ q=false∧labE q.service=true∧labE q.tag=true∧labE q.node=true∧labE q.centre=true∧wordB q=false:=by
 unfold chkQ at h
 split at h
 ·omega
 ·rename_i h1
  split at h
  ·omega
  ·rename_i h2
   split at h
   ·omega
   ·rename_i h3
    have h2':[q.service,q.tag,q.node,q.centre].all labE=true:=by simpa using h2
    simp only [List.all_cons,List.all_nil,Bool.and_true,Bool.and_eq_true] at h2'
    exact ⟨by simpa using h1,h2'.1,h2'.2.1,h2'.2.2.1,h2'.2.2.2,by simpa using h3⟩
theorem labE_size {s:ByteArray} (h:labE s=true):s.size≤30:=by
 unfold labE at h
 simp only [Bool.or_eq_true,decide_eq_true_eq] at h
 rcases h with rfl | h
 ·decide
 ·unfold labB at h
  simp only [Bool.and_eq_true,decide_eq_true_eq] at h
  exact h.1.2
theorem qbox {w w1:World} {a b c d:Value} {t:TypeId} (h:Below (w.alloc (.cells #[a,b,c,d] t)).heap.size (w.alloc (.cells #[a,b,c,d] t)) w1) :
 w1.cell? ⟨w.heap.size,0,none⟩=some a∧w1.cell? ⟨w.heap.size,1,none⟩=some b∧w1.cell? ⟨w.heap.size,2,none⟩=some c∧w1.cell? ⟨w.heap.size,3,none⟩=some d∧Hid (Below w.heap.size w w1)∧w.heap.size < w1.heap.size:=by
 have hg:w1.heap[w.heap.size]?=some (.cells #[a,b,c,d] t (0,0)):=(h.block _ (by simp)).trans (heap_alloc_new w _)
 exact ⟨cellsAt hg 0,cellsAt hg 1,cellsAt hg 2,cellsAt hg 3,((Below.refl _ _).alloc (Nat.le_refl _) _).trans (h.mono (by simp)),(Array.getElem?_eq_some_iff.1 hg).1⟩
theorem ret2_eq {a b:ByteArray} {x y:Int} (h1:a=b) (h2:x=y):Ending.returned (.tuple #[.string a,.int .i64 x])=.returned (.tuple #[.string b,.int .i64 y]):=by rw [h1,h2]
theorem prS_ret {E:Int} {T S:ByteArray} (h:S=if E=0 then T else ⟨#[]⟩) (h0:E=0):S=T:=by rw [h,if_pos h0]
end Go.Proofs.YtignmeaeibaejaaGreatDoor
