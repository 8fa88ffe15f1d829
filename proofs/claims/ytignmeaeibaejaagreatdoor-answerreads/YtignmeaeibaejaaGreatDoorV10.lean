import Derived.Test.YtignmeaeibaejaaGreatDoorV1
import Derived.Test.YtignmeaeibaejaaGreatDoorV2
import Derived.Test.YtignmeaeibaejaaGreatDoorV6
import Derived.Test.YtignmeaeibaejaaGreatDoorV8
import Derived.Deep.Slices
import Derived.Lib.SmallJoins
import Derived.ProofKit
import Derived.OpenShut
import Derived.Handed
namespace Go.Proofs.YtignmeaeibaejaaGreatDoor
namespace Sv
open Go.RowKit
structure Svc where
 node:ByteArray
 idn:ByteArray
 name:ByteArray
 tag:ByteArray
 addr:Int
 port:Int
 passing:Bool
 version:Int
 gone:Bool
def dm:Svc:=⟨ByteArray.empty,ByteArray.empty,ByteArray.empty,ByteArray.empty,0,0,false,0,false⟩
def Svc.ok (m:Svc):Prop:=m.node.size≤maxLen∧m.idn.size≤maxLen∧m.name.size≤maxLen∧m.tag.size≤maxLen
theorem dm_ok:dm.ok:=by simp [Svc.ok,dm]
def Row (w:World) (b off:Nat) (ms:List Svc):Prop:=∀ j,j < ms.length →
 w.cell? ⟨b,off+j * 9,none⟩=some (.string (ms.getD j dm).node)∧w.cell? ⟨b,off+j * 9+1,none⟩=some (.string (ms.getD j dm).idn)∧w.cell? ⟨b,off+j * 9+2,none⟩=some (.string (ms.getD j dm).name)∧w.cell? ⟨b,off+j * 9+3,none⟩=some (.string (ms.getD j dm).tag)∧w.cell? ⟨b,off+j * 9+4,none⟩=some (.int .i64 (ms.getD j dm).addr)∧w.cell? ⟨b,off+j * 9+5,none⟩=some (.int .i64 (ms.getD j dm).port)∧w.cell? ⟨b,off+j * 9+6,none⟩=some (.bool (ms.getD j dm).passing)∧w.cell? ⟨b,off+j * 9+7,none⟩=some (.int .i64 (ms.getD j dm).version)∧w.cell? ⟨b,off+j * 9+8,none⟩=some (.bool (ms.getD j dm).gone)
def Sl (w:World) (v:Value) (ms:List Svc):Prop:=
 ∃ (a:Option Addr) (cap:Nat),v=.slice a ms.length cap∧(∀ j,(ms.getD j dm).ok) ∧
  (ms=[]∨∃ b off,a=some ⟨b,off,none⟩∧b < w.heap.size∧Row w b off ms)
def Svc.cs (m:Svc):List Value:=[.string m.node,.string m.idn,.string m.name,.string m.tag,.int .i64 m.addr,.int .i64 m.port,.bool m.passing,.int .i64 m.version,.bool m.gone]
def fl (ms:List Svc):List Value:=ms.flatMap Svc.cs
theorem cs_len (m:Svc):m.cs.length=9:=rfl
theorem fl_cons (m:Svc) (r:List Svc):fl (m :: r)=m.cs++fl r:=by simp [fl]
theorem fl_append (a b:List Svc):fl (a++b)=fl a++fl b:=by simp [fl]
theorem fl_len:∀ ms:List Svc,(fl ms).length=ms.length * 9
 | []=>rfl
 | m :: r=>by rw [fl_cons,List.length_append,fl_len r,cs_len,List.length_cons];omega
theorem cs_one (m:Svc):∀ v∈m.cs,v.oneCell'=true:=by
 intro v hv;simp [Svc.cs] at hv;rcases hv with rfl | rfl | rfl | rfl | rfl | rfl | rfl | rfl | rfl<;>rfl
theorem fl_one (ms:List Svc):∀ v∈fl ms,v.oneCell'=true:=by
 intro v hv
 obtain ⟨m,_,h⟩:=List.mem_flatMap.1 hv
 exact cs_one m v h
theorem fl_get (ms:List Svc) (j:Nat) (hj:j < ms.length) (t:Nat) (ht:t < 9):(fl ms)[j * 9+t]?=(ms.getD j dm).cs[t]?:=by
 induction ms generalizing j with
 | nil=>simp at hj
 | cons m r ih=>
   rw [fl_cons]
   cases j with
   | zero=>rw [List.getElem?_append_left (by rw [cs_len];omega)];simp
   | succ j=>
     rw [List.getElem?_append_right (by rw [cs_len];omega),cs_len,show (j+1) * 9+t - 9=j * 9+t by omega,ih j (by simpa using hj)]
     simp
abbrev Own (base:Nat) (w:World) (v:Value) (ms:List Svc):Prop:=w.ownsRow base 57 9 v ms.length (fl ms)
theorem own_of {base g G:Nat} {w:World} {cur:Array Value} {ms:List Svc} (hb:base≤g) (hg:w.heap[g]?=some (.cells cur 57 (0,0))) (hs:cur.size=G * 9) (hn:ms.length≤G) (hG:G≤maxLen) (ht:cur.toList.take (ms.length * 9)=fl ms) :
 Own base w (.slice (some ⟨g,0,none⟩) ms.length G) ms:=⟨fl_len ms,.inr ⟨g,G,cur,rfl,hb,hg,hn,hG,hs,ht⟩⟩
theorem Own.sl {base:Nat} {w:World} {v:Value} {ms:List Svc} (h:Own base w v ms) (hs:∀ j,(ms.getD j dm).ok):Sl w v ms:=by
 rcases h.2 with ⟨rfl,h0⟩ | ⟨g,c,cur,rfl,hbg,hg,hnc,hcm,hcs,htake⟩
 ·exact ⟨none,0,by rw [h0],hs,.inl (List.eq_nil_of_length_eq_zero h0)⟩
 ·refine ⟨_,c,rfl,hs,.inr ⟨g,0,rfl,(Array.getElem?_eq_some_iff.1 hg).1,fun j hj=>?_⟩⟩
  have hc:∀ t,t < 9→w.cell? ⟨g,0+j * 9+t,none⟩=(ms.getD j dm).cs[t]?:=fun t ht=>by
   rw [cellsAt hg,← fl_get ms j hj t ht,← htake,List.getElem?_take_of_lt (by omega)];simp
  exact ⟨hc 0 (by omega),hc 1 (by omega),hc 2 (by omega),hc 3 (by omega),hc 4 (by omega),hc 5 (by omega),hc 6 (by omega),hc 7 (by omega),hc 8 (by omega)⟩
theorem Own.below {base:Nat} {w w':World} {v:Value} {ms:List Svc} (h:Own base w v ms) (hb:Below w.heap.size w w'):Own base w' v ms:=by
 rcases h.2 with ⟨rfl,h0⟩ | ⟨g,c,cur,rfl,hbg,hg,hnc,hcm,hcs,htake⟩
 ·exact ⟨h.1,.inl ⟨rfl,h0⟩⟩
 ·have hlt:g < w.heap.size:=(Array.getElem?_eq_some_iff.1 hg).1
  exact ⟨h.1,.inr ⟨g,c,cur,rfl,hbg,(hb.block g hlt).trans hg,hnc,hcm,hcs,htake⟩⟩
theorem Own.lt {base:Nat} {w:World} {v:Value} {ms:List Svc} (h:Own base w v ms) (k:Nat) (hk:v.ownBlock=some k):base≤k∧k < w.heap.size:=World.ownsRow.lt h k hk
theorem own_cells {base g c:Nat} {w:World} {ms:List Svc} (h:Own base w (.slice (some ⟨g,0,none⟩) ms.length c) ms) (j:Nat) (hj:j < ms.length) :
 w.cell? ⟨g,j * 9,none⟩=some (.string (ms.getD j dm).node)∧w.cell? ⟨g,j * 9+1,none⟩=some (.string (ms.getD j dm).idn)∧w.cell? ⟨g,j * 9+2,none⟩=some (.string (ms.getD j dm).name)∧w.cell? ⟨g,j * 9+3,none⟩=some (.string (ms.getD j dm).tag)∧w.cell? ⟨g,j * 9+4,none⟩=some (.int .i64 (ms.getD j dm).addr)∧w.cell? ⟨g,j * 9+5,none⟩=some (.int .i64 (ms.getD j dm).port)∧w.cell? ⟨g,j * 9+6,none⟩=some (.bool (ms.getD j dm).passing)∧w.cell? ⟨g,j * 9+7,none⟩=some (.int .i64 (ms.getD j dm).version)∧w.cell? ⟨g,j * 9+8,none⟩=some (.bool (ms.getD j dm).gone):=by
 rcases h.2 with ⟨h1,_⟩ | ⟨g',c',cur,h1,hbg,hg,hnc,hcm,hcs,htake⟩
 ·cases h1
 ·simp only [Value.slice.injEq,Option.some.injEq,Addr.mk.injEq] at h1
  obtain ⟨⟨rfl,_,_⟩,_,_⟩:=h1
  have hc:∀ t,t < 9→w.cell? ⟨g,j * 9+t,none⟩=(ms.getD j dm).cs[t]?:=fun t ht=>by
   rw [cellsAt hg,← fl_get ms j hj t ht,← htake,List.getElem?_take_of_lt (by omega)];simp
  exact ⟨hc 0 (by omega),hc 1 (by omega),hc 2 (by omega),hc 3 (by omega),hc 4 (by omega),hc 5 (by omega),hc 6 (by omega),hc 7 (by omega),hc 8 (by omega)⟩
theorem own_form {base:Nat} {w:World} {v:Value} {ms:List Svc} (h:Own base w v ms) (p:Nat) (hp:p < ms.length):∃ g c,v=.slice (some ⟨g,0,none⟩) ms.length c:=by
 rcases h.2 with ⟨_,h0⟩ | ⟨g,c,cur,h1,_⟩
 ·omega
 ·exact ⟨g,c,h1⟩
theorem Sl.below {w w':World} {v:Value} {ms:List Svc} (h:Sl w v ms) (hb:Below w.heap.size w w'):Sl w' v ms:=by
 obtain ⟨a,cap,rfl,hs,h⟩:=h
 refine ⟨a,cap,rfl,hs,?_⟩
 rcases h with h | ⟨b,off,rfl,hlt,hr⟩
 ·exact .inl h
 ·refine .inr ⟨b,off,rfl,Nat.lt_of_lt_of_le hlt hb.size,fun j hj=>?_⟩
  obtain ⟨hc,_⟩:=bcell hb
  obtain ⟨c0,c1,c2,c3,c4,c5,c6,c7,c8⟩:=hr j hj
  exact ⟨(hc _ _ hlt).trans c0,(hc _ _ hlt).trans c1,(hc _ _ hlt).trans c2,(hc _ _ hlt).trans c3,(hc _ _ hlt).trans c4,(hc _ _ hlt).trans c5,(hc _ _ hlt).trans c6,(hc _ _ hlt).trans c7,(hc _ _ hlt).trans c8⟩
theorem Row.later {w w':World} {b off:Nat} {ms:List Svc} (hr:Row w b off ms) (hb:Below w.heap.size w w') (hlt:b < w.heap.size):Row w' b off ms:=fun j hj=>by
 obtain ⟨hc,_⟩:=bcell hb
 obtain ⟨c0,c1,c2,c3,c4,c5,c6,c7,c8⟩:=hr j hj
 exact ⟨(hc _ _ hlt).trans c0,(hc _ _ hlt).trans c1,(hc _ _ hlt).trans c2,(hc _ _ hlt).trans c3,(hc _ _ hlt).trans c4,(hc _ _ hlt).trans c5,(hc _ _ hlt).trans c6,(hc _ _ hlt).trans c7,(hc _ _ hlt).trans c8⟩
theorem Own.mono {base base':Nat} {w:World} {v:Value} {ms:List Svc} (h:Own base w v ms) (hb:base'≤base):Own base' w v ms:=by
 rcases h.2 with ⟨rfl,h0⟩ | ⟨g,c,cur,rfl,hbg,hg,hnc,hcm,hcs,htake⟩
 ·exact ⟨h.1,.inl ⟨rfl,h0⟩⟩
 ·exact ⟨h.1,.inr ⟨g,c,cur,rfl,Nat.le_trans hb hbg,hg,hnc,hcm,hcs,htake⟩⟩
theorem own_nil (base:Nat) (w:World):Own base w (.slice none 0 0) []:=World.ownsRow_nil w base 57 9
theorem ns_mem {ms:List Svc} (h:∀ j,(ms.getD j dm).ok):∀ m∈ms,(m).ok:=by
 intro m hm
 obtain ⟨j,hj,rfl⟩:=List.getElem_of_mem hm
 have:=h j
 simpa [List.getD,List.getElem?_eq_getElem hj] using this
theorem ns_get {ms:List Svc} (h:∀ m∈ms,(m).ok):∀ j,(ms.getD j dm).ok:=by
 intro j
 by_cases hj:j < ms.length
 ·have:=h ms[j] (List.getElem_mem hj)
  simpa [List.getD,List.getElem?_eq_getElem hj] using this
 ·rw [List.getD,List.getElem?_eq_none (Nat.le_of_not_lt hj)];exact dm_ok
theorem own_names {base:Nat} {w:World} {v:Value} {ms:List Svc} (h:Own base w v ms) (hs:∀ m∈ms,(m).ok):Sl w v ms:=h.sl (ns_get hs)
theorem sl_one (w:World) (b cap:Nat) (m:Svc) (hm:(m).ok) (hg:w.heap[b]?=some (.cells #[.string m.node,.string m.idn,.string m.name,.string m.tag,.int .i64 m.addr,.int .i64 m.port,.bool m.passing,.int .i64 m.version,.bool m.gone] 57 (0,0))):Sl w (.slice (some ⟨b,0,none⟩) 1 cap) [m]:=by
 refine ⟨_,cap,rfl,ns_get (fun x hx=>by simp at hx;subst hx;exact hm),.inr ⟨b,0,rfl,(Array.getElem?_eq_some_iff.1 hg).1,fun j hj=>?_⟩⟩
 have:j=0:=by simpa using hj
 subst this
 exact ⟨cellsAt hg (0+0 * 9),cellsAt hg (0+0 * 9+1),cellsAt hg (0+0 * 9+2),cellsAt hg (0+0 * 9+3),cellsAt hg (0+0 * 9+4),cellsAt hg (0+0 * 9+5),cellsAt hg (0+0 * 9+6),cellsAt hg (0+0 * 9+7),cellsAt hg (0+0 * 9+8)⟩
theorem own_snoc {base:Nat} {w:World} {v:Value} {L:List Svc} {m:Svc} (h:w.ownsRow base 57 9 v (L.length+1) (fl L++m.cs)):Own base w v (L++[m]):=by
 have e:fl (L++[m])=fl L++m.cs:=by rw [fl_append,fl_cons];simp [fl]
 show w.ownsRow base 57 9 v (L++[m]).length (fl (L++[m]))
 rw [e,List.length_append]
 exact h
end Sv
namespace Sv
open Go.RowKit
theorem Tryz.info57:(Tryz.prog.info? 57).map (fun i=>(i.zero,i.size,i.bytes))=some (some (.agg #[.string ⟨#[]⟩,.string ⟨#[]⟩,.string ⟨#[]⟩,.string ⟨#[]⟩,.int .i64 0,.int .i64 0,.bool false,.int .i64 0,.bool false]),9,104):=by kernel_rfl
end Sv
end Go.Proofs.YtignmeaeibaejaaGreatDoor
namespace Go.Proofs.YtignmeaeibaejaaGreatDoor
open Go.RowKit
structure Qu where
 service:ByteArray
 tag:ByteArray
 node:ByteArray
 centre:ByteArray
def Qu.ok (q:Qu):Prop:=q.service.size≤maxLen∧q.tag.size≤maxLen∧q.node.size≤maxLen∧q.centre.size≤maxLen
abbrev bServ:ByteArray:=⟨#[115,101,114,118,105,99,101]⟩
abbrev bNode:ByteArray:=⟨#[110,111,100,101]⟩
abbrev bMesh:ByteArray:=⟨#[109,101,115,104]⟩
def isW2 (x:ByteArray):Bool:=Lib.containsS [bServ,bNode] x
def isW3 (x:ByteArray):Bool:=Lib.containsS [bServ,bNode,bMesh] x
def wordB (q:Qu):Bool:=isW2 q.node || isW3 q.tag || isW3 q.service || isW3 q.centre
set_option maxHeartbeats 400000 in
theorem word_any (x:ByteArray) (zs:List ByteArray) (g c:Nat) (w:World) (hn:zs.length≤1000) (hc:∀ j,j < zs.length→w.cell? ⟨g,0+j,none⟩=some (.string (zs.getD j ByteArray.empty))) :
 Calls Tryz.prog 127 #[.string x,.slice (some ⟨g,0,none⟩) zs.length c] w fun e w'=>e=.returned (.bool (Lib.containsS zs x))∧w'=w:=by
 have HC:Hid (Calls Tryz.prog 128 #[.slice (some ⟨g,0,none⟩) zs.length c,.string x] w fun e w'=>e=.returned (.bool (Lib.containsS zs x))∧w'=w):=(show Calls _ _ _ _ _ by
  have h:=Tryz.slices_Contains_string g 0 zs.length c zs x w (Nat.le_refl _) (by omega) hc
  rwa [List.take_length] at h)
 clear hc
 go_enter Tryz.func127,Tryz.ntmps127
 go_wp2_with (go_at_call 128;refine HC.out.mono ?_;rintro e w' ⟨rfl,rfl⟩)
 go_ret
 exact ⟨rfl,rfl⟩
theorem new_at (W:World) {cs:Array Value} {t:TypeId} {g:Nat} (hg:g=W.heap.size):(W.alloc (.cells cs t)).heap[g]?=some (.cells cs t (0,0)):=by
 subst hg
 exact heap_alloc_new W _
theorem word2 (x:ByteArray) (W:World) (g:Nat) (hg:W.heap[g]?=some (.cells #[.string bServ,.string bNode] 9 (0,0))) :
 Calls Tryz.prog 127 #[.string x,.slice (some ⟨g,0,none⟩) 2 2] W fun e w'=>e=.returned (.bool (isW2 x))∧w'=W:=
 word_any x [bServ,bNode] g 2 W (by simp) (fun j hj=>by
  rw [cellsAt hg]
  match j,hj with
  | 0,_=>rfl
  | 1,_=>rfl)
theorem word3 (x:ByteArray) (W:World) (g:Nat) (hg:W.heap[g]?=some (.cells #[.string bServ,.string bNode,.string bMesh] 9 (0,0))) :
 Calls Tryz.prog 127 #[.string x,.slice (some ⟨g,0,none⟩) 3 3] W fun e w'=>e=.returned (.bool (isW3 x))∧w'=W:=
 word_any x [bServ,bNode,bMesh] g 3 W (by simp) (fun j hj=>by
  rw [cellsAt hg]
  match j,hj with
  | 0,_=>rfl
  | 1,_=>rfl
  | 2,_=>rfl)
set_option maxHeartbeats 1600000 in
set_option maxRecDepth 100000 in
theorem hasWord_any (q:Qu) (w:World) :
 Calls Tryz.prog 106 #[.agg #[.string q.service,.string q.tag,.string q.node,.string q.centre]] w fun e w'=>e=.returned (.bool (wordB q))∧Below w.heap.size w w':=by
 obtain ⟨sv,tg,nd,ce⟩:=q
 have HW:Hid (wordB ⟨sv,tg,nd,ce⟩=(isW2 nd || isW3 tg || isW3 sv || isW3 ce)):=rfl
 generalize wordB ⟨sv,tg,nd,ce⟩=r at *
 have HT:Hid (isW2 nd=true→r=true):=fun h=>by rw [HW.out,h];rfl
 have HT2:Hid (isW2 nd=false→isW3 tg=true→r=true):=fun h h2=>by rw [HW.out,h,h2];rfl
 have HT3:Hid (isW2 nd=false→isW3 tg=false→isW3 sv=true→r=true):=fun h h2 h3=>by rw [HW.out,h,h2,h3];rfl
 have HT4:Hid (isW2 nd=false→isW3 tg=false→isW3 sv=false→r=isW3 ce):=fun h h2 h3=>by rw [HW.out,h,h2,h3];rfl
 clear HW
 go_enter Tryz.func106,Tryz.ntmps106
 go_wp2_with fail
 refine (word2 _ _ _ (new_at _ (by simp))).mono ?_
 rintro e w' ⟨rfl,rfl⟩
 rcases h1:isW2 nd with _ | _
 ·go_wp2_with fail
  refine (word3 _ _ _ (new_at _ (by simp))).mono ?_
  rintro e w' ⟨rfl,rfl⟩
  rcases h2:isW3 tg with _ | _
  ·go_wp2_with fail
   refine (word3 _ _ _ (new_at _ (by simp))).mono ?_
   rintro e w' ⟨rfl,rfl⟩
   rcases h3:isW3 sv with _ | _
   ·have HR:Hid (r=isW3 ce):=HT4.out h1 h2 h3
    go_wp2_with fail
    refine (word3 _ _ _ (new_at _ (by simp))).mono ?_
    rintro e w' ⟨rfl,rfl⟩
    go_wp2_with fail
    go_ret
    refine ⟨ret_bool HR.out.symm,?_⟩
    repeat (first | exact Below.refl _ _ | refine Below.alloc ?_ (by simp<;>omega) _)
   ·have HR:Hid (r=true):=HT3.out h1 h2 h3
    go_wp2_with fail
    go_ret
    refine ⟨ret_bool HR.out.symm,?_⟩
    repeat (first | exact Below.refl _ _ | refine Below.alloc ?_ (by simp<;>omega) _)
  ·have HR:Hid (r=true):=HT2.out h1 h2
   go_wp2_with fail
   go_ret
   refine ⟨ret_bool HR.out.symm,?_⟩
   repeat (first | exact Below.refl _ _ | refine Below.alloc ?_ (by simp<;>omega) _)
 ·have HR:Hid (r=true):=HT.out h1
  go_wp2_with fail
  go_ret
  refine ⟨ret_bool HR.out.symm,?_⟩
  repeat (first | exact Below.refl _ _ | refine Below.alloc ?_ (by simp<;>omega) _)
def frmQ (q:Qu):Bool:=(decide (q.service.size=0) == decide (q.node.size=0)) || (decide (q.tag.size≠0) && decide (q.service.size=0))
def chkQ (q:Qu):Int:=
 if frmQ q=true then 1 else if [q.service,q.tag,q.node,q.centre].all labE=false then 1 else if wordB q=true then 7 else 0
theorem labels4 (q:Qu) (W:World) (g:Nat) (hq:q.ok) (hg:W.heap[g]?=some (.cells #[.string q.service,.string q.tag,.string q.node,.string q.centre] 9 (0,0))) :
 Calls Tryz.prog 99 #[.slice (some ⟨g,0,none⟩) 4 4] W fun e w'=>e=.returned (.bool ([q.service,q.tag,q.node,q.centre].all labE))∧w'=W:=
 labelsE_any [q.service,q.tag,q.node,q.centre] g 4 W (fun j hj=>by
  rw [cellsAt hg]
  match j,hj with
  | 0,_=>rfl
  | 1,_=>rfl
  | 2,_=>rfl
  | 3,_=>rfl) (fun j=>by
  match j with
  | 0=>exact hq.1
  | 1=>exact hq.2.1
  | 2=>exact hq.2.2.1
  | 3=>exact hq.2.2.2
  | _+4=>simp [List.getD]) (by simp)
set_option maxHeartbeats 3200000 in
set_option maxRecDepth 100000 in
theorem qCheck_any (q:Qu) (w:World) (hq:q.ok) :
 Calls Tryz.prog 82 #[.agg #[.string q.service,.string q.tag,.string q.node,.string q.centre]] w fun e w'=>e=.returned (.int .i64 (chkQ q))∧Below w.heap.size w w':=by
 have HLB:Hid (∀ g W,W.heap[g]?=some (.cells #[.string q.service,.string q.tag,.string q.node,.string q.centre] 9 (0,0))→Calls Tryz.prog 99 #[.slice (some ⟨g,0,none⟩) 4 4] W fun e w'=>e=.returned (.bool ([q.service,q.tag,q.node,q.centre].all labE))∧w'=W):=fun g W h=>labels4 q W g hq h
 have HWD:Hid (∀ W,Calls Tryz.prog 106 #[.agg #[.string q.service,.string q.tag,.string q.node,.string q.centre]] W fun e w'=>e=.returned (.bool (wordB q))∧Below W.heap.size W w'):=fun W=>hasWord_any q W
 have HR1:Hid (frmQ q=true→chkQ q=1):=fun h=>by unfold chkQ;rw [if_pos h]
 have HR2:Hid (frmQ q=false→[q.service,q.tag,q.node,q.centre].all labE=false→chkQ q=1):=fun h h2=>by unfold chkQ;rw [if_neg (by rw [h];simp),if_pos h2]
 have HR3:Hid (frmQ q=false→[q.service,q.tag,q.node,q.centre].all labE=true→chkQ q=if wordB q=true then 7 else 0):=fun h h2=>by unfold chkQ;rw [if_neg (by rw [h];simp),if_neg (by rw [h2];simp)]
 have HF:Hid (frmQ q=((decide (q.service.size=0) == decide (q.node.size=0)) || (decide (q.tag.size≠0) && decide (q.service.size=0)))):=rfl
 generalize [q.service,q.tag,q.node,q.centre].all labE=lb at *
 generalize wordB q=wb at *
 generalize chkQ q=r at *
 generalize frmQ q=fr at *
 obtain ⟨sv,tg,nd,ce⟩:=q
 simp only at HLB HWD HF ⊢
 clear hq
 by_cases hs:sv.size=0<;>by_cases hn:nd.size=0<;>by_cases ht:tg.size=0
 all_goals
  have HF2:=HF.out
  simp only [hs,hn,ht,decide_true,decide_false,Bool.or_false,Bool.or_true,beq_self_eq_true,ne_eq,not_true_eq_false,not_false_eq_true,Bool.and_true,Bool.and_false] at HF2
  clear HF
  first | (have es:=isempty hs;subst es) | (obtain ⟨s1,s2⟩:=nempty hs)
  first | (have en:=isempty hn;subst en) | (obtain ⟨n1,n2⟩:=nempty hn)
  first | (have et:=isempty ht;subst et) | (obtain ⟨t1,t2⟩:=nempty ht)
  clear hs hn ht
  go_enter Tryz.func82,Tryz.ntmps82
  go_wp2_with fail
 all_goals first
  | (go_ret
     exact ⟨ret_int (HR1.out HF2).symm,(Below.refl _ _).alloc (Nat.le_refl _) _⟩)
  | (have HF3:Hid (fr=false):=(show fr=false from HF2)
     clear HF2
     refine (HLB.out _ _ (new_at _ (by simp))).mono ?_
     rintro e w' ⟨rfl,rfl⟩
     rcases hl:lb with _ | _
     ·have HR:Hid (r=1):=HR2.out HF3.out hl
      go_wp2_with fail
      go_ret
      exact ⟨ret_int HR.out.symm,((Below.refl _ _).alloc (Nat.le_refl _) _).alloc (by simp) _⟩
     ·have HR:Hid (r=if wb=true then 7 else 0):=HR3.out HF3.out hl
      go_wp2_with fail
      refine (HWD.out _).mono ?_
      rintro e w1 ⟨rfl,hb1⟩
      have hb2:=hb1.size
      simp at hb2
      rcases hw:wb with _ | _
      ·rw [hw] at HR
       go_wp2_with fail
       go_ret
       exact ⟨ret_int HR.out.symm,(((Below.refl _ _).alloc (Nat.le_refl _) _).alloc (by simp) _).trans (hb1.mono (by simp;omega))⟩
      ·rw [hw] at HR
       go_wp2_with fail
       go_ret
       exact ⟨ret_int HR.out.symm,(((Below.refl _ _).alloc (Nat.le_refl _) _).alloc (by simp) _).trans (hb1.mono (by simp;omega))⟩)
end Go.Proofs.YtignmeaeibaejaaGreatDoor
namespace Go.Proofs.YtignmeaeibaejaaGreatDoor
namespace Sv
open Go.ChangeShapes Go.WideShapes Go.ChangeAt Go.RowKit
section
variable {H:Type} {enc:TypeId × Value→H} {w:World} {base:Nat} {spare:Nat→Bool} {held:Bool}
theorem Tryz.kcT:Tryz.prog.cellsOf 57=9:=by kernel_rfl
theorem Tryz.kc9:Tryz.prog.cellsOf 9=1:=by kernel_rfl
theorem Tryz.kc3:Tryz.prog.cellsOf 3=1:=by kernel_rfl
theorem Tryz.kc4:Tryz.prog.cellsOf 4=1:=by kernel_rfl
set_option maxRecDepth 100000 in
theorem elT_of_trod {fuel:Nat} {cs:List Value} {x:DataW H × List MemPlace} (h:DataW.trod enc Tryz.prog w base spare held fuel 57 cs=some x) :
 ∃ m:Svc,cs=[.string m.node,.string m.idn,.string m.name,.string m.tag,.int .i64 m.addr,.int .i64 m.port,.bool m.passing,.int .i64 m.version,.bool m.gone]∧(m).ok:=by
 obtain ⟨xs,n,_,_,hl,hlen,hf⟩:=DataW.trod_struct Tryz.underlying57 h
 rw [Tryz.kcT] at hl
 match cs,hl with
 | [c0,c1,c2,c3,c4,c5,c6,c7,c8],_=>
   match xs,hlen with
   | [y0,y1,y2,y3,y4,y5,y6,y7,y8],_=>
     have h0:=hf 0 _ rfl
     have h1:=hf 1 _ rfl
     have h2:=hf 2 _ rfl
     have h3:=hf 3 _ rfl
     have h4:=hf 4 _ rfl
     have h5:=hf 5 _ rfl
     have h6:=hf 6 _ rfl
     have h7:=hf 7 _ rfl
     have h8:=hf 8 _ rfl
     simp [Tryz.kc9] at h0
     simp [Tryz.kc9] at h1
     simp [Tryz.kc9] at h2
     simp [Tryz.kc9] at h3
     simp [Tryz.kc3] at h4
     simp [Tryz.kc3] at h5
     simp [Tryz.kc4] at h6
     simp [Tryz.kc3] at h7
     simp [Tryz.kc4] at h8
     obtain ⟨z0,e0,_,g0⟩:=DataW.trod_string Tryz.underlying9 h0
     obtain ⟨z1,e1,_,g1⟩:=DataW.trod_string Tryz.underlying9 h1
     obtain ⟨z2,e2,_,g2⟩:=DataW.trod_string Tryz.underlying9 h2
     obtain ⟨z3,e3,_,g3⟩:=DataW.trod_string Tryz.underlying9 h3
     obtain ⟨z4,e4,_⟩:=DataW.trod_int Tryz.underlying3 h4
     obtain ⟨z5,e5,_⟩:=DataW.trod_int Tryz.underlying3 h5
     obtain ⟨z6,e6,_⟩:=DataW.trod_bool Tryz.underlying4 h6
     obtain ⟨z7,e7,_⟩:=DataW.trod_int Tryz.underlying3 h7
     obtain ⟨z8,e8,_⟩:=DataW.trod_bool Tryz.underlying4 h8
     simp only [List.cons.injEq,and_true] at e0 e1 e2 e3 e4 e5 e6 e7 e8
     subst e0 e1 e2 e3 e4 e5 e6 e7 e8
     exact ⟨⟨z0,z1,z2,z3,z4,z5,z6,z7,z8⟩,rfl,⟨g0,g1,g2,g3⟩⟩
set_option maxRecDepth 100000 in
theorem elsT_of_trod {fuel:Nat} {cs:List Value} {x:DataW H × List MemPlace} (h:DataW.trod enc Tryz.prog w base spare held fuel 22 cs=some x) :
 ∃ (p:Option Addr) (n c:Nat) (ms:List Svc),cs=[.slice p n c]∧Sl w (.slice p n c) ms∧ms.length≤maxLen:=by
 rcases Go.Deep.open_slice Tryz.underlying22 h with ⟨hcs,_⟩ | ⟨x,len,cap,m,n,D,Pl,hcs,hb,hl,hm,hmm,_,hx⟩
 ·exact ⟨none,0,0,[],hcs,⟨none,0,rfl,ns_get (by simp),.inl rfl⟩,by simp⟩
 ·have hlm:len≤m:=by rw [hmm];split<;>omega
  have hall:∀ i,i < len→∃ q:Svc,(∀ t,t < 9→w.cell? (x.add (i * 9+t))=q.cs[t]?)∧(q).ok:=fun i hi=>by
   obtain ⟨cs',h1,h2⟩:=hx i (by omega)
   obtain ⟨q,hq,hs⟩:=elT_of_trod h2
   rw [Tryz.kcT] at h1
   obtain ⟨_,_,h3⟩:=World.cells?_some h1
   refine ⟨q,fun t ht=>?_,hs⟩
   rw [← Go.Deep.add_add,h3 t ht,hq]
   rfl
  have hinh:Inhabited Svc:=⟨dm⟩
  obtain ⟨F,hF⟩:=Go.Deep.choose_lt (α:=Svc) (p:=fun i q=>(∀ t,t < 9→w.cell? (x.add (i * 9+t))=q.cs[t]?)∧(q).ok) hall
  have hget:∀ j,j < len→((List.range len).map F).getD j dm=F j:=fun j hj=>by simp [List.getD,hj]
  refine ⟨some x,len,cap,(List.range len).map F,hcs,⟨some x,cap,by simp,ns_get (fun q hq=>?_),?_⟩,by simp;omega⟩
  ·obtain ⟨j,hj,rfl⟩:=List.mem_map.1 hq
   exact (hF j (List.mem_range.1 hj)).2
  ·by_cases h0:len=0
   ·left;simp [h0]
   ·right
    obtain ⟨b,off,spot⟩:=x
    have hc0:=(hF 0 (by omega)).1 0 (by omega)
    have hspot:spot=none:=by simpa [Addr.add] using World.cell?_spot hc0
    subst hspot
    have hcell:∀ j,j < len→∀ t,t < 9→w.cell? ⟨b,off+j * 9+t,none⟩=(F j).cs[t]?:=fun j hj t ht=>by
     have:=(hF j hj).1 t ht
     rwa [Go.WideShapes.add_plain,← Nat.add_assoc] at this
    refine ⟨b,off,rfl,World.block_lt_of_cell? w ⟨b,off+0 * 9+0,none⟩ (hcell 0 (by omega) 0 (by omega)),fun j hj=>?_⟩
    have hj':j < len:=by simpa using hj
    rw [hget j hj']
    exact ⟨hcell j hj' 0 (by omega),hcell j hj' 1 (by omega),hcell j hj' 2 (by omega),hcell j hj' 3 (by omega),hcell j hj' 4 (by omega),hcell j hj' 5 (by omega),hcell j hj' 6 (by omega),hcell j hj' 7 (by omega),hcell j hj' 8 (by omega)⟩
end
end Sv
namespace Wh
open Go.ChangeShapes Go.WideShapes Go.ChangeAt Go.RowKit
section
variable {H:Type} {enc:TypeId × Value→H} {w:World} {base:Nat} {spare:Nat→Bool} {held:Bool}
theorem Tryz.kcT:Tryz.prog.cellsOf 73=6:=by kernel_rfl
theorem Tryz.kc9:Tryz.prog.cellsOf 9=1:=by kernel_rfl
theorem Tryz.kc3:Tryz.prog.cellsOf 3=1:=by kernel_rfl
theorem Tryz.kc4:Tryz.prog.cellsOf 4=1:=by kernel_rfl
theorem kcP:Tryz.prog.cellsOf 25=5:=by kernel_rfl
set_option maxRecDepth 100000 in
theorem plT_of_trod {fuel:Nat} {cs:List Value} {x:DataW H × List MemPlace} (h:DataW.trod enc Tryz.prog w base spare held fuel 25 cs=some x) :
 ∃ a b c d e:Int,cs=[.int .i64 a,.int .i64 b,.int .i64 c,.int .i64 d,.int .i64 e]:=by
 obtain ⟨xs,n,_,_,hl,hlen,hf⟩:=DataW.trod_struct Tryz.underlying25 h
 rw [kcP] at hl
 match cs,hl with
 | [c0,c1,c2,c3,c4],_=>
   match xs,hlen with
   | [y0,y1,y2,y3,y4],_=>
     have h0:=hf 0 _ rfl
     have h1:=hf 1 _ rfl
     have h2:=hf 2 _ rfl
     have h3:=hf 3 _ rfl
     have h4:=hf 4 _ rfl
     simp [Tryz.kc3] at h0
     simp [Tryz.kc3] at h1
     simp [Tryz.kc3] at h2
     simp [Tryz.kc3] at h3
     simp [Tryz.kc3] at h4
     obtain ⟨a,e0,_,_⟩:=DataW.trod_int Tryz.underlying3 h0
     obtain ⟨b,e1,_,_⟩:=DataW.trod_int Tryz.underlying3 h1
     obtain ⟨c,e2,_,_⟩:=DataW.trod_int Tryz.underlying3 h2
     obtain ⟨d,e3,_,_⟩:=DataW.trod_int Tryz.underlying3 h3
     obtain ⟨e,e4,_,_⟩:=DataW.trod_int Tryz.underlying3 h4
     simp only [List.cons.injEq,and_true] at e0 e1 e2 e3 e4
     subst e0 e1 e2 e3 e4
     exact ⟨a,b,c,d,e,rfl⟩
set_option maxRecDepth 100000 in
theorem elT_of_trod {fuel:Nat} {cs:List Value} {x:DataW H × List MemPlace} (h:DataW.trod enc Tryz.prog w base spare held fuel 73 cs=some x) :
 ∃ m:Whe,cs=m.cs∧m.ok:=by
 obtain ⟨xs,n,_,_,hl,hlen,hf⟩:=DataW.trod_struct Tryz.underlying73 h
 rw [Tryz.kcT] at hl
 match cs,hl with
 | [c0,c1,c2,c3,c4,c5],_=>
   match xs,hlen with
   | [y0,y1],_=>
     have h0:=hf 0 _ rfl
     have h1:=hf 1 _ rfl
     simp [Tryz.kc9] at h0
     simp [kcP] at h1
     obtain ⟨s,e0,_,w0⟩:=DataW.trod_string Tryz.underlying9 h0
     obtain ⟨a,b,c,d,e,e1⟩:=plT_of_trod h1
     simp only [List.cons.injEq,and_true] at e0 e1
     obtain ⟨r1,r2,r3,r4,r5⟩:=e1
     subst e0 r1 r2 r3 r4 r5
     exact ⟨⟨s,a,b,c,d,e⟩,rfl,w0⟩
set_option maxRecDepth 100000 in
theorem elsT_of_trod {fuel:Nat} {cs:List Value} {x:DataW H × List MemPlace} (h:DataW.trod enc Tryz.prog w base spare held fuel 26 cs=some x) :
 ∃ (p:Option Addr) (n c:Nat) (ms:List Whe),cs=[.slice p n c]∧Sl w (.slice p n c) ms∧ms.length≤maxLen:=by
 rcases Go.Deep.open_slice Tryz.underlying26 h with ⟨hcs,_⟩ | ⟨x,len,cap,m,n,D,Pl,hcs,hb,hl,hm,hmm,_,hx⟩
 ·exact ⟨none,0,0,[],hcs,⟨none,0,rfl,ns_get (by simp),.inl rfl⟩,by simp⟩
 ·have hlm:len≤m:=by rw [hmm];split<;>omega
  have hall:∀ i,i < len→∃ q:Whe,(∀ t,t < 6→w.cell? (x.add (i * 6+t))=q.cs[t]?)∧(q).ok:=fun i hi=>by
   obtain ⟨cs',h1,h2⟩:=hx i (by omega)
   obtain ⟨q,hq,hs⟩:=elT_of_trod h2
   rw [Tryz.kcT] at h1
   obtain ⟨_,_,h3⟩:=World.cells?_some h1
   refine ⟨q,fun t ht=>?_,hs⟩
   rw [← Go.Deep.add_add,h3 t ht,hq]
  have hinh:Inhabited Whe:=⟨dm⟩
  obtain ⟨F,hF⟩:=Go.Deep.choose_lt (α:=Whe) (p:=fun i q=>(∀ t,t < 6→w.cell? (x.add (i * 6+t))=q.cs[t]?)∧(q).ok) hall
  have hget:∀ j,j < len→((List.range len).map F).getD j dm=F j:=fun j hj=>by simp [List.getD,hj]
  refine ⟨some x,len,cap,(List.range len).map F,hcs,⟨some x,cap,by simp,ns_get (fun q hq=>?_),?_⟩,by simp;omega⟩
  ·obtain ⟨j,hj,rfl⟩:=List.mem_map.1 hq
   exact (hF j (List.mem_range.1 hj)).2
  ·by_cases h0:len=0
   ·left;simp [h0]
   ·right
    obtain ⟨b,off,spot⟩:=x
    have hc0:=(hF 0 (by omega)).1 0 (by omega)
    have hspot:spot=none:=by simpa [Addr.add] using World.cell?_spot hc0
    subst hspot
    have hcell:∀ j,j < len→∀ t,t < 6→w.cell? ⟨b,off+j * 6+t,none⟩=(F j).cs[t]?:=fun j hj t ht=>by
     have:=(hF j hj).1 t ht
     rwa [Go.WideShapes.add_plain,← Nat.add_assoc] at this
    refine ⟨b,off,rfl,World.block_lt_of_cell? w ⟨b,off+0 * 6+0,none⟩ (hcell 0 (by omega) 0 (by omega)),fun j hj=>?_⟩
    have hj':j < len:=by simpa using hj
    rw [hget j hj']
    exact ⟨hcell j hj' 0 (by omega),hcell j hj' 1 (by omega),hcell j hj' 2 (by omega),hcell j hj' 3 (by omega),hcell j hj' 4 (by omega),hcell j hj' 5 (by omega)⟩
end
end Wh
end Go.Proofs.YtignmeaeibaejaaGreatDoor
namespace Go.Proofs.YtignmeaeibaejaaGreatDoor
open Go.ChangeShapes Go.WideShapes Go.ChangeAt Go.RowKit
section
variable {H:Type} {enc:TypeId × Value→H} {w:World} {base:Nat} {spare:Nat→Bool} {held:Bool}
theorem Tryz.kcKn:Tryz.prog.cellsOf 28=9:=by kernel_rfl
theorem Tryz.kcS:Tryz.prog.cellsOf 22=1:=by kernel_rfl
theorem Tryz.kcM:Tryz.prog.cellsOf 23=1:=by kernel_rfl
theorem Tryz.kcW:Tryz.prog.cellsOf 26=1:=by kernel_rfl
set_option maxRecDepth 100000 in
theorem kn_of_trod {fuel:Nat} {cs:List Value} {x:DataW H × List MemPlace} (h:DataW.trod enc Tryz.prog w base spare held fuel 28 cs=some x) :
 ∃ (here:ByteArray) (ps pm pw:Option Addr) (ns cn nm cm nw cw:Nat) (px py pz ph pq:Int) (sv:List Sv.Svc) (ms:List Mem) (wh:List Wh.Whe),cs=[.string here,.slice ps ns cn,.slice pm nm cm,.int .i64 px,.int .i64 py,.int .i64 pz,.int .i64 ph,.int .i64 pq,.slice pw nw cw]∧here.size≤maxLen∧Sv.Sl w (.slice ps ns cn) sv∧Sl w (.slice pm nm cm) ms∧Wh.Sl w (.slice pw nw cw) wh:=by
 obtain ⟨xs,n,_,_,hl,hlen,hf⟩:=DataW.trod_struct Tryz.underlying28 h
 rw [Tryz.kcKn] at hl
 match cs,hl with
 | [c0,c1,c2,c3,c4,c5,c6,c7,c8],_=>
   match xs,hlen with
   | [y0,y1,y2,y3,y4],_=>
     have h0:=hf 0 _ rfl
     have h1:=hf 1 _ rfl
     have h2:=hf 2 _ rfl
     have h3:=hf 3 _ rfl
     have h4:=hf 4 _ rfl
     simp [Tryz.kc9] at h0
     simp [Tryz.kcS] at h1
     simp [Tryz.kcM] at h2
     simp [Wh.kcP] at h3
     simp [Tryz.kcW] at h4
     obtain ⟨s,e0,_,w0⟩:=DataW.trod_string Tryz.underlying9 h0
     obtain ⟨ps,ns,cn,sv,e1,k1,_⟩:=Sv.elsT_of_trod h1
     obtain ⟨pm,nm,cm,ms,e2,k2,_⟩:=elsT_of_trod h2
     obtain ⟨a,b,c,d,e,e3⟩:=Wh.plT_of_trod h3
     obtain ⟨pw,nw,cw,wh,e4,k4,_⟩:=Wh.elsT_of_trod h4
     simp only [List.cons.injEq,and_true] at e0 e1 e2 e3 e4
     obtain ⟨r1,r2,r3,r4,r5⟩:=e3
     subst e0 e1 e2 r1 r2 r3 r4 r5 e4
     exact ⟨s,ps,pm,pw,ns,cn,nm,cm,nw,cw,a,b,c,d,e,sv,ms,wh,rfl,w0,k1,k2,k4⟩
set_option maxRecDepth 100000 in
theorem open_known {r:Reach} {b0:Nat} {v:Value} {d:DataW H} {p:List MemPlace} (hv:Value.okWide Tryz.prog w r b0 28 v) (h:DataW.Trod enc Tryz.prog w base spare held 28 v d p) :
 ∃ (here:ByteArray) (ps pm pw:Option Addr) (ns cn nm cm nw cw:Nat) (px py pz ph pq:Int) (sv:List Sv.Svc) (ms:List Mem) (wh:List Wh.Whe),v=.agg #[.string here,.slice ps ns cn,.slice pm nm cm,.int .i64 px,.int .i64 py,.int .i64 pz,.int .i64 ph,.int .i64 pq,.slice pw nw cw]∧here.size≤maxLen∧Sv.Sl w (.slice ps ns cn) sv∧Sl w (.slice pm nm cm) ms∧Wh.Sl w (.slice pw nw cw) wh:=by
 obtain ⟨cs,rfl,hsz⟩:=okWide_struct Tryz.underlying28 hv
 obtain ⟨fuel,hf⟩:=h
 obtain ⟨here,ps,pm,pw,ns,cn,nm,cm,nw,cw,a,b,c,d',e,sv,ms,wh,hm,hs⟩:=kn_of_trod hf
 refine ⟨here,ps,pm,pw,ns,cn,nm,cm,nw,cw,a,b,c,d',e,sv,ms,wh,?_,hs⟩
 simp only [Value.cells] at hm
 congr 1
 apply Array.ext'
 exact hm
end
end Go.Proofs.YtignmeaeibaejaaGreatDoor
