import Derived.Test.YtffdoiokmiklgaaGreatDoorW1
import Derived.Lib.SmallJoins
import Derived.Below
import Derived.Test.YtffdoiokmiklgaaGreatDoorW7
import Derived.Deep.RegionLaw
import Derived.Deep.AppendLies
import Derived.Deep.Cut
import Derived.Test.YtffdoiokmiklgaaGreatDoorW21
import Derived.Shelf.RegionOpen
import Derived.Test.YtffdoiokmiklgaaGreatDoorW27
import Derived.Test.YtffdoiokmiklgaaGreatDoorW29
import Derived.Test.YtffdoiokmiklgaaGreatDoorW35
import Derived.Laws.EntriesVeiled
import Derived.Test.YtffdoiokmiklgaaGreatDoorW22
import Derived.Test.YtffdoiokmiklgaaGreatDoorW30
import Derived.Laws.StructEq
import Derived.Test.YtffdoiokmiklgaaGreatDoorW15
namespace Go.Proofs.YtffdoiokmiklgaaGreatDoor
namespace Lt
open Go.RowKit
structure Ltr where
 to:Int
 text:ByteArray
def dm:Ltr:=⟨0,ByteArray.empty⟩
def Ltr.ok (m:Ltr):Prop:=m.text.size≤maxLen
theorem dm_ok:dm.ok:=by simp [Ltr.ok,dm]
def Row (w:World) (b off:Nat) (ms:List Ltr):Prop:=∀ j,j < ms.length →
 w.cell? ⟨b,off+j * 2,none⟩=some (.int .i64 (ms.getD j dm).to)∧w.cell? ⟨b,off+j * 2+1,none⟩=some (.string (ms.getD j dm).text)
def Sl (w:World) (v:Value) (ms:List Ltr):Prop:=
 ∃ (a:Option Addr) (cap:Nat),v=.slice a ms.length cap∧(∀ j,(ms.getD j dm).ok) ∧
  (ms=[]∨∃ b off,a=some ⟨b,off,none⟩∧b < w.heap.size∧Row w b off ms)
def Ltr.cs (m:Ltr):List Value:=[.int .i64 m.to,.string m.text]
def fl (ms:List Ltr):List Value:=ms.flatMap Ltr.cs
theorem cs_len (m:Ltr):m.cs.length=2:=rfl
theorem fl_cons (m:Ltr) (r:List Ltr):fl (m :: r)=m.cs++fl r:=by simp [fl]
theorem fl_append (a b:List Ltr):fl (a++b)=fl a++fl b:=by simp [fl]
theorem fl_len:∀ ms:List Ltr,(fl ms).length=ms.length * 2
 | []=>rfl
 | m :: r=>by rw [fl_cons,List.length_append,fl_len r,cs_len,List.length_cons];omega
theorem fl_take:∀ (ms:List Ltr) (i:Nat),(fl ms).take (i * 2)=fl (ms.take i)
 | [],i=>by simp [fl]
 | m :: r,0=>by simp [fl]
 | m :: r,i+1=>by
   rw [fl_cons,List.take_succ_cons,fl_cons,show (i+1) * 2=m.cs.length+i * 2 by rw [cs_len];omega,List.take_length_add_append,fl_take r i]
theorem fl_drop:∀ (ms:List Ltr) (i:Nat),(fl ms).drop (i * 2)=fl (ms.drop i)
 | [],i=>by simp [fl]
 | m :: r,0=>by simp
 | m :: r,i+1=>by
   rw [fl_cons,List.drop_succ_cons,show (i+1) * 2=m.cs.length+i * 2 by rw [cs_len];omega,List.drop_length_add_append,fl_drop r i]
theorem cs_one (m:Ltr):∀ v∈m.cs,v.oneCell'=true:=by
 intro v hv;simp [Ltr.cs] at hv;rcases hv with rfl | rfl<;>rfl
theorem fl_one (ms:List Ltr):∀ v∈fl ms,v.oneCell'=true:=by
 intro v hv
 obtain ⟨m,_,h⟩:=List.mem_flatMap.1 hv
 exact cs_one m v h
theorem fl_get (ms:List Ltr) (j:Nat) (hj:j < ms.length) (t:Nat) (ht:t < 2):(fl ms)[j * 2+t]?=(ms.getD j dm).cs[t]?:=by
 induction ms generalizing j with
 | nil=>simp at hj
 | cons m r ih=>
   rw [fl_cons]
   cases j with
   | zero=>rw [List.getElem?_append_left (by rw [cs_len];omega)];simp
   | succ j=>
     rw [List.getElem?_append_right (by rw [cs_len];omega),cs_len,show (j+1) * 2+t - 2=j * 2+t by omega,ih j (by simpa using hj)]
     simp
theorem fl_set (ms:List Ltr) (p:Nat) (hp:p < ms.length) (m:Ltr):(((fl ms).set (p * 2) (.int .i64 m.to)).set (p * 2+1) (.string m.text))=fl (ms.set p m):=by
 induction ms generalizing p with
 | nil=>simp at hp
 | cons x r ih=>
   cases p with
   | zero=>simp [fl,Ltr.cs]
   | succ p=>
     have ih':=ih p (by simpa using hp)
     rw [List.set_cons_succ,fl_cons,fl_cons,← ih']
     simp only [Nat.add_mul,Nat.one_mul]
     have e:∀ (l:List Value) (k:Nat) (v:Value),(x.cs++l).set (k+2) v=x.cs++l.set k v:=fun l k v=>by
      rw [List.set_append,if_neg (by rw [cs_len];omega),cs_len,Nat.add_sub_cancel]
     have c:∀ i:Nat,p * 2+2+i=(p * 2+i)+2:=fun i=>by omega
     simp only [c]
     rw [e,e]
abbrev Own (base:Nat) (w:World) (v:Value) (ms:List Ltr):Prop:=w.ownsRow base 65 2 v ms.length (fl ms)
theorem own_of {base g G:Nat} {w:World} {cur:Array Value} {ms:List Ltr} (hb:base≤g) (hg:w.heap[g]?=some (.cells cur 65 (0,0))) (hs:cur.size=G * 2) (hn:ms.length≤G) (hG:G≤maxLen) (ht:cur.toList.take (ms.length * 2)=fl ms) :
 Own base w (.slice (some ⟨g,0,none⟩) ms.length G) ms:=⟨fl_len ms,.inr ⟨g,G,cur,rfl,hb,hg,hn,hG,hs,ht⟩⟩
theorem Own.sl {base:Nat} {w:World} {v:Value} {ms:List Ltr} (h:Own base w v ms) (hs:∀ j,(ms.getD j dm).ok):Sl w v ms:=by
 rcases h.2 with ⟨rfl,h0⟩ | ⟨g,c,cur,rfl,hbg,hg,hnc,hcm,hcs,htake⟩
 ·exact ⟨none,0,by rw [h0],hs,.inl (List.eq_nil_of_length_eq_zero h0)⟩
 ·refine ⟨_,c,rfl,hs,.inr ⟨g,0,rfl,(Array.getElem?_eq_some_iff.1 hg).1,fun j hj=>?_⟩⟩
  have hc:∀ t,t < 2→w.cell? ⟨g,0+j * 2+t,none⟩=(ms.getD j dm).cs[t]?:=fun t ht=>by
   rw [cellsAt hg,← fl_get ms j hj t ht,← htake,List.getElem?_take_of_lt (by omega)];simp
  exact ⟨hc 0 (by omega),hc 1 (by omega)⟩
theorem Own.below {base:Nat} {w w':World} {v:Value} {ms:List Ltr} (h:Own base w v ms) (hb:Below w.heap.size w w'):Own base w' v ms:=by
 rcases h.2 with ⟨rfl,h0⟩ | ⟨g,c,cur,rfl,hbg,hg,hnc,hcm,hcs,htake⟩
 ·exact ⟨h.1,.inl ⟨rfl,h0⟩⟩
 ·have hlt:g < w.heap.size:=(Array.getElem?_eq_some_iff.1 hg).1
  exact ⟨h.1,.inr ⟨g,c,cur,rfl,hbg,(hb.block g hlt).trans hg,hnc,hcm,hcs,htake⟩⟩
theorem Own.lt {base:Nat} {w:World} {v:Value} {ms:List Ltr} (h:Own base w v ms) (k:Nat) (hk:v.ownBlock=some k):base≤k∧k < w.heap.size:=World.ownsRow.lt h k hk
theorem below_grown {base:Nat} {w w1 w2:World} {v:Value} {ms:List Ltr} (hb:Below base w w1) (h:Own base w1 v ms) (hg:w1.grownBy w2 v.ownBlock) (hbase:base≤w1.heap.size):Below base w w2:=
 hb.grown hg hbase (fun k hk=>(h.lt k hk).1)
theorem own_cells {base g c:Nat} {w:World} {ms:List Ltr} (h:Own base w (.slice (some ⟨g,0,none⟩) ms.length c) ms) (j:Nat) (hj:j < ms.length) :
 w.cell? ⟨g,j * 2,none⟩=some (.int .i64 (ms.getD j dm).to)∧w.cell? ⟨g,j * 2+1,none⟩=some (.string (ms.getD j dm).text):=by
 rcases h.2 with ⟨h1,_⟩ | ⟨g',c',cur,h1,hbg,hg,hnc,hcm,hcs,htake⟩
 ·cases h1
 ·simp only [Value.slice.injEq,Option.some.injEq,Addr.mk.injEq] at h1
  obtain ⟨⟨rfl,_,_⟩,_,_⟩:=h1
  have hc:∀ t,t < 2→w.cell? ⟨g,j * 2+t,none⟩=(ms.getD j dm).cs[t]?:=fun t ht=>by
   rw [cellsAt hg,← fl_get ms j hj t ht,← htake,List.getElem?_take_of_lt (by omega)];simp
  exact ⟨hc 0 (by omega),hc 1 (by omega)⟩
theorem own_form {base:Nat} {w:World} {v:Value} {ms:List Ltr} (h:Own base w v ms) (p:Nat) (hp:p < ms.length):∃ g c,v=.slice (some ⟨g,0,none⟩) ms.length c:=by
 rcases h.2 with ⟨_,h0⟩ | ⟨g,c,cur,h1,_⟩
 ·omega
 ·exact ⟨g,c,h1⟩
theorem own_set {base g c p:Nat} {W:World} {ms:List Ltr} (h:Own base W (.slice (some ⟨g,0,none⟩) ms.length c) ms) (hp:p < ms.length) (m:Ltr) :
 Own base ((W.setCell ⟨g,p * 2,none⟩ (.int .i64 m.to)).setCell ⟨g,p * 2+1,none⟩ (.string m.text)) (.slice (some ⟨g,0,none⟩) ms.length c) (ms.set p m):=by
 have h1:=World.ownsRow.stored h (p * 2) (.int .i64 m.to)
 have h2:=World.ownsRow.stored h1.1 (p * 2+1) (.string m.text)
 have e:=h2.1
 rw [fl_set ms p hp m] at e
 show World.ownsRow _ _ _ _ _ (ms.set p m).length _
 rw [List.length_set]
 exact e
theorem Sl.below {w w':World} {v:Value} {ms:List Ltr} (h:Sl w v ms) (hb:Below w.heap.size w w'):Sl w' v ms:=by
 obtain ⟨a,cap,rfl,hs,h⟩:=h
 refine ⟨a,cap,rfl,hs,?_⟩
 rcases h with h | ⟨b,off,rfl,hlt,hr⟩
 ·exact .inl h
 ·refine .inr ⟨b,off,rfl,Nat.lt_of_lt_of_le hlt hb.size,fun j hj=>?_⟩
  obtain ⟨hc,_⟩:=bcell hb
  obtain ⟨c0,c1⟩:=hr j hj
  exact ⟨(hc _ _ hlt).trans c0,(hc _ _ hlt).trans c1⟩
theorem Row.later {w w':World} {b off:Nat} {ms:List Ltr} (hr:Row w b off ms) (hb:Below w.heap.size w w') (hlt:b < w.heap.size):Row w' b off ms:=fun j hj=>by
 obtain ⟨hc,_⟩:=bcell hb
 obtain ⟨c0,c1⟩:=hr j hj
 exact ⟨(hc _ _ hlt).trans c0,(hc _ _ hlt).trans c1⟩
theorem Own.mono {base base':Nat} {w:World} {v:Value} {ms:List Ltr} (h:Own base w v ms) (hb:base'≤base):Own base' w v ms:=by
 rcases h.2 with ⟨rfl,h0⟩ | ⟨g,c,cur,rfl,hbg,hg,hnc,hcm,hcs,htake⟩
 ·exact ⟨h.1,.inl ⟨rfl,h0⟩⟩
 ·exact ⟨h.1,.inr ⟨g,c,cur,rfl,Nat.le_trans hb hbg,hg,hnc,hcm,hcs,htake⟩⟩
theorem own_nil (base:Nat) (w:World):Own base w (.slice none 0 0) []:=World.ownsRow_nil w base 65 2
theorem ns_mem {ms:List Ltr} (h:∀ j,(ms.getD j dm).ok):∀ m∈ms,(m).ok:=by
 intro m hm
 obtain ⟨j,hj,rfl⟩:=List.getElem_of_mem hm
 have:=h j
 simpa [List.getD,List.getElem?_eq_getElem hj] using this
theorem ns_get {ms:List Ltr} (h:∀ m∈ms,(m).ok):∀ j,(ms.getD j dm).ok:=by
 intro j
 by_cases hj:j < ms.length
 ·have:=h ms[j] (List.getElem_mem hj)
  simpa [List.getD,List.getElem?_eq_getElem hj] using this
 ·rw [List.getD,List.getElem?_eq_none (Nat.le_of_not_lt hj)];exact dm_ok
theorem own_names {base:Nat} {w:World} {v:Value} {ms:List Ltr} (h:Own base w v ms) (hs:∀ m∈ms,(m).ok):Sl w v ms:=h.sl (ns_get hs)
theorem sl_one (w:World) (b cap:Nat) (m:Ltr) (hm:(m).ok) (hg:w.heap[b]?=some (.cells #[.int .i64 m.to,.string m.text] 65 (0,0))):Sl w (.slice (some ⟨b,0,none⟩) 1 cap) [m]:=by
 refine ⟨_,cap,rfl,ns_get (fun x hx=>by simp at hx;subst hx;exact hm),.inr ⟨b,0,rfl,(Array.getElem?_eq_some_iff.1 hg).1,fun j hj=>?_⟩⟩
 have:j=0:=by simpa using hj
 subst this
 exact ⟨cellsAt hg (0+0 * 2),cellsAt hg (0+0 * 2+1)⟩
theorem own_snoc {base:Nat} {w:World} {v:Value} {L:List Ltr} {m:Ltr} (h:w.ownsRow base 65 2 v (L.length+1) (fl L++m.cs)):Own base w v (L++[m]):=by
 have e:fl (L++[m])=fl L++m.cs:=by rw [fl_append,fl_cons];simp [fl]
 show w.ownsRow base 65 2 v (L++[m]).length (fl (L++[m]))
 rw [e,List.length_append]
 exact h
end Lt
namespace Lt
open Go.RowKit
theorem Tryz.info65:(Tryz.prog.info? 65).map (fun i=>(i.zero,i.size,i.bytes))=some (some (.agg #[.int .i64 0,.string ⟨#[]⟩]),2,24):=by kernel_rfl
end Lt
end Go.Proofs.YtffdoiokmiklgaaGreatDoor
namespace Go.Proofs.YtffdoiokmiklgaaGreatDoor
open Go.RowKit
def setAll (b:Nat):List Value→Nat→World→World
 | [],_,w=>w
 | x :: r,j,w=>setAll b r (j+1) (w.setCell ⟨b,j,none⟩ x)
theorem setAll_below {B b:Nat} (hb:B≤b):∀ (L:List Value) (j:Nat) {a w:World},Below B a w→Below B a (setAll b L j w)
 | [],_,_,_,h=>h
 | _ :: r,j,_,_,h=>setAll_below hb r (j+1) (h.setCell (p:=⟨b,j,none⟩) hb _)
theorem setAll_other {b c:Nat} (hc:c≠b):∀ (L:List Value) (j:Nat) (w:World),(setAll b L j w).heap[c]?=w.heap[c]?
 | [],_,_=>rfl
 | _ :: r,j,_=>(setAll_other hc r (j+1) _).trans (Below.heap_setCell _ _ _ _ hc)
theorem setAll_size (b:Nat):∀ (L:List Value) (j:Nat) (w:World),(setAll b L j w).heap.size=w.heap.size
 | [],_,_=>rfl
 | _ :: r,j,_=>(setAll_size b r (j+1) _).trans (by simp [World.setCell])
theorem drew_heap (w:World):w.drew.heap=w.heap:=rfl
theorem drew_below {B:Nat} {a w:World} (h:Below B a w):Below B a w.drew:=⟨h.os,h.tape,h.output,h.size,h.block⟩
theorem setAll_block {b:Nat} {T:TypeId} {f:Nat × Nat}:∀ (L pre suf:List Value) {w:World},w.heap[b]?=some (.cells (pre++suf).toArray T f)→suf.length=L.length→(setAll b L pre.length w).heap[b]?=some (.cells (pre++L).toArray T f)
 | [],pre,suf,w,h,hl=>by
   have:suf=[]:=List.eq_nil_of_length_eq_zero (by simpa using hl)
   subst this;exact h
 | x :: r,pre,[],w,h,hl=>absurd hl (by simp)
 | x :: r,pre,y :: s,w,h,hl=>by
   have h1:=Joins.block_setCell (i:=pre.length) h x
   rw [List.setIfInBounds_toArray,show (pre++y :: s).set pre.length x=(pre++[x])++s by simp] at h1
   have h2:=setAll_block r (pre++[x]) s h1 (by simpa using hl)
   rw [show (pre++[x]).length=pre.length+1 by simp,show (pre++[x])++r=pre++x :: r by simp] at h2
   exact h2
theorem setAll12 {b:Nat} {w:World} {T:TypeId} {f:Nat × Nat} {c0 c1 c2 c3 c4 c5 c6 c7 c8 c9 c10 c11:Value} (h:w.heap[b]?=some (.cells #[c0,c1,c2,c3,c4,c5,c6,c7,c8,c9,c10,c11] T f)) (x0 x1 x2 x3 x4 x5 x6 x7 x8 x9 x10 x11:Value):(setAll b [x0,x1,x2,x3,x4,x5,x6,x7,x8,x9,x10,x11] 0 w).heap[b]?=some (.cells #[x0,x1,x2,x3,x4,x5,x6,x7,x8,x9,x10,x11] T f):=setAll_block [x0,x1,x2,x3,x4,x5,x6,x7,x8,x9,x10,x11] [] [c0,c1,c2,c3,c4,c5,c6,c7,c8,c9,c10,c11] h rfl
theorem setAll6 {b:Nat} {w:World} {T:TypeId} {f:Nat × Nat} {c0 c1 c2 c3 c4 c5:Value} (h:w.heap[b]?=some (.cells #[c0,c1,c2,c3,c4,c5] T f)) (x0 x1 x2 x3 x4 x5:Value):(setAll b [x0,x1,x2,x3,x4,x5] 0 w).heap[b]?=some (.cells #[x0,x1,x2,x3,x4,x5] T f):=setAll_block [x0,x1,x2,x3,x4,x5] [] [c0,c1,c2,c3,c4,c5] h rfl
theorem Tryz.infoLq:(Tryz.prog.info? 65).map (fun i=>(i.zero,i.size,i.bytes))=some (some (.agg #[.int .i64 0,.string ⟨#[]⟩]),2,24):=by kernel_rfl
structure Ev where
 kind:Int
 which:Int
 other:Int
 n:Int
 name:ByteArray
 p:Pl
 s:Sv.Svc
def plA (un ul:Value) (v:Ev):Array Value:=#[un,ul,.int .i64 v.kind,.int .i64 v.which,.int .i64 v.other,.int .i64 v.n,.string v.name,.int .i64 v.p.x,.int .i64 v.p.y,.int .i64 v.p.z,.int .i64 v.p.h,.int .i64 v.p.s,.string v.s.node,.string v.s.idn,.string v.s.name,.string v.s.tag,.int .i64 v.s.addr,.int .i64 v.s.port,.bool v.s.passing,.int .i64 v.s.version,.bool v.s.gone]
structure Mv (C:Nat) (w w':World):Prop where
 below:Below C w w'
 keep:∀ (b:Nat) (cs:Array Value) (T:TypeId) (f:Nat × Nat),w.heap[b]?=some (.cells cs T f)→T≠65→T≠75→w'.heap[b]?=some (.cells cs T f)
theorem Mv.of {C:Nat} {w w':World} (h:Below w.heap.size w w') (hC:C≤w.heap.size):Mv C w w':=⟨h.mono hC,fun b _ _ _ hb _ _=>(h.block b (Array.getElem?_eq_some_iff.1 hb).1).trans hb⟩
theorem Mv.trans {C:Nat} {w w' w'':World} (h:Mv C w w') (h':Mv C w' w''):Mv C w w'':=⟨h.below.trans h'.below,fun b cs T f hb h1 h2=>h'.keep b cs T f (h.keep b cs T f hb h1 h2) h1 h2⟩
theorem row_ty {C:Nat} {T:TypeId} {k n:Nat} {v:Value} {xs:List Value} {w w':World} (ho:w.ownsRow C T k v n xs) (hk:∀ (b:Nat) (cs:Array Value) (f:Nat × Nat),w.heap[b]?=some (.cells cs T f)→w'.heap[b]?=some (.cells cs T f)):w'.ownsRow C T k v n xs:=by
 rcases ho.2 with ⟨rfl,h0⟩ | ⟨b,c,cur,rfl,hbg,hb,hr⟩
 ·exact ⟨ho.1,.inl ⟨rfl,h0⟩⟩
 ·exact ⟨ho.1,.inr ⟨b,c,cur,rfl,hbg,hk _ _ _ hb,hr⟩⟩
theorem row_block {C:Nat} {T:TypeId} {k n:Nat} {v:Value} {xs:List Value} {w:World} (ho:w.ownsRow C T k v n xs) {b:Nat} (e:v.ownBlock=some b):C≤b∧∃ cs,w.heap[b]?=some (.cells cs T (0,0)):=by
 rcases ho.2 with ⟨rfl,h0⟩ | ⟨b',c,cur,rfl,hbg,hb,hr⟩
 ·cases e
 ·have:b'=b:=by simpa [Value.ownBlock] using e
  subst this
  exact ⟨hbg,_,hb⟩
theorem row_form {C:Nat} {T:TypeId} {k n:Nat} {v:Value} {xs:List Value} {w:World} (ho:w.ownsRow C T k v n xs):∃ a c,v=.slice a n c:=by
 rcases ho.2 with ⟨rfl,rfl⟩ | ⟨b',c,cur,rfl,_⟩
 ·exact ⟨none,0,rfl⟩
 ·exact ⟨_,c,rfl⟩
structure Plr (C:Nat) (w:World) (g:Nat) (un ul:Value) (ls:List Lt.Ltr) (v:Ev):Prop where
 hg:w.heap[g]?=some (.cells (plA un ul v) 75 (0,0))
 le:C≤g
 ls:Lt.Own C w ul ls
theorem Plr.below {C:Nat} {w w':World} {g:Nat} {un ul:Value} {ls:List Lt.Ltr} {v:Ev} (h:Plr C w g un ul ls v) (hb:Below w.heap.size w w'):Plr C w' g un ul ls v:=
 ⟨(hb.block g (Array.getElem?_eq_some_iff.1 h.hg).1).trans h.hg,h.le,row_ty h.ls (fun b _ _ e=>(hb.block b (Array.getElem?_eq_some_iff.1 e).1).trans e)⟩
theorem set_pl {w:World} {g:Nat} {un ul x:Value} {v:Ev} (h:w.heap[g]?=some (.cells (plA un ul v) 75 (0,0))):(w.setCell ⟨g,1,none⟩ x).heap[g]?=some (.cells (plA un x v) 75 (0,0)):=Joins.block_setCell h x
theorem Plr.turn {C g:Nat} {un ul x:Value} {ls ls':List Lt.Ltr} {v:Ev} {w w5:World} (h:Plr C w g un ul ls v) (hb:Below C w w5) (hk:∀ b,b < w.heap.size→ul.ownBlock≠some b→w5.heap[b]?=w.heap[b]?) (hown:Lt.Own C w5 x ls'):Mv C w (w5.setCell ⟨g,1,none⟩ x)∧Plr C (w5.setCell ⟨g,1,none⟩ x) g un x ls' v:=by
 have hgl:g < w.heap.size:=(Array.getElem?_eq_some_iff.1 h.hg).1
 have hne:ul.ownBlock≠some g:=fun e=>by
  obtain ⟨_,cs,h2⟩:=row_block h.ls e
  rw [h.hg] at h2
  simp at h2
 have h5:w5.heap[g]?=some (.cells (plA un ul v) 75 (0,0)):=(hk g hgl hne).trans h.hg
 refine ⟨⟨hb.setCell (p:=⟨g,1,none⟩) h.le _,fun b cs T f e h1 h2=>?_⟩,⟨set_pl h5,h.le,row_ty hown (fun b cs f e=>?_)⟩⟩
 ·have hbg:b≠g:=fun e2=>by
   subst e2;rw [h.hg] at e;simp at e;exact h2 e.2.1.symm
  have hbl:ul.ownBlock≠some b:=fun e2=>by
   obtain ⟨_,cs2,h3⟩:=row_block h.ls e2
   rw [e] at h3;simp at h3;exact h1 h3.2.1
  rw [Below.heap_setCell _ _ _ _ hbg]
  exact (hk b (Array.getElem?_eq_some_iff.1 e).1 hbl).trans e
 ·have hbg:b≠g:=fun e2=>by
   subst e2;rw [h5] at e;simp at e
  rw [Below.heap_setCell _ _ _ _ hbg]
  exact e
set_option maxHeartbeats 6400000 in
set_option maxRecDepth 100000 in
theorem send_any (C g:Nat) (un ul:Value) (ls:List Lt.Ltr) (v:Ev) (to:Int) (tx:ByteArray) (w:World) (h:Plr C w g un ul ls v) (hC:C≤w.heap.size) (h20:ls.length < 20) :
 Calls Tryz.prog 152 #[.pointer (some ⟨g,0,none⟩),.agg #[.int .i64 to,.string tx]] w fun e w'=>e=.returned (.int .i64 0)∧Mv C w w'∧∃ a k c,Plr C w' g un (.slice a k c) (ls++[⟨to,tx⟩]) v:=by
 obtain ⟨i0,hi0,hz0,hzs,hzb⟩:=info_parts (Tryz.infoLq)
 obtain ⟨au,cu,hul⟩:=row_form h.ls
 subst hul
 have hgl:g < w.heap.size:=(Array.getElem?_eq_some_iff.1 h.hg).1
 obtain ⟨X,hX⟩:∃ X,X=w.alloc (.cells #[.int .i64 to,.string tx] 65):=⟨_,rfl⟩
 have hbX:Below w.heap.size w X:=by rw [hX];exact (Below.refl _ _).alloc (Nat.le_refl _) _
 have HSX:Hid (X.heap.size=w.heap.size+1):=by show _=_;rw [hX];simp
 have hx:X.heap[w.heap.size]?=some (.cells #[.int .i64 to,.string tx] 65 (0,0)):=by rw [hX];exact heap_alloc_new w _
 have x0:X.cell? ⟨w.heap.size,0,none⟩=some (.int .i64 to):=cellsAt hx 0
 have x1:X.cell? ⟨w.heap.size,1,none⟩=some (.string tx):=cellsAt hx 1
 have hgX:X.heap[g]?=some (.cells (plA un (.slice au ls.length cu) v) 75 (0,0)):=(hbX.block g hgl).trans h.hg
 have y1:X.cell? ⟨g,1,none⟩=some (.slice au ls.length cu):=cellsAt hgX 1
 have HP:Hid (Plr C w g un (.slice au ls.length cu) ls v):=h
 have y1a:∀ o,(X.alloc o).cell? ⟨g,1,none⟩=some (.slice au ls.length cu):=fun o=>(((Below.refl X.heap.size X).alloc (Nat.le_refl _) o).cell (p:=⟨g,1,none⟩) (Nat.lt_of_lt_of_le hgl hbX.size)).trans y1
 have HBX:Hid (Below w.heap.size w X):=hbX
 have hrow:X.ownsRow C 65 2 (.slice au ls.length cu) ls.length (Lt.fl ls):=row_ty h.ls (fun b _ _ e=>(hbX.block b (Array.getElem?_eq_some_iff.1 e).1).trans e)
 have HNB:Hid ((Value.slice au ls.length cu).ownBlock≠some g):=fun e=>by
  obtain ⟨_,cs,h2⟩:=row_block h.ls e
  rw [h.hg] at h2
  simp at h2
 have HFL:Hid (Lt.fl (ls++[⟨to,tx⟩])=Lt.fl ls++[.int .i64 to,.string tx]):=by show _=_;rw [Lt.fl_append];rfl
 have hd:((ls.length:Int) == 20)=false:=by simp;omega
 have HLN:Hid (ls.length+1=(ls++[(⟨to,tx⟩:Lt.Ltr)]).length):=by show _=_;simp
 have h63:ls.length+1≤maxLen:=by unfold maxLen;omega
 have hbt:(ls.length+1) * 24≤140737488355328:=by omega
 have HGX:Hid (X.heap[g]?=some (.cells (plA un (.slice au ls.length cu) v) 75 (0,0))):=hgX
 clear h hbX hx hgX h20
 generalize ls.length=m at *
 go_enter Tryz.func152,Tryz.ntmps152
 go_upto_region 1 with fail
 rw [← hX]
 clear hX
 go_wp2_with fail
 go_region_law (refine step_append_lies _ (by rfl) _ _ _ (by rfl) C 65 i0 _ 2 24 Tryz.underlying23 hi0 hz0 hzs hzb rfl (by omega) (.slice au m cu) m (Lt.fl ls) (by rfl) ((World.ownsRow.alloc hrow _).drew) ⟨X.heap.size,0,none⟩ 1 1 [.int .i64 to,.string tx] (by rfl) (by rfl) (World.news_of_block (cs:=#[.int .i64 to,.string tx]) (t:=65) (fr:=(0,0)) (heap_alloc_new X _)) (by simp [Value.oneCell']) (by omega) h63 hbt (by have:=HSX.out;simp<;>omega) (X.heap.size+1) (by simp) ?_;intro gg cap w5 hown1 hgrow hat hlt;have hgb:w5.heap[g]?=some (.cells (plA un (.slice au m cu) v) 75 (0,0)):=((hgrow.block g (by have:=HSX.out;simp<;>omega) (Ne.symm HNB.out)).trans (Below.heap_alloc X _ _ (by have:=HSX.out;omega))).trans HGX.out;have z1:w5.cell? ⟨g,1,none⟩=some (.slice au m cu):=cellsAt hgb 1;have zf:w5.frozen? ⟨g,1,none⟩=false:=(by simp [World.frozen?,hgb]);have HR:Hid (Mv C w (w5.setCell ⟨g,1,none⟩ (.slice (some ⟨gg,0,none⟩) (m+1) cap))∧Plr C (w5.setCell ⟨g,1,none⟩ (.slice (some ⟨gg,0,none⟩) (m+1) cap)) g un (.slice (some ⟨gg,0,none⟩) (m+1) cap) (ls++[⟨to,tx⟩]) v):=Plr.turn HP.out (((HBX.out.alloc HBX.out.size _).drew.mono hC).grown hgrow (by have:=HSX.out;simp<;>omega) (fun k hk=>(row_block HP.out.ls hk).1)) (fun b hlt hne=>(hgrow.block b (by have:=HSX.out;simp<;>omega) (Ne.symm hne)).trans ((Below.heap_alloc X _ _ (by have:=HSX.out;omega)).trans (HBX.out.block b hlt))) (by show World.ownsRow _ _ _ _ _ _ _;rw [← HLN.out,HFL.out];exact hown1);clear hgb hown1 hgrow hat hlt)
 all_goals
  go_wp2_with fail
  go_ret
  exact ⟨rfl,HR.out.1,_,_,_,HR.out.2⟩
theorem Tryz.cellsByte:Tryz.prog.cellsOf 5=1:=by kernel_rfl
set_option maxHeartbeats 1000000 in
set_option maxRecDepth 100000 in
theorem string_any (B b:Nat) (l:List UInt8) (w:World) (h:IsW B b (Lib.byteCells l) w) (h0:l≠[]) :
 Calls Tryz.prog 252 #[.pointer (some ⟨b,0,none⟩)] w fun e w'=>e=.returned (.string ⟨l.toArray⟩)∧Below B w w':=by
 obtain ⟨p,hB,v,hbk,hown,hne⟩:∃ p,WAt B b p (Lib.byteCells l) w:=by
  rcases h with h | h
  ·exact ⟨_,h⟩
  ·exact ⟨_,h⟩
 have hl0:l.length≠0:=by simpa using h0
 rw [Lib.byteCells_length] at hown
 obtain ⟨g,cap,cur,rfl,hbg,hg,hnc,hcm,hcs,htake⟩:∃ g cap cur,v=.slice (some ⟨g,0,none⟩) l.length cap∧B≤g∧w.heap[g]?=some (.cells cur 5 (0,0))∧l.length≤cap∧cap≤maxLen∧cur.size=cap * 1∧cur.toList.take (l.length * 1)=Lib.byteCells l:=by
  rcases hown.2 with ⟨_,hz⟩ | ⟨g,cap,cur,hv,r⟩
  ·exact absurd hz hl0
  ·exact ⟨g,cap,cur,hv,r⟩
 have c1:w.drew.cell? ⟨b,1,none⟩=some (.slice (some ⟨g,0,none⟩) l.length cap):=by
  have:w.drew.heap[b]?=some (.cells #[p,.slice (some ⟨g,0,none⟩) l.length cap] 272 (0,0)):=hbk
  rw [Lib.cell_of_heap this];rfl
 have hSD:(Builtin.unsafeSliceData_ #[157] 307 #[.slice (some ⟨g,0,none⟩) l.length cap]).run Tryz.prog w.drew=.ok (.pointer (some ⟨g,0,none⟩)) w.drew:=
  Lib.run_unsafeSliceData_row _ _ _ _ _ _ (by omega)
 have hUS:(Builtin.unsafeString_ #[307,3] 9 #[.pointer (some ⟨g,0,none⟩),.int .i64 l.length]).run Tryz.prog w.drew=.ok (.string ⟨l.toArray⟩) (w.drew.freeze ⟨g,0,none⟩ l.length):=by
  refine Lib.run_unsafeString_row w.drew 307 3 9 5 Tryz.underlying307 Tryz.cellsByte g cur.size (by have hg':w.drew.heap[g]?=some (.cells cur 5 (0,0)):=hg;simp [World.shape?,hg']) l h0 (by omega) (by unfold maxLen at hcm;omega) ?_
  intro j x hx
  have:=hown.cells (g:=g) rfl j (.int .u8 x.toNat) (by simp [Lib.byteCells,hx])
  exact this
 have mixed:Tryz.prog.follows .mixedOrders=true:=by kernel_rfl
 go_enter Tryz.func252,Tryz.ntmps252
 go_wp2_with fail
 go_region_o
 all_goals (go_wp2;go_ret;exact ⟨rfl,Lib.below_freeze (Below.drew (Below.refl B w)) (p:=⟨g,0,none⟩) hbg _⟩)
theorem lab_size {s:ByteArray} (h:labB s=true):s.size≤1000:=by
 unfold labB at h
 simp only [Bool.and_eq_true,decide_eq_true_eq] at h
 have:=h.1.2
 omega
theorem tag_size {s:ByteArray} (h:Sv.tagB s=true):s.size≤1000:=by
 unfold Sv.tagB at h
 rw [Bool.or_eq_true,decide_eq_true_eq] at h
 rcases h with rfl | h
 ·show 0≤1000;omega
 ·exact lab_size h
theorem within_in {n a b:Int} (h:within n a b=true) (ha : -9223372036854775808≤a) (hb:b≤9223372036854775807):In63 n:=by
 unfold within at h
 rw [Bool.and_eq_true,decide_eq_true_eq,decide_eq_true_eq] at h
 exact ⟨by omega,by omega⟩
theorem wokM {m:Mem} (h:m.e=0):wok m:=by
 unfold Mem.e oneE at h
 split at h
 ·rename_i h1
  split at h
  ·rename_i h2
   split at h
   ·rename_i h3
    split at h
    ·rename_i h4
     exact ⟨lab_size h1,within_in h2 (by omega) (by omega),within_in h3 (by omega) (by omega),within_in h4 (by omega) (by omega)⟩
    ·cases h
   ·cases h
  ·cases h
 ·cases h
theorem wokS {m:Sv.Svc} (h:m.e=0):Sv.wok m:=by
 unfold Sv.Svc.e at h
 split at h
 ·rename_i h1
  split at h
  ·rename_i h2
   simp only [Bool.and_eq_true] at h1 h2
   exact ⟨lab_size h1.1,lab_size h1.2.1,lab_size h1.2.2.1,tag_size h1.2.2.2,within_in h2.1 (by omega) (by omega),within_in h2.2.1 (by omega) (by omega),within_in h2.2.2 (by omega) (by omega)⟩
  ·cases h
 ·cases h
theorem wokG {m:Gw.Gwy} (h:m.e=0):Gw.wok m:=by
 unfold Gw.Gwy.e at h
 split at h
 ·rename_i h1
  split at h
  ·rename_i h2
   split at h
   ·rename_i h3
    exact ⟨lab_size h1,within_in h2 (by omega) (by omega),within_in h3 (by omega) (by omega)⟩
   ·cases h
  ·cases h
 ·cases h
theorem wokW {m:Wh.Whe} (h:m.e=0):Wh.wok m:=by
 unfold Wh.Whe.e at h
 split at h
 ·rename_i h1
  obtain ⟨a0,a1,a2,a3,a4,a5,a6,a7,a8,a9⟩:=(okP_iff _).1 h
  simp only at a0 a1 a2 a3 a4 a5 a6 a7 a8 a9
  exact ⟨lab_size h1,⟨by omega,by omega⟩,⟨by omega,by omega⟩,⟨by omega,by omega⟩,⟨by omega,by omega⟩,⟨by omega,by omega⟩⟩
 ·cases h
theorem chk_firstE {ms:List Mem} (h:chk ms=0):firstE ms=0:=(chk_zero h).2.2
theorem pk_wok {p:Pk} (h:p.e=0):p.Wok:=by
 unfold Pk.e at h
 split at h
 ·rename_i h0
  rw [Bool.and_eq_true] at h0
  split at h
  ·rename_i h1
   have hm:p.ms.length≤20∧∀ m∈p.ms,wok m:=by
    unfold Pk.mE at h1
    split at h1
    ·exact ⟨(chk_zero h1).1,fun m hm=>wokM (firstE_mem _ (chk_firstE h1) m hm)⟩
    ·obtain ⟨a,b,_⟩:=chkT_zero h1
     exact ⟨by omega,fun m hm=>wokM (firstE_mem _ b m hm)⟩
   split at h
   ·rename_i h2
    split at h
    ·rename_i h3
     exact ⟨lab_size h0.1,hm,⟨(Sv.chk_zero h2).1,fun m hm=>wokS (Sv.firstE_mem _ (Sv.chk_zero h2).2.2 m hm)⟩,⟨(Gw.chk_zero h3).1,fun m hm=>wokG (Gw.firstE_mem _ (Gw.chk_zero h3).2.2 m hm)⟩,⟨(Wh.chk_zero h).1,fun m hm=>wokW (Wh.firstE_mem _ (Wh.chk_zero h).2.2 m hm)⟩⟩
    ·rename_i h3;exact absurd h h3
   ·rename_i h2;exact absurd h h2
  ·rename_i h1;exact absurd h h1
 ·cases h
def Pk.T (p:Pk):ByteArray:=if p.e=0 then ⟨p.B.toArray⟩ else ⟨#[]⟩
theorem Pk.B_ne (p:Pk):p.B≠[]:=by
 unfold Pk.B txtB numB
 simp
set_option maxHeartbeats 3200000 in
set_option maxRecDepth 100000 in
theorem pwrite_any (p:Pk) (zm zs zg zw:Value) (w:World) (hx:PkIs w p zm zs zg zw) (hlen:p.whole=true∨p.sv.length+p.gw.length+p.wh.length≤4611686018427387904) (hT:Tab w.heap.size w) :
 Calls Tryz.prog 221 #[.agg #[.string p.frm,.bool p.whole,zm,zs,zg,zw]] w fun e w'=>e=.returned (.tuple #[.string p.T,.int .i64 p.e])∧Below w.heap.size w w':=by
 have HCK:Hid (∀ W,Below w.heap.size w W→Calls Tryz.prog 88 #[.agg #[.string p.frm,.bool p.whole,zm,zs,zg,zw]] W fun e w'=>e=.returned (.int .i64 p.e)∧Below W.heap.size W w'):=fun W hW=>pcheck_any p zm zs zg zw W (hx.below hW) hlen
 have HWP:Hid (p.e=0→∀ W b,Below w.heap.size w W→IsW w.heap.size b [] W→Calls Tryz.prog 251 #[.pointer (some ⟨b,0,none⟩),.agg #[.string p.frm,.bool p.whole,zm,zs,zg,zw]] W fun e w'=>e=.returned (.tuple #[])∧IsW w.heap.size b (Lib.byteCells p.B) w'∧Kp w.heap.size b W w'):=fun h0 W b hW hI=>by
  have h:=wpacket_any w.heap.size b p zm zs zg zw w W hI hx rfl hW hW.size (hT.below hW) (pk_wok h0)
  rw [p.L_eq] at h
  exact h
 have HPT:Hid (p.T=if p.e=0 then ⟨p.B.toArray⟩ else ⟨#[]⟩):=rfl
 have HNE:Hid (p.B≠[]):=p.B_ne
 generalize p.B=PB at *
 generalize p.T=PT at *
 generalize p.e=pe at *
 obtain ⟨frm,whole,ms,sv,gw,wh⟩:=p
 obtain ⟨⟨pm,cm,rfl,_,_⟩,⟨ps,cs,rfl,_,_⟩,⟨pg,cg,rfl,_,_⟩,⟨ph,ch,rfl,_,_⟩,_,_⟩:=hx
 simp only at HCK HWP ⊢
 generalize ms.length=nm at *
 generalize sv.length=ns at *
 generalize gw.length=ng at *
 generalize wh.length=nh at *
 clear hlen hT
 obtain ⟨W0,hW0⟩:∃ W0,W0=w.alloc (.cells #[.string frm,.bool whole,.slice pm nm cm,.slice ps ns cs,.slice pg ng cg,.slice ph nh ch] 67):=⟨_,rfl⟩
 have hb0:Below w.heap.size w W0:=by rw [hW0];exact (Below.refl _ _).alloc (Nat.le_refl _) _
 have hg0:W0.heap[w.heap.size]?=some (.cells #[.string frm,.bool whole,.slice pm nm cm,.slice ps ns cs,.slice pg ng cg,.slice ph nh ch] 67 (0,0)):=by rw [hW0];exact heap_alloc_new w _
 have HB0:Hid (Below w.heap.size w W0):=hb0
 have HG0:Hid (W0.heap[w.heap.size]?=some (.cells #[.string frm,.bool whole,.slice pm nm cm,.slice ps ns cs,.slice pg ng cg,.slice ph nh ch] 67 (0,0))):=hg0
 have p0:W0.cell? ⟨w.heap.size,0,none⟩=_:=cellsAt hg0 0
 have p1:W0.cell? ⟨w.heap.size,1,none⟩=_:=cellsAt hg0 1
 have p2:W0.cell? ⟨w.heap.size,2,none⟩=_:=cellsAt hg0 2
 have p3:W0.cell? ⟨w.heap.size,3,none⟩=_:=cellsAt hg0 3
 have p4:W0.cell? ⟨w.heap.size,4,none⟩=_:=cellsAt hg0 4
 have p5:W0.cell? ⟨w.heap.size,5,none⟩=_:=cellsAt hg0 5
 clear hb0 hg0
 go_enter Tryz.func221,Tryz.ntmps221
 go_upto_region 1 with fail
 rw [← hW0]
 clear hW0
 go_wp2_with fail
 refine (HCK.out W0 HB0.out).mono ?_
 rintro e w1 ⟨rfl,hb1⟩
 have HB1:Hid (Below w.heap.size w w1):=HB0.out.trans (hb1.mono HB0.out.size)
 have hg1:w1.heap[w.heap.size]?=some (.cells #[.string frm,.bool whole,.slice pm nm cm,.slice ps ns cs,.slice pg ng cg,.slice ph nh ch] 67 (0,0)):=(hb1.block _ (Array.getElem?_eq_some_iff.1 HG0.out).1).trans HG0.out
 have HG1:Hid (w1.heap[w.heap.size]?=some (.cells #[.string frm,.bool whole,.slice pm nm cm,.slice ps ns cs,.slice pg ng cg,.slice ph nh ch] 67 (0,0))):=hg1
 clear hb1 hg1 p0 p1 p2 p3 p4 p5
 by_cases h0:pe=0
 rotate_left
 ·have HT2:Hid (PT=⟨#[]⟩):=HPT.out.trans (if_neg h0)
  have h1:(pe != 0)=true:=by simpa using h0
  clear h0
  go_wp2_with fail
  refine bodyPost_ret (v:=.tuple #[.string ⟨#[]⟩,.int .i64 pe]) ?_ rfl ?_
  ·simp [results,Tryz.results221,go_sem]
  ·exact ⟨by rw [HT2.out],HB1.out⟩
 ·subst h0
  have HT2:Hid (PT=⟨PB.toArray⟩):=HPT.out.trans (if_pos rfl)
  have HWQ:=HWP.out rfl
  have HWR:Hid _:=HWQ
  clear HWQ HWP HPT
  obtain ⟨W2,hW2⟩:∃ W2,W2=w1.alloc (.cells #[.pointer none,.slice none 0 0] 272):=⟨_,rfl⟩
  have hb2:Below w1.heap.size w1 W2:=by rw [hW2];exact (Below.refl _ _).alloc (Nat.le_refl _) _
  have hw2:W2.heap[w1.heap.size]?=some (.cells #[.pointer none,.slice none 0 0] 272 (0,0)):=by rw [hW2];exact heap_alloc_new w1 _
  have HI2:Hid (IsW w.heap.size w1.heap.size [] W2):=.inl ⟨HB1.out.size,.slice none 0 0,hw2,⟨by simp,.inl ⟨rfl,rfl⟩⟩,by simp [Value.ownBlock]⟩
  have hbw2:Below w.heap.size w W2:=HB1.out.trans (hb2.mono HB1.out.size)
  have HBW2:Hid (Below w.heap.size w W2):=hbw2
  have hg2:W2.heap[w.heap.size]?=some (.cells #[.string frm,.bool whole,.slice pm nm cm,.slice ps ns cs,.slice pg ng cg,.slice ph nh ch] 67 (0,0)):=(hb2.block _ (Array.getElem?_eq_some_iff.1 HG1.out).1).trans HG1.out
  have p0:W2.cell? ⟨w.heap.size,0,none⟩=_:=cellsAt hg2 0
  have p1:W2.cell? ⟨w.heap.size,1,none⟩=_:=cellsAt hg2 1
  have p2:W2.cell? ⟨w.heap.size,2,none⟩=_:=cellsAt hg2 2
  have p3:W2.cell? ⟨w.heap.size,3,none⟩=_:=cellsAt hg2 3
  have p4:W2.cell? ⟨w.heap.size,4,none⟩=_:=cellsAt hg2 4
  have p5:W2.cell? ⟨w.heap.size,5,none⟩=_:=cellsAt hg2 5
  clear hb2 hw2 hg2 hbw2
  go_upto_region 5 with fail
  rw [← hW2]
  clear hW2
  go_wp2_with fail
  refine (HWR.out W2 w1.heap.size HBW2.out HI2.out).mono ?_
  rintro e w3 ⟨rfl,h3,hk3⟩
  have HI3:Hid (IsW w.heap.size w1.heap.size (Lib.byteCells PB) w3):=h3
  have HB3:Hid (Below w.heap.size w w3):=HBW2.out.trans hk3.bel
  clear h3 hk3 p0 p1 p2 p3 p4 p5
  go_wp2_with fail
  refine (string_any w.heap.size w1.heap.size PB w3 HI3.out HNE.out).mono ?_
  rintro e w4 ⟨rfl,hb4⟩
  have HB4:Hid (Below w.heap.size w w4):=HB3.out.trans hb4
  clear hb4
  go_wp2_with fail
  refine bodyPost_ret (v:=.tuple #[.string ⟨PB.toArray⟩,.int .i64 0]) ?_ rfl ?_
  ·simp [results,Tryz.results221,go_sem]
  ·exact ⟨by rw [HT2.out],HB4.out⟩
theorem dg_nat {d:Nat} (h:d < 10):(UInt8.ofNat (48+d)).toNat=48+d:=by
 rw [UInt8.toNat_ofNat']
 omega
theorem pu_dec (u:Nat) (hu:u < 18446744073709551616) (t:List UInt8):Lib.parseUint10 0 (Lib.decDigits u++t)=Lib.parseUint10 u t:=by
 induction u using Nat.strongRecOn generalizing t with
 | _ u ih=>
   rw [Lib.decDigits]
   split
   ·rename_i h
    rw [List.singleton_append,Lib.parseUint10,dg_nat h,if_pos (by omega),if_neg (by omega),if_neg (by omega)]
    congr 1
    omega
   ·rename_i h
    rw [List.append_assoc,ih (u / 10) (by omega) (by omega),List.singleton_append,Lib.parseUint10,dg_nat (by omega),if_pos (by omega),if_neg (by omega),if_neg (by omega)]
    congr 1
    omega
theorem dec_all (u:Nat):∀ c∈Lib.decDigits u,48≤c.toNat∧c.toNat≤57:=by
 induction u using Nat.strongRecOn with
 | _ u ih=>
   intro c hc
   rw [Lib.decDigits] at hc
   split at hc
   ·rename_i h
    rw [List.mem_singleton.1 hc,dg_nat h]
    omega
   ·rename_i h
    rcases List.mem_append.1 hc with hc | hc
    ·exact ih (u / 10) (by omega) c hc
    ·rw [List.mem_singleton.1 hc,dg_nat (by omega)]
     omega
theorem dec_ne (u:Nat):Lib.decDigits u≠[]:=by
 rw [Lib.decDigits]
 split<;>simp
theorem pm_dec {u:Nat} (hu:u < 18446744073709551616):Lib.parseMag (Lib.decDigits u)=.ok u:=by
 unfold Lib.parseMag
 rw [if_neg (dec_ne u)]
 have:=pu_dec u hu []
 rw [List.append_nil] at this
 rw [this];rfl
theorem atoi_itoa {n:Int} (h:In63 n):Lib.atoiAll (Lib.itoa n)=.ok n:=by
 unfold Lib.itoa
 obtain ⟨h1,h2⟩:=h
 split
 ·rw [Lib.atoiAll_minus,pm_dec (by omega)]
  unfold Lib.signed
  simp only
  rw [if_neg (by omega)]
  congr 1
  omega
 ·cases hd:Lib.decDigits n.toNat with
  | nil=>exact absurd hd (dec_ne _)
  | cons c r=>
    have hc:=dec_all n.toNat c (by rw [hd];exact List.mem_cons_self)
    rw [Lib.atoiAll_plain c r (by omega) (by omega),← hd,pm_dec (by omega)]
    unfold Lib.signless
    simp only
    rw [if_neg (by omega)]
    congr 1
    omega
theorem itoa_no59 (n:Int):∀ c∈Lib.itoa n,c≠59:=by
 intro c hc
 unfold Lib.itoa at hc
 split at hc
 ·rcases List.mem_cons.1 hc with rfl | hc
  ·decide
  ·have:=dec_all _ c hc
   intro e
   subst e
   have:(59:UInt8).toNat=59:=rfl
   omega
 ·have:=dec_all _ c hc
  intro e
  subst e
  have:(59:UInt8).toNat=59:=rfl
  omega
theorem ix_at:∀ (l r:List UInt8),(∀ c∈l,c≠59)→Lib.indexByte (l++59 :: r) 59=(l.length:Int)
 | [],r,_=>by
   unfold Lib.indexByte
   simp
 | x :: l,r,h=>by
   have ih:=ix_at l r (fun c hc=>h c (List.mem_cons_of_mem _ hc))
   have hx:=h x List.mem_cons_self
   rw [List.cons_append,Lib.indexByte,if_neg (by simpa using hx),ih,if_neg (by simp)]
   rw [List.length_cons];omega
theorem ix_byte (c:UInt8):∀ {l:List UInt8} {i:Nat},Lib.indexByte l c=(i:Int)→l=l.take i++c :: l.drop (i+1)
 | [],i,h=>by unfold Lib.indexByte at h;omega
 | x :: r,i,h=>by
   unfold Lib.indexByte at h
   split at h
   ·rename_i hx
    have hi:i=0:=by omega
    subst hi
    have:x=c:=by simpa using hx
    rw [this];simp
   ·split at h
    ·omega
    ·rename_i h2
     have hg:=Lib.indexByte_ge r c
     obtain ⟨j,rfl⟩:∃ j,i=j+1:=⟨i - 1,by have:Lib.indexByte r c ≠ -1:=by simpa using h2
                                         omega⟩
     have:=ix_byte c (l:=r) (i:=j) (by omega)
     rw [List.take_succ_cons,List.drop_succ_cons,List.cons_append,← this]
theorem rdN_num {n:Int} (h:In63 n) (r:List UInt8):rdN (numB n++r)=some (n,r):=by
 unfold rdN numB
 rw [List.append_assoc,List.singleton_append,ix_at _ r (itoa_no59 n),if_neg (by omega),Int.toNat_natCast,List.take_left,atoi_itoa h]
 simp only [if_true]
 congr 2
 have e:Lib.itoa n++59 :: r=(Lib.itoa n++[59])++r:=by simp
 rw [e,List.drop_left' (by simp)]
theorem rdN_eq {l r:List UInt8} {n:Int} (h:rdN l=some (n,r)):l=numB n++r∧In63 n:=by
 have hin:=(rdN_in h).1
 unfold rdN at h
 split at h
 ·simp at h
 rename_i hne
 obtain ⟨i,hi⟩:∃ i:Nat,Lib.indexByte l 59=(i:Int):=⟨(Lib.indexByte l 59).toNat,by have:=Lib.indexByte_ge l 59;omega⟩
 rw [hi] at h
 simp only [Int.toNat_natCast] at h
 split at h
 case h_2=>simp at h
 rename_i m hm
 split at h
 case isFalse=>simp at h
 rename_i hd
 simp only [Option.some.injEq,Prod.mk.injEq] at h
 obtain ⟨rfl,rfl⟩:=h
 refine ⟨?_,hin⟩
 unfold numB
 rw [hd,List.append_assoc,List.singleton_append]
 exact ix_byte 59 hi
theorem rdT_txt {s:ByteArray} (h:s.size≤140737488355328) (r:List UInt8):rdT (txtB s++r)=some (s,r):=by
 unfold rdT txtB
 rw [List.append_assoc,rdN_num ⟨by omega,by omega⟩]
 simp only
 have hl:s.data.toList.length=s.size:=rfl
 rw [if_pos ⟨by omega,by rw [List.length_append];omega⟩,Int.toNat_natCast,List.take_left' hl,List.drop_left' hl]
 rfl
theorem rdT_eq {l r:List UInt8} {s:ByteArray} (h:rdT l=some (s,r)):l=txtB s++r:=by
 unfold rdT at h
 split at h
 case h_2=>simp at h
 rename_i n r' hn
 split at h
 case isFalse=>simp at h
 rename_i hk
 simp only [Option.some.injEq,Prod.mk.injEq] at h
 obtain ⟨rfl,rfl⟩:=h
 have e:=(rdN_eq hn).1
 unfold txtB
 rw [bstr_size,List.length_take,Nat.min_eq_left (by omega),bstr_list,List.append_assoc,List.take_append_drop,show ((n.toNat:Nat):Int)=n by omega]
 exact e
theorem rdF_flg (y:Bool) (r:List UInt8):rdF (flgB y++r)=some (y,r):=by
 unfold rdF flgB
 rw [rdN_num (by split<;>exact ⟨by omega,by omega⟩)]
 cases y<;>simp
theorem rdF_eq {l r:List UInt8} {y:Bool} (h:rdF l=some (y,r)):l=flgB y++r:=by
 unfold rdF at h
 split at h
 case h_2=>simp at h
 rename_i n r' hn
 have e:=(rdN_eq hn).1
 unfold flgB
 split at h
 ·rename_i h0
  simp only [Option.some.injEq,Prod.mk.injEq] at h
  obtain ⟨rfl,rfl⟩:=h
  rw [e,h0];simp
 ·split at h
  ·rename_i h1
   simp only [Option.some.injEq,Prod.mk.injEq] at h
   obtain ⟨rfl,rfl⟩:=h
   rw [e,h1];simp
  ·simp at h
theorem rdP_nums {x y z u v:Int} (h1:In63 x) (h2:In63 y) (h3:In63 z) (h4:In63 u) (h5:In63 v) (r:List UInt8):rdP ([x,y,z,u,v].flatMap numB++r)=some ((x,y,z,u,v),r):=by
 unfold rdP
 simp only [List.flatMap_cons,List.flatMap_nil,List.append_nil,List.append_assoc,rdN_num h1,rdN_num h2,rdN_num h3,rdN_num h4,rdN_num h5,Option.bind_some]
theorem rdP_eq {l r:List UInt8} {x y z u v:Int} (h:rdP l=some ((x,y,z,u,v),r)):l=[x,y,z,u,v].flatMap numB++r:=by
 unfold rdP at h
 simp only [Option.bind_eq_some_iff,Option.some.injEq,Prod.mk.injEq] at h
 obtain ⟨⟨x',r1⟩,n1,⟨y',r2⟩,n2,⟨z',r3⟩,n3,⟨u',r4⟩,n4,⟨v',r5⟩,n5,⟨rfl,rfl,rfl,rfl,rfl⟩,rfl⟩:=h
 simp only at n1 n2 n3 n4 n5 ⊢
 have e1:=(rdN_eq n1).1
 have e2:=(rdN_eq n2).1
 have e3:=(rdN_eq n3).1
 have e4:=(rdN_eq n4).1
 have e5:=(rdN_eq n5).1
 simp only [List.flatMap_cons,List.flatMap_nil,List.append_nil,List.append_assoc]
 rw [e1,e2,e3,e4,e5]
theorem rdEl_el {m:Mem} (h:wok m) (r:List UInt8):rdEl (elB m++r)=some (m,r):=by
 obtain ⟨h0,h1,h2,h3⟩:=h
 unfold rdEl elB
 simp only [List.flatMap_cons,List.flatMap_nil,List.append_nil,List.append_assoc,rdT_txt (s:=m.name) (by omega),rdN_num h1,rdN_num h2,rdN_num h3,rdF_flg m.server,Option.bind_some]
theorem rdEl_eq {l r:List UInt8} {m:Mem} (h:rdEl l=some (m,r)):l=elB m++r:=by
 unfold rdEl at h
 simp only [Option.bind_eq_some_iff,Option.some.injEq,Prod.mk.injEq] at h
 obtain ⟨⟨x0,r1⟩,n0,⟨x1,r2⟩,n1,⟨x2,r3⟩,n2,⟨x3,r4⟩,n3,⟨x4,r5⟩,n4,rfl,rfl⟩:=h
 simp only at n0 n1 n2 n3 n4 ⊢
 have e0:=rdT_eq n0
 have e1:=(rdN_eq n1).1
 have e2:=(rdN_eq n2).1
 have e3:=(rdN_eq n3).1
 have e4:=rdF_eq n4
 unfold elB
 simp only [List.flatMap_cons,List.flatMap_nil,List.append_nil,List.append_assoc]
 rw [e0,e1,e2,e3,e4]
theorem rdLs_el:∀ (E:List Mem),(∀ m∈E,wok m)→∀ (D:List Mem) (r:List UInt8),rdLs E.length (E.flatMap elB++r) D=some (D++E,r)
 | [],_,D,r=>by simp [rdLs]
 | m :: E,h,D,r=>by
   rw [List.flatMap_cons,List.append_assoc,List.length_cons,rdLs,rdEl_el (h m List.mem_cons_self)]
   simp only
   rw [rdLs_el E (fun x hx=>h x (List.mem_cons_of_mem _ hx)) (D++[m]) r,List.append_assoc];rfl
theorem rdLs_eq:∀ {n:Nat} {l r:List UInt8} {D E:List Mem},rdLs n l D=some (E,r)→∃ X:List Mem,X.length=n∧E=D++X∧l=X.flatMap elB++r
 | 0,l,r,D,E,h=>by
   simp only [rdLs,Option.some.injEq,Prod.mk.injEq] at h
   obtain ⟨rfl,rfl⟩:=h
   exact ⟨[],rfl,by simp,by simp⟩
 | n+1,l,r,D,E,h=>by
   simp only [rdLs] at h
   split at h
   ·cases h
   ·rename_i m r' he
    obtain ⟨X,h1,h2,h3⟩:=rdLs_eq h
    exact ⟨m :: X,by simp [h1],by rw [h2];simp,by rw [rdEl_eq he,h3,List.flatMap_cons,List.append_assoc]⟩
theorem rdList_el {E:List Mem} (hl:E.length≤1000) (h:∀ m∈E,wok m) (r:List UInt8):rdList (numB E.length++E.flatMap elB++r)=some (E,r):=by
 unfold rdList
 rw [List.append_assoc,rdN_num ⟨by omega,by omega⟩,Option.bind_some]
 simp only
 rw [if_pos (by omega),Int.toNat_natCast,rdLs_el E h [] r];rfl
theorem rdList_eq {l r:List UInt8} {E:List Mem} (h:rdList l=some (E,r)):l=numB E.length++E.flatMap elB++r:=by
 unfold rdList at h
 rw [Option.bind_eq_some_iff] at h
 obtain ⟨⟨n,r1⟩,h1,h2⟩:=h
 simp only at h2
 split at h2
 ·rename_i h0
  obtain ⟨X,g1,g2,g3⟩:=rdLs_eq h2
  rw [List.nil_append] at g2
  subst g2
  rw [(rdN_eq h1).1,g3,g1,show ((n.toNat:Nat):Int)=n by omega,List.append_assoc]
 ·cases h2
namespace Sv
theorem rdEl_el {m:Svc} (h:wok m) (r:List UInt8):rdEl (elB m++r)=some (m,r):=by
 obtain ⟨h0,h1,h2,h3,h4,h5,h6⟩:=h
 unfold rdEl elB
 simp only [List.flatMap_cons,List.flatMap_nil,List.append_nil,List.append_assoc,rdT_txt (s:=m.node) (by omega),rdT_txt (s:=m.idn) (by omega),rdT_txt (s:=m.name) (by omega),rdT_txt (s:=m.tag) (by omega),rdN_num h4,rdN_num h5,rdF_flg m.passing,rdN_num h6,rdF_flg m.gone,Option.bind_some]
theorem rdEl_eq {l r:List UInt8} {m:Svc} (h:rdEl l=some (m,r)):l=elB m++r:=by
 unfold rdEl at h
 simp only [Option.bind_eq_some_iff,Option.some.injEq,Prod.mk.injEq] at h
 obtain ⟨⟨x0,r1⟩,n0,⟨x1,r2⟩,n1,⟨x2,r3⟩,n2,⟨x3,r4⟩,n3,⟨x4,r5⟩,n4,⟨x5,r6⟩,n5,⟨x6,r7⟩,n6,⟨x7,r8⟩,n7,⟨x8,r9⟩,n8,rfl,rfl⟩:=h
 simp only at n0 n1 n2 n3 n4 n5 n6 n7 n8 ⊢
 have e0:=rdT_eq n0
 have e1:=rdT_eq n1
 have e2:=rdT_eq n2
 have e3:=rdT_eq n3
 have e4:=(rdN_eq n4).1
 have e5:=(rdN_eq n5).1
 have e6:=rdF_eq n6
 have e7:=(rdN_eq n7).1
 have e8:=rdF_eq n8
 unfold elB
 simp only [List.flatMap_cons,List.flatMap_nil,List.append_nil,List.append_assoc]
 rw [e0,e1,e2,e3,e4,e5,e6,e7,e8]
theorem rdLs_el:∀ (E:List Svc),(∀ m∈E,wok m)→∀ (D:List Svc) (r:List UInt8),rdLs E.length (E.flatMap elB++r) D=some (D++E,r)
 | [],_,D,r=>by simp [rdLs]
 | m :: E,h,D,r=>by
   rw [List.flatMap_cons,List.append_assoc,List.length_cons,rdLs,rdEl_el (h m List.mem_cons_self)]
   simp only
   rw [rdLs_el E (fun x hx=>h x (List.mem_cons_of_mem _ hx)) (D++[m]) r,List.append_assoc];rfl
theorem rdLs_eq:∀ {n:Nat} {l r:List UInt8} {D E:List Svc},rdLs n l D=some (E,r)→∃ X:List Svc,X.length=n∧E=D++X∧l=X.flatMap elB++r
 | 0,l,r,D,E,h=>by
   simp only [rdLs,Option.some.injEq,Prod.mk.injEq] at h
   obtain ⟨rfl,rfl⟩:=h
   exact ⟨[],rfl,by simp,by simp⟩
 | n+1,l,r,D,E,h=>by
   simp only [rdLs] at h
   split at h
   ·cases h
   ·rename_i m r' he
    obtain ⟨X,h1,h2,h3⟩:=rdLs_eq h
    exact ⟨m :: X,by simp [h1],by rw [h2];simp,by rw [rdEl_eq he,h3,List.flatMap_cons,List.append_assoc]⟩
theorem rdList_el {E:List Svc} (hl:E.length≤1000) (h:∀ m∈E,wok m) (r:List UInt8):rdList (numB E.length++E.flatMap elB++r)=some (E,r):=by
 unfold rdList
 rw [List.append_assoc,rdN_num ⟨by omega,by omega⟩,Option.bind_some]
 simp only
 rw [if_pos (by omega),Int.toNat_natCast,rdLs_el E h [] r];rfl
theorem rdList_eq {l r:List UInt8} {E:List Svc} (h:rdList l=some (E,r)):l=numB E.length++E.flatMap elB++r:=by
 unfold rdList at h
 rw [Option.bind_eq_some_iff] at h
 obtain ⟨⟨n,r1⟩,h1,h2⟩:=h
 simp only at h2
 split at h2
 ·rename_i h0
  obtain ⟨X,g1,g2,g3⟩:=rdLs_eq h2
  rw [List.nil_append] at g2
  subst g2
  rw [(rdN_eq h1).1,g3,g1,show ((n.toNat:Nat):Int)=n by omega,List.append_assoc]
 ·cases h2
end Sv
namespace Gw
theorem rdEl_el {m:Gwy} (h:wok m) (r:List UInt8):rdEl (elB m++r)=some (m,r):=by
 obtain ⟨h0,h1,h2⟩:=h
 unfold rdEl elB
 simp only [List.flatMap_cons,List.flatMap_nil,List.append_nil,List.append_assoc,rdT_txt (s:=m.centre) (by omega),rdN_num h1,rdN_num h2,Option.bind_some]
theorem rdEl_eq {l r:List UInt8} {m:Gwy} (h:rdEl l=some (m,r)):l=elB m++r:=by
 unfold rdEl at h
 simp only [Option.bind_eq_some_iff,Option.some.injEq,Prod.mk.injEq] at h
 obtain ⟨⟨x0,r1⟩,n0,⟨x1,r2⟩,n1,⟨x2,r3⟩,n2,rfl,rfl⟩:=h
 simp only at n0 n1 n2 ⊢
 have e0:=rdT_eq n0
 have e1:=(rdN_eq n1).1
 have e2:=(rdN_eq n2).1
 unfold elB
 simp only [List.flatMap_cons,List.flatMap_nil,List.append_nil,List.append_assoc]
 rw [e0,e1,e2]
theorem rdLs_el:∀ (E:List Gwy),(∀ m∈E,wok m)→∀ (D:List Gwy) (r:List UInt8),rdLs E.length (E.flatMap elB++r) D=some (D++E,r)
 | [],_,D,r=>by simp [rdLs]
 | m :: E,h,D,r=>by
   rw [List.flatMap_cons,List.append_assoc,List.length_cons,rdLs,rdEl_el (h m List.mem_cons_self)]
   simp only
   rw [rdLs_el E (fun x hx=>h x (List.mem_cons_of_mem _ hx)) (D++[m]) r,List.append_assoc];rfl
theorem rdLs_eq:∀ {n:Nat} {l r:List UInt8} {D E:List Gwy},rdLs n l D=some (E,r)→∃ X:List Gwy,X.length=n∧E=D++X∧l=X.flatMap elB++r
 | 0,l,r,D,E,h=>by
   simp only [rdLs,Option.some.injEq,Prod.mk.injEq] at h
   obtain ⟨rfl,rfl⟩:=h
   exact ⟨[],rfl,by simp,by simp⟩
 | n+1,l,r,D,E,h=>by
   simp only [rdLs] at h
   split at h
   ·cases h
   ·rename_i m r' he
    obtain ⟨X,h1,h2,h3⟩:=rdLs_eq h
    exact ⟨m :: X,by simp [h1],by rw [h2];simp,by rw [rdEl_eq he,h3,List.flatMap_cons,List.append_assoc]⟩
theorem rdList_el {E:List Gwy} (hl:E.length≤1000) (h:∀ m∈E,wok m) (r:List UInt8):rdList (numB E.length++E.flatMap elB++r)=some (E,r):=by
 unfold rdList
 rw [List.append_assoc,rdN_num ⟨by omega,by omega⟩,Option.bind_some]
 simp only
 rw [if_pos (by omega),Int.toNat_natCast,rdLs_el E h [] r];rfl
theorem rdList_eq {l r:List UInt8} {E:List Gwy} (h:rdList l=some (E,r)):l=numB E.length++E.flatMap elB++r:=by
 unfold rdList at h
 rw [Option.bind_eq_some_iff] at h
 obtain ⟨⟨n,r1⟩,h1,h2⟩:=h
 simp only at h2
 split at h2
 ·rename_i h0
  obtain ⟨X,g1,g2,g3⟩:=rdLs_eq h2
  rw [List.nil_append] at g2
  subst g2
  rw [(rdN_eq h1).1,g3,g1,show ((n.toNat:Nat):Int)=n by omega,List.append_assoc]
 ·cases h2
end Gw
namespace Wh
theorem rdEl_el {m:Whe} (h:wok m) (r:List UInt8):rdEl (elB m++r)=some (m,r):=by
 obtain ⟨h0,h1,h2,h3,h4,h5⟩:=h
 unfold rdEl elB
 rw [List.append_assoc,rdT_txt (s:=m.node) (by omega),Option.bind_some]
 simp only
 rw [rdP_nums h1 h2 h3 h4 h5,Option.bind_some]
theorem rdEl_eq {l r:List UInt8} {m:Whe} (h:rdEl l=some (m,r)):l=elB m++r:=by
 unfold rdEl at h
 simp only [Option.bind_eq_some_iff,Option.some.injEq,Prod.mk.injEq] at h
 obtain ⟨⟨x0,r1⟩,n0,⟨⟨x1,x2,x3,x4,x5⟩,r2⟩,n1,rfl,rfl⟩:=h
 simp only at n0 n1 ⊢
 unfold elB
 rw [rdT_eq n0,rdP_eq n1,List.append_assoc]
theorem rdLs_el:∀ (E:List Whe),(∀ m∈E,wok m)→∀ (D:List Whe) (r:List UInt8),rdLs E.length (E.flatMap elB++r) D=some (D++E,r)
 | [],_,D,r=>by simp [rdLs]
 | m :: E,h,D,r=>by
   rw [List.flatMap_cons,List.append_assoc,List.length_cons,rdLs,rdEl_el (h m List.mem_cons_self)]
   simp only
   rw [rdLs_el E (fun x hx=>h x (List.mem_cons_of_mem _ hx)) (D++[m]) r,List.append_assoc];rfl
theorem rdLs_eq:∀ {n:Nat} {l r:List UInt8} {D E:List Whe},rdLs n l D=some (E,r)→∃ X:List Whe,X.length=n∧E=D++X∧l=X.flatMap elB++r
 | 0,l,r,D,E,h=>by
   simp only [rdLs,Option.some.injEq,Prod.mk.injEq] at h
   obtain ⟨rfl,rfl⟩:=h
   exact ⟨[],rfl,by simp,by simp⟩
 | n+1,l,r,D,E,h=>by
   simp only [rdLs] at h
   split at h
   ·cases h
   ·rename_i m r' he
    obtain ⟨X,h1,h2,h3⟩:=rdLs_eq h
    exact ⟨m :: X,by simp [h1],by rw [h2];simp,by rw [rdEl_eq he,h3,List.flatMap_cons,List.append_assoc]⟩
theorem rdList_el {E:List Whe} (hl:E.length≤1000) (h:∀ m∈E,wok m) (r:List UInt8):rdList (numB E.length++E.flatMap elB++r)=some (E,r):=by
 unfold rdList
 rw [List.append_assoc,rdN_num ⟨by omega,by omega⟩,Option.bind_some]
 simp only
 rw [if_pos (by omega),Int.toNat_natCast,rdLs_el E h [] r];rfl
theorem rdList_eq {l r:List UInt8} {E:List Whe} (h:rdList l=some (E,r)):l=numB E.length++E.flatMap elB++r:=by
 unfold rdList at h
 rw [Option.bind_eq_some_iff] at h
 obtain ⟨⟨n,r1⟩,h1,h2⟩:=h
 simp only at h2
 split at h2
 ·rename_i h0
  obtain ⟨X,g1,g2,g3⟩:=rdLs_eq h2
  rw [List.nil_append] at g2
  subst g2
  rw [(rdN_eq h1).1,g3,g1,show ((n.toNat:Nat):Int)=n by omega,List.append_assoc]
 ·cases h2
end Wh
theorem rdPk_B {p:Pk} (h:p.Wok) (r:List UInt8):rdPk (p.B++r)=some (p,r):=by
 unfold rdPk Pk.B
 rw [List.append_assoc,List.append_assoc,List.append_assoc,List.append_assoc,List.append_assoc,rdT_txt (by have:=h.frm;omega),Option.bind_some]
 simp only
 rw [rdF_flg,Option.bind_some]
 simp only
 rw [rdList_el (by have:=h.ms.1;omega) h.ms.2,Option.bind_some]
 simp only
 rw [Sv.rdList_el (by have:=h.sv.1;omega) h.sv.2,Option.bind_some]
 simp only
 rw [Gw.rdList_el (by have:=h.gw.1;omega) h.gw.2,Option.bind_some]
 simp only
 rw [Wh.rdList_el (by have:=h.wh.1;omega) h.wh.2,Option.bind_some]
theorem rdPk_eq {l r:List UInt8} {p:Pk} (h:rdPk l=some (p,r)):l=p.B++r:=by
 unfold rdPk at h
 simp only [Option.bind_eq_some_iff,Option.some.injEq,Prod.mk.injEq] at h
 obtain ⟨⟨x0,r1⟩,n0,⟨x1,r2⟩,n1,⟨x2,r3⟩,n2,⟨x3,r4⟩,n3,⟨x4,r5⟩,n4,⟨x5,r6⟩,n5,rfl,rfl⟩:=h
 simp only at n0 n1 n2 n3 n4 n5 ⊢
 have e0:=rdT_eq n0
 have e1:=rdF_eq n1
 have e2:=rdList_eq n2
 have e3:=Sv.rdList_eq n3
 have e4:=Gw.rdList_eq n4
 have e5:=Wh.rdList_eq n5
 unfold Pk.B
 simp only [List.append_assoc] at e2 e3 e4 e5 ⊢
 rw [e0,e1,e2,e3,e4,e5]
def rdR (l:List UInt8):Option Pk:=(rdPk l).bind fun a=>if a.2=[]∧a.1.e=0 then some a.1 else none
theorem rdR_some {l:List UInt8} {p:Pk}:rdR l=some p↔l=p.B∧p.e=0:=by
 unfold rdR
 rw [Option.bind_eq_some_iff]
 constructor
 ·rintro ⟨⟨q,r⟩,h1,h2⟩
  simp only at h2
  split at h2
  ·rename_i h3
   simp only [Option.some.injEq] at h2
   subst h2
   have:=rdPk_eq h1
   rw [h3.1,List.append_nil] at this
   exact ⟨this,h3.2⟩
  ·cases h2
 ·rintro ⟨rfl,he⟩
  have:=rdPk_B (pk_wok he) []
  rw [List.append_nil] at this
  exact ⟨(p,[]),this,by simp [he]⟩
structure Nt where
 ns:List Nd
 ls:List Lt.Ltr
def ndZ:Nd:=⟨⟨#[]⟩,⟨#[]⟩,[],[],[],[],⟨0,0,0,0,0⟩,[]⟩
def ApartN (ns:List Nd):Prop:=∀ i j,i < j→j < ns.length→(ns.getD i ndZ).name≠(ns.getD j ndZ).name
def apN (ns:List Nd):Bool:=(List.range ns.length).all fun j=>(List.range j).all fun i=>decide ((ns.getD i ndZ).name≠(ns.getD j ndZ).name)
theorem apN_iff (ns:List Nd):apN ns=true↔ApartN ns:=by
 simp only [apN,List.all_eq_true,List.mem_range,decide_eq_true_eq]
 exact ⟨fun h i j hij hj=>h j hj i hij,fun h j hj i hij=>h i j hij hj⟩
def fstE {α:Type} (f:α→Int):List α→Int
 | []=>0
 | x :: r=>if f x=0 then fstE f r else f x
theorem fstE_at {α:Type} (f:α→Int) (d:α):∀ (l:List α) (k:Nat),k < l.length→(∀ j,j < k→f (l.getD j d)=0)→f (l.getD k d)≠0→fstE f l=f (l.getD k d)
 | [],k,hk,_,_=>by simp at hk
 | x :: r,0,_,_,hne=>by
   have:f x≠0:=by simpa using hne
   simp only [fstE]
   rw [if_neg this];simp
 | x :: r,k+1,hk,hz,hne=>by
   have h0:f x=0:=by simpa using hz 0 (by omega)
   simp only [fstE]
   rw [if_pos h0,fstE_at f d r k (by simpa using hk) (fun j hj=>by simpa using hz (j+1) (by omega)) (by simpa using hne)]
   simp
theorem fstE_zero {α:Type} (f:α→Int) (d:α):∀ (l:List α),(∀ j,j < l.length→f (l.getD j d)=0)→fstE f l=0
 | [],_=>rfl
 | x :: r,h=>by
   have h0:f x=0:=by simpa using h 0 (by simp)
   simp only [fstE]
   rw [if_pos h0]
   exact fstE_zero f d r (fun j hj=>by simpa using h (j+1) (by simpa using hj))
theorem fstE_mem {α:Type} (f:α→Int):∀ {l:List α},fstE f l=0→∀ x∈l,f x=0
 | y :: r,h,x,hx=>by
   simp only [fstE] at h
   split at h
   ·rename_i h0
    rcases List.mem_cons.1 hx with rfl | hx
    ·exact h0
    ·exact fstE_mem f h x hx
   ·rename_i h0;exact absurd h h0
def ltE (k:Nat) (l:Lt.Ltr):Int:=if within l.to 0 ((k:Int) - 1)=true then (if (rdR l.text.data.toList).isSome=true then 0 else 1) else 3
def chkN (ns:List Nd):Int:=if fstE Nd.e ns=0 then (if apN ns=true then 0 else 6) else fstE Nd.e ns
def Nt.e (t:Nt):Int:=if 6 < t.ns.length∨20 < t.ls.length then 2 else if chkN t.ns=0 then fstE (ltE t.ns.length) t.ls else chkN t.ns
theorem chkN_e {ns:List Nd} {k:Nat} (hk:k < ns.length) (hz:∀ j,j < k→(ns.getD j ndZ).e=0) (hne:(ns.getD k ndZ).e≠0):chkN ns=(ns.getD k ndZ).e:=by
 have h:=fstE_at Nd.e ndZ ns k hk hz hne
 rw [chkN,h,if_neg hne]
theorem chkN_twice {ns:List Nd} (hz:∀ j,j < ns.length→(ns.getD j ndZ).e=0) (hd:¬ ApartN ns):chkN ns=6:=by
 rw [chkN,if_pos (fstE_zero _ ndZ ns hz),if_neg (fun h=>hd ((apN_iff ns).1 h))]
theorem chkN_ok {ns:List Nd} (hz:∀ j,j < ns.length→(ns.getD j ndZ).e=0) (hd:ApartN ns):chkN ns=0:=by
 rw [chkN,if_pos (fstE_zero _ ndZ ns hz),if_pos ((apN_iff ns).2 hd)]
def NRow (w:World) (b off:Nat) (ns:List Nd):Prop:=∀ j,j < ns.length→∃ vm vr vs vg vw,NdIs w (ns.getD j ndZ) vm vr vs vg vw∧∀ i,i < 12→w.cell? ⟨b,off+j * 12+i,none⟩=(ndA (ns.getD j ndZ) vm vr vs vg vw)[i]?
theorem NRow.below {w w':World} {b off:Nat} {ns:List Nd} (h:NRow w b off ns) (hb:Below w.heap.size w w') (hl:b < w.heap.size):NRow w' b off ns:=fun j hj=>by
 obtain ⟨vm,vr,vs,vg,vw,h1,h2⟩:=h j hj
 exact ⟨vm,vr,vs,vg,vw,h1.below hb,fun i hi=>(hb.cell (p:=⟨b,off+j * 12+i,none⟩) hl).trans (h2 i hi)⟩
def NSl (w:World) (v:Value) (ns:List Nd):Prop:=∃ (a:Option Addr) (cap:Nat),v=.slice a ns.length cap∧(ns=[]∨∃ b off,a=some ⟨b,off,none⟩∧b < w.heap.size∧NRow w b off ns)
theorem NSl.below {w w':World} {v:Value} {ns:List Nd} (h:NSl w v ns) (hb:Below w.heap.size w w'):NSl w' v ns:=by
 obtain ⟨a,cap,rfl,h⟩:=h
 refine ⟨a,cap,rfl,?_⟩
 rcases h with h | ⟨b,off,rfl,hl,hr⟩
 ·exact .inl h
 ·exact .inr ⟨b,off,rfl,Nat.lt_of_lt_of_le hl hb.size,hr.below hb hl⟩
theorem NRow.at {w:World} {b off k:Nat} {ns:List Nd} (h:NRow w b off ns) (hk:k < ns.length):∃ vm vr vs vg vw,NdIs w (ns.getD k ndZ) vm vr vs vg vw∧w.cell? ⟨b,off+k * 12,none⟩=some (.string (ns.getD k ndZ).name)∧w.cell? ⟨b,off+k * 12+1,none⟩=some (.string (ns.getD k ndZ).centre)∧w.cell? ⟨b,off+k * 12+2,none⟩=some vm∧w.cell? ⟨b,off+k * 12+3,none⟩=some vr∧w.cell? ⟨b,off+k * 12+4,none⟩=some vs∧w.cell? ⟨b,off+k * 12+5,none⟩=some vg∧w.cell? ⟨b,off+k * 12+6,none⟩=some (.int .i64 (ns.getD k ndZ).p.x)∧w.cell? ⟨b,off+k * 12+7,none⟩=some (.int .i64 (ns.getD k ndZ).p.y)∧w.cell? ⟨b,off+k * 12+8,none⟩=some (.int .i64 (ns.getD k ndZ).p.z)∧w.cell? ⟨b,off+k * 12+9,none⟩=some (.int .i64 (ns.getD k ndZ).p.h)∧w.cell? ⟨b,off+k * 12+10,none⟩=some (.int .i64 (ns.getD k ndZ).p.s)∧w.cell? ⟨b,off+k * 12+11,none⟩=some vw:=by
 obtain ⟨vm,vr,vs,vg,vw,h1,h2⟩:=h k hk
 exact ⟨vm,vr,vs,vg,vw,h1,h2 0 (by omega),h2 1 (by omega),h2 2 (by omega),h2 3 (by omega),h2 4 (by omega),h2 5 (by omega),h2 6 (by omega),h2 7 (by omega),h2 8 (by omega),h2 9 (by omega),h2 10 (by omega),h2 11 (by omega)⟩
theorem setAll_os (b:Nat):∀ (L:List Value) (j:Nat) (w:World),(setAll b L j w).os=w.os∧(setAll b L j w).tape=w.tape∧(setAll b L j w).output=w.output
 | [],_,_=>⟨rfl,rfl,rfl⟩
 | _ :: r,j,w=>setAll_os b r (j+1) (w.setCell ⟨b,j,none⟩ _)
theorem Rp.setAll {g:Nat} {w w1:World} (h:Rp g w w1) (L:List Value):Rp g w (setAll g L 0 w1):=by
 obtain ⟨h1,h2,h3⟩:=setAll_os g L 0 w1
 exact ⟨h1.trans h.os,h2.trans h.tape,h3.trans h.output,by rw [setAll_size];exact h.size,fun k hk hg=>(setAll_other hg L 0 w1).trans (h.block k hk hg)⟩
theorem cells6p {W:World} {b:Nat} {T:TypeId} {f:Nat × Nat} {c0 c1 c2 c3 c4 c5:Value} (h:W.heap[b]?=some (.cells #[c0,c1,c2,c3,c4,c5] T f)):W.cell? ⟨b,0,none⟩=some c0∧W.cell? ⟨b,1,none⟩=some c1∧W.cell? ⟨b,2,none⟩=some c2∧W.cell? ⟨b,3,none⟩=some c3∧W.cell? ⟨b,4,none⟩=some c4∧W.cell? ⟨b,5,none⟩=some c5:=⟨cellsAt h 0,cellsAt h 1,cellsAt h 2,cellsAt h 3,cellsAt h 4,cellsAt h 5⟩
theorem free6 {W:World} {b:Nat} {T:TypeId} {C:Array Value} (h:W.heap[b]?=some (.cells C T (0,0))):W.frozen? ⟨b,0,none⟩=false∧W.frozen? ⟨b,1,none⟩=false∧W.frozen? ⟨b,2,none⟩=false∧W.frozen? ⟨b,3,none⟩=false∧W.frozen? ⟨b,4,none⟩=false∧W.frozen? ⟨b,5,none⟩=false:=by simp [World.frozen?,h]
theorem roomy_own {base n k:Nat} {T:TypeId} {w:World} {v:Value} {xs:List Value} (h:w.ownsRow base T k v n xs):Roomy v:=by
 rcases h.2 with ⟨rfl,h0⟩ | ⟨g,c,cur,rfl,hbg,hg,hnc,hcm,hcs,htake⟩
 ·unfold Roomy;exact Nat.le_refl _
 ·unfold Roomy;exact hnc
def ReP (cp:Nat) (w:World) (o:Option Pk) (e:Ending) (w':World):Prop:=
 Rp cp w w'∧((∃ p vm vs vg vw,o=some p∧e=.returned (.tuple #[])∧w'.heap[cp]?=some (.cells #[.string p.frm,.bool p.whole,vm,vs,vg,vw] 67 (0,0))∧PkOwn (w.heap.size+1) w' p vm vs vg vw)∨(o=none∧e=outP 1))
theorem PkOwn.mono {a b:Nat} {w:World} {p:Pk} {vm vs vg vw:Value} (h:PkOwn b w p vm vs vg vw) (hab:a≤b):PkOwn a w p vm vs vg vw:=⟨h.ms.mono hab,h.sv.mono hab,h.gw.mono hab,h.wh.mono hab⟩
theorem rdPk_in {l r:List UInt8} {p:Pk} (h:rdPk l=some (p,r)) (hl:l.length≤16777216):p.frm.size≤maxLen∧(∀ m∈p.ms,m.name.size≤maxLen)∧(∀ m∈p.sv,m.node.size≤maxLen∧m.idn.size≤maxLen∧m.name.size≤maxLen∧m.tag.size≤maxLen)∧(∀ m∈p.gw,m.centre.size≤maxLen)∧(∀ m∈p.wh,m.node.size≤maxLen):=by
 unfold rdPk at h
 simp only [Option.bind_eq_some_iff,Option.some.injEq,Prod.mk.injEq] at h
 obtain ⟨⟨x0,r1⟩,n0,⟨x1,r2⟩,n1,⟨x2,r3⟩,n2,⟨x3,r4⟩,n3,⟨x4,r5⟩,n4,⟨x5,r6⟩,n5,rfl,rfl⟩:=h
 simp only at n0 n1 n2 n3 n4 n5 ⊢
 have e0:=rdT_in n0
 have e1:=rdF_in n1
 have e2:=rdList_ok n2 (by omega)
 have e3:=Sv.rdList_ok n3 (by omega)
 have e4:=Gw.rdList_ok n4 (by omega)
 have e5:=Wh.rdList_ok n5 (by omega)
 refine ⟨by unfold maxLen;omega,e2.1,e3.1,e4.1,e5.1⟩
theorem rdLen {l r:List UInt8} {p:Pk} (h:rdPk l=some (p,r)) (hl:l.length≤16777216):p.sv.length+p.gw.length+p.wh.length≤16777216:=by
 have e:=rdPk_eq h
 have hS:∀ m:Sv.Svc,1≤(Sv.elB m).length:=fun m=>by unfold Sv.elB txtB numB;simp only [List.length_append,List.length_singleton];omega
 have hG:∀ m:Gw.Gwy,1≤(Gw.elB m).length:=fun m=>by unfold Gw.elB txtB numB;simp only [List.length_append,List.length_singleton];omega
 have hW:∀ m:Wh.Whe,1≤(Wh.elB m).length:=fun m=>by unfold Wh.elB txtB numB;simp only [List.length_append,List.length_singleton];omega
 have fl:∀ {α:Type} (f:α→List UInt8),(∀ m,1≤(f m).length)→∀ L:List α,L.length≤(L.flatMap f).length:=fun f hf L=>by
  induction L with
  | nil=>simp
  | cons m L ih=>rw [List.flatMap_cons,List.length_append,List.length_cons];have:=hf m;omega
 have h1:=fl Sv.elB hS p.sv
 have h2:=fl Gw.elB hG p.gw
 have h3:=fl Wh.elB hW p.wh
 have h4:=congrArg List.length e
 unfold Pk.B at h4
 simp only [List.length_append] at h4
 omega
set_option maxHeartbeats 6400000 in
set_option maxRecDepth 100000 in
theorem read1_b {B cs cp:Nat} {l:List UInt8} {w:World} (hV:Rv B w) (hs:l.length≤16777216) (hcs:w.cell? ⟨cs,0,none⟩=some (.string (bstr l))) (hcp:w.heap[cp]?=some (.cells #[.string ⟨#[]⟩,.bool false,.slice none 0 0,.slice none 0 0,.slice none 0 0,.slice none 0 0] 67 (0,0))) :
 Calls Tryz.prog 121 #[.pointer (some ⟨cs,0,none⟩),.pointer (some ⟨cp,0,none⟩)] w (ReP cp w (rdR l)):=by
 obtain ⟨F,hF⟩:∃ F,F=rdR l:=⟨_,rfl⟩
 rw [← hF]
 unfold rdR at hF
 have HF:Hid (F=(rdPk l).bind fun a=>if a.2=[]∧a.1.e=0 then some a.1 else none):=hF
 have hcpl:cp < w.heap.size:=(Array.getElem?_eq_some_iff.1 hcp).1
 obtain ⟨W0,hW0⟩:∃ W0,W0=w.alloc (.cells #[.string (bstr l)] 159):=⟨_,rfl⟩
 have hb0:Below w.heap.size w W0:=by rw [hW0];exact (Below.refl _ _).alloc (Nat.le_refl _) _
 have hg0:W0.heap[w.heap.size]?=some (.cells #[.string (bstr l)] 159 (0,0)):=by rw [hW0];exact heap_alloc_new w _
 have hs0:W0.heap.size=w.heap.size+1:=by rw [hW0];simp
 have hp0:IsP w.heap.size l W0:=⟨cellsAt hg0 0,by simp [World.frozen?,hg0],by omega⟩
 have HPK:Hid (Calls Tryz.prog 122 #[.pointer (some ⟨w.heap.size,0,none⟩)] W0 (PkP w.heap.size W0 (rdPk l))):=packet_b (hV.below (hb0.mono hV.le)) hV.le hp0 hs
 have HB0:Hid (Below w.heap.size w W0):=hb0
 have HS0:Hid (W0.heap.size=w.heap.size+1):=hs0
 have HCP:Hid (∀ W,Rp w.heap.size W0 W→W.heap[cp]?=some (.cells #[.string ⟨#[]⟩,.bool false,.slice none 0 0,.slice none 0 0,.slice none 0 0,.slice none 0 0] 67 (0,0))):=fun W hW=>hW.block' (by omega) ((hb0.block cp hcpl).trans hcp)
 have HIN:Hid (∀ p r,rdPk l=some (p,r)→(p.frm.size≤maxLen∧(∀ m∈p.ms,m.name.size≤maxLen)∧(∀ m∈p.sv,m.node.size≤maxLen∧m.idn.size≤maxLen∧m.name.size≤maxLen∧m.tag.size≤maxLen)∧(∀ m∈p.gw,m.centre.size≤maxLen)∧(∀ m∈p.wh,m.node.size≤maxLen))∧p.sv.length+p.gw.length+p.wh.length≤16777216):=fun p r h=>⟨rdPk_in h hs,rdLen h hs⟩
 have HRP0:Hid (Rp cp w W0):=Rp.of_below hb0 (Nat.le_refl _)
 clear hF hV hs hcp hb0 hg0 hs0 hp0
 go_enter Tryz.func121,Tryz.ntmps121
 go_wp2_with fail
 rw [← hW0]
 clear hW0 hcs
 refine HPK.out.mono ?_
 rintro e w1 ⟨hr,⟨p,r,vm,vs,vg,vw,hn,rfl,ho,hp⟩ | ⟨hn,rfl⟩⟩
 rotate_left
 ·exact ⟨rfl,⟨hr.os.trans HRP0.out.os,hr.tape.trans HRP0.out.tape,hr.output.trans HRP0.out.output,Nat.le_trans HRP0.out.size hr.size,fun k hk hkc=>(hr.block k (Nat.lt_of_lt_of_le hk HRP0.out.size) (by omega)).trans (HRP0.out.block k hk hkc)⟩,.inr ⟨bind_no HF.out hn,rfl⟩⟩
 have hF1:=bind_go HF.out hn
 have HF1:Hid (F=if r=[]∧p.e=0 then some p else none):=hF1
 obtain ⟨⟨hfr,hok⟩,hlen⟩:=HIN.out p r hn
 obtain ⟨a2,l2,c2,rfl⟩:=slice_of_row ho.ms
 obtain ⟨a3,l3,c3,rfl⟩:=slice_of_row ho.sv
 obtain ⟨a4,l4,c4,rfl⟩:=slice_of_row ho.gw
 obtain ⟨a5,l5,c5,rfl⟩:=slice_of_row ho.wh
 have hk1:=HCP.out w1 hr
 have hr1:Rp cp w w1:=⟨hr.os.trans HRP0.out.os,hr.tape.trans HRP0.out.tape,hr.output.trans HRP0.out.output,Nat.le_trans HRP0.out.size hr.size,fun k hk hkc=>(hr.block k (Nat.lt_of_lt_of_le hk HRP0.out.size) (by omega)).trans (HRP0.out.block k hk hkc)⟩
 obtain ⟨w2,hw2⟩:∃ w2,w2=setAll cp [.string p.frm,.bool p.whole,.slice a2 l2 c2,.slice a3 l3 c3,.slice a4 l4 c4,.slice a5 l5 c5] 0 w1:=⟨_,rfl⟩
 have hk2:w2.heap[cp]?=some (.cells #[.string p.frm,.bool p.whole,.slice a2 l2 c2,.slice a3 l3 c3,.slice a4 l4 c4,.slice a5 l5 c5] 67 (0,0)):=by rw [hw2];exact setAll6 hk1 _ _ _ _ _ _
 have hr2:Rp cp w w2:=by rw [hw2];exact hr1.setAll _
 have hkk:∀ b,b≠cp→w2.heap[b]?=w1.heap[b]?:=fun b hb=>by rw [hw2];exact setAll_other hb _ _ _
 have hz2:w2.heap.size=w1.heap.size:=by rw [hw2];exact setAll_size _ _ _ _
 have ho2:PkOwn (w.heap.size+1) w2 p (.slice a2 l2 c2) (.slice a3 l3 c3) (.slice a4 l4 c4) (.slice a5 l5 c5):=(ho.mono (by have:=HS0.out;omega)).keep (fun b hb _=>hkk b (by omega))
 have his:PkIs w2 p (.slice a2 l2 c2) (.slice a3 l3 c3) (.slice a4 l4 c4) (.slice a5 l5 c5):=⟨own_names ho2.ms hok.1,Sv.own_names ho2.sv hok.2.1,Gw.own_names ho2.gw hok.2.2.1,Wh.own_names ho2.wh hok.2.2.2,hfr,roomy_own ho2.ms⟩
 have HCK:Hid (Calls Tryz.prog 88 #[.agg #[.string p.frm,.bool p.whole,.slice a2 l2 c2,.slice a3 l3 c3,.slice a4 l4 c4,.slice a5 l5 c5]] w2 fun e w'=>e=.returned (.int .i64 p.e)∧Below w2.heap.size w2 w'):=pcheck_any p _ _ _ _ w2 his (.inr (by omega))
 have d2:w2.cell? ⟨w.heap.size,0,none⟩=some (.string (bstr r)):=by
  have:=hp.c0
  simp only [World.cell?] at this ⊢
  rw [hkk _ (by omega)];exact this
 have HR2:Hid (Rp cp w w2):=hr2
 have HK2:Hid (w2.heap[cp]?=some (.cells #[.string p.frm,.bool p.whole,.slice a2 l2 c2,.slice a3 l3 c3,.slice a4 l4 c4,.slice a5 l5 c5] 67 (0,0))):=hk2
 have HO2:Hid (PkOwn (w.heap.size+1) w2 p (.slice a2 l2 c2) (.slice a3 l3 c3) (.slice a4 l4 c4) (.slice a5 l5 c5)):=ho2
 have HEND:Hid (∀ w3,Below w2.heap.size w2 w3→Rp cp w w3∧w3.heap[cp]?=some (.cells #[.string p.frm,.bool p.whole,.slice a2 l2 c2,.slice a3 l3 c3,.slice a4 l4 c4,.slice a5 l5 c5] 67 (0,0))∧PkOwn (w.heap.size+1) w3 p (.slice a2 l2 c2) (.slice a3 l3 c3) (.slice a4 l4 c4) (.slice a5 l5 c5)):=fun w3 hb=>
  ⟨HR2.out.trans (Rp.of_below hb (Nat.le_refl _)),(hb.block cp (Array.getElem?_eq_some_iff.1 HK2.out).1).trans HK2.out,HO2.out.keep (fun b _ hbl=>hb.block b hbl)⟩
 obtain ⟨b0,b1,b2,b3,b4,b5⟩:=cells6p hk1
 obtain ⟨z0,z1,z2,z3,z4,z5⟩:=free6 hk1
 obtain ⟨f0,f1,f2,f3,f4,f5⟩:=cells6p hk2
 generalize hpe:p.e=pe at *
 have HPE:Hid (p.e=pe):=hpe
 clear hpe
 obtain ⟨q0,q1,qm,qs,qg,qw⟩:=p
 simp only at f0 f1 HCK hw2 HEND b0 b1 ⊢
 clear hn hr hp ho hF1 HF HPK HIN HCP HB0 HS0 hfr hok hlen hk1 hr1 hk2 hr2 hkk hz2 ho2 his HR2 HK2 HO2 HRP0
 go_upto_region 2 with fail
 simp only [setAll,Nat.zero_add,Nat.reduceAdd] at hw2
 rw [← hw2]
 clear hw2 b0 b1 b2 b3 b4 b5 z0 z1 z2 z3 z4 z5
 cases r with
 | cons x rs=>
   have hne:((bstr (x :: rs)).toList == ([]:List UInt8))=false:=by rw [ByteArray.toList_eq,bstr_list];rfl
   have hne2:((bstr (x :: rs)).toList == (ByteArray.toList ⟨#[]⟩))=false:=by rw [ByteArray.toList_eq,bstr_list,ByteArray.toList_eq];rfl
   have hno:F=none:=HF1.out.trans (if_neg (fun h=>by cases h.1))
   have HNO:Hid (F=none):=hno
   clear hno HF1
   generalize bstr (x :: rs)=R at *
   go_wp2_with fail
   refine (need_no _ _).mono ?_
   rintro e w4 ⟨rfl,hw4⟩
   subst hw4
   exact ⟨rfl,(HEND.out _ (Below.refl _ _)).1,.inr ⟨HNO.out,rfl⟩⟩
 | nil=>
   have HF2:Hid (F=if pe=0 then some ⟨q0,q1,qm,qs,qg,qw⟩ else none):=by
    show _=_
    rw [HF1.out];simp
   clear HF1
   have d3:w2.cell? ⟨w.heap.size,0,none⟩=some (.string ⟨#[]⟩):=d2
   clear d2
   go_wp2_with fail
   refine HCK.out.mono ?_
   rintro e w3 ⟨rfl,hb3⟩
   have HE3:=HEND.out w3 hb3
   have HE3h:Hid _:=HE3
   clear HE3 hb3
   by_cases h0:pe=0
   ·have hd:(pe == 0)=true:=by simpa using h0
    have HFO:Hid (F=some ⟨q0,q1,qm,qs,qg,qw⟩):=HF2.out.trans (if_pos h0)
    clear h0 HF2
    go_wp2_with fail
    refine (need_ok _ _).mono ?_
    rintro e w4 ⟨rfl,hw4⟩
    subst hw4
    go_wp2_with fail
    simp only [bodyPost,results,Tryz.results121]
    exact ⟨trivial,.tuple #[],by simp,HE3h.out.1,.inl ⟨_,_,_,_,_,HFO.out,rfl,HE3h.out.2⟩⟩
   ·have hd:(pe == 0)=false:=by simpa using h0
    have HFO:Hid (F=none):=HF2.out.trans (if_neg h0)
    clear h0 HF2
    go_wp2_with fail
    refine (need_no _ _).mono ?_
    rintro e w4 ⟨rfl,hw4⟩
    subst hw4
    exact ⟨rfl,HE3h.out.1,.inr ⟨HFO.out,rfl⟩⟩
def ReadSays (w:World) (o:Option Pk) (e:Ending) (w':World):Prop:=
 Below w.heap.size w w'∧((∃ p vm vs vg vw,o=some p∧e=.returned (.tuple #[.agg #[.string p.frm,.bool p.whole,vm,vs,vg,vw],.int .i64 0])∧PkOwn w.heap.size w' p vm vs vg vw)∨(o=none∧e=.returned (.tuple #[.agg #[.string ⟨#[]⟩,.bool false,.slice none 0 0,.slice none 0 0,.slice none 0 0,.slice none 0 0],.int .i64 1])))
set_option maxHeartbeats 6400000 in
set_option maxRecDepth 100000 in
theorem pread_b {B:Nat} {l:List UInt8} {w:World} (hV:Rv B w) (hs:l.length≤16777216) :
 Calls Tryz.prog 85 #[.string (bstr l)] w (ReadSays w (rdR l)):=by
 have hmf:∀ (fn:Fn) (first cap:Array Value) (w:World),(Instr.makeFunc fn first cap).run Tryz.prog w=.ok (.func fn first cap) w:=fun _ _ _ _=>rfl
 have ef:∀ (args:Array Value) (W:World),(callFunc 121 args).run Tryz.prog W=.ok (.enter 121 args) W:=enters_of Tryz.func121 (by kernel_rfl) rfl
 obtain ⟨W0,hW0⟩:∃ W0,W0=((w.alloc (.cells #[.string (bstr l)] 9)).alloc (.cells #[.string ⟨#[]⟩,.bool false,.slice none 0 0,.slice none 0 0,.slice none 0 0,.slice none 0 0] 67)).alloc (.cells #[.string ⟨#[]⟩,.bool false,.slice none 0 0,.slice none 0 0,.slice none 0 0,.slice none 0 0] 67):=⟨_,rfl⟩
 have hb0:Below w.heap.size w W0:=by rw [hW0];exact (((Below.refl _ _).alloc (Nat.le_refl _) _).alloc (by simp) _).alloc (by simp;omega) _
 have hs0:W0.heap.size=w.heap.size+3:=by rw [hW0];simp
 have k0:W0.heap[w.heap.size]?=some (.cells #[.string (bstr l)] 9 (0,0)):=by
  rw [hW0]
  exact (Lib.alloc_old _ _ _ (by simp;omega)).trans ((Lib.alloc_old _ _ _ (by simp)).trans (heap_alloc_new w _))
 have k1:W0.heap[w.heap.size+1]?=some (.cells #[.string ⟨#[]⟩,.bool false,.slice none 0 0,.slice none 0 0,.slice none 0 0,.slice none 0 0] 67 (0,0)):=by
  rw [hW0]
  have:=heap_alloc_new (w.alloc (.cells #[.string (bstr l)] 9)) (.cells #[.string ⟨#[]⟩,.bool false,.slice none 0 0,.slice none 0 0,.slice none 0 0,.slice none 0 0] 67)
  exact (Lib.alloc_old _ _ _ (by simp)).trans (by simpa using this)
 have k2:W0.heap[w.heap.size+2]?=some (.cells #[.string ⟨#[]⟩,.bool false,.slice none 0 0,.slice none 0 0,.slice none 0 0,.slice none 0 0] 67 (0,0)):=by
  rw [hW0]
  have:=heap_alloc_new ((w.alloc (.cells #[.string (bstr l)] 9)).alloc (.cells #[.string ⟨#[]⟩,.bool false,.slice none 0 0,.slice none 0 0,.slice none 0 0,.slice none 0 0] 67)) (.cells #[.string ⟨#[]⟩,.bool false,.slice none 0 0,.slice none 0 0,.slice none 0 0,.slice none 0 0] 67)
  simpa using this
 obtain ⟨W1,hW1⟩:∃ W1,W1=W0.alloc (.cells #[.int .i64 0] 26):=⟨_,rfl⟩
 have hb1:Below W0.heap.size W0 W1:=by rw [hW1];exact (Below.refl _ _).alloc (Nat.le_refl _) _
 have hs1:W1.heap.size=w.heap.size+4:=by rw [hW1];simp;omega
 have ke:W1.heap[W0.heap.size]?=some (.cells #[.int .i64 0] 26 (0,0)):=by rw [hW1];exact heap_alloc_new W0 _
 have HRD:Hid (Calls Tryz.prog 121 #[.pointer (some ⟨w.heap.size,0,none⟩),.pointer (some ⟨w.heap.size+2,0,none⟩)] W1 (ReP (w.heap.size+2) W1 (rdR l))):=
  read1_b (hV.below ((hb0.mono hV.le).trans (hb1.mono (by have:=hV.le;omega)))) hs ((hb1.cell (p:=⟨w.heap.size,0,none⟩) (by show w.heap.size < W0.heap.size;omega)).trans (cellsAt k0 0)) ((hb1.block _ (by omega)).trans k2)
 have HE:Hid (∀ w',Rp (w.heap.size+2) W1 w'→w'.cell? ⟨W0.heap.size,0,none⟩=some (.int .i64 0)∧w'.frozen? ⟨W0.heap.size,0,none⟩=false∧W0.heap.size < w'.heap.size):=fun w' hr=>by
  have e:=hr.block' (k:=W0.heap.size) (by omega) ke
  exact ⟨cellsAt e 0,by simp [World.frozen?,e],(Array.getElem?_eq_some_iff.1 e).1⟩
 have HK1:Hid (∀ w',Rp (w.heap.size+2) W1 w'→w'.heap[w.heap.size+1]?=some (.cells #[.string ⟨#[]⟩,.bool false,.slice none 0 0,.slice none 0 0,.slice none 0 0,.slice none 0 0] 67 (0,0))):=fun w' hr=>hr.block' (by omega) ((hb1.block _ (by omega)).trans k1)
 have HBW:Hid (∀ w',Rp (w.heap.size+2) W1 w'→Below w.heap.size w w'):=fun w' hr=>(hb0.trans (hb1.mono (by omega))).trans (hr.below (B:=w.heap.size) (by omega) (by omega))
 have HS0:Hid (W0.heap.size=w.heap.size+3):=hs0
 have HS1:Hid (W1.heap.size=w.heap.size+4):=hs1
 clear hV hs hb0 hb1 k0 k1 k2 ke hs0 hs1
 cases hR:rdR l with
 | some p=>
   rw [hR] at HRD
   have HAT:Hid (Calls Tryz.prog 124 #[.func (.func 121) #[] #[.pointer (some ⟨w.heap.size,0,none⟩),.pointer (some ⟨w.heap.size+2,0,none⟩)]] W0 fun r w'=>r=.returned (.int .i64 0)∧∃ w1,(Rp (w.heap.size+2) W1 w1∧∃ vm vs vg vw,w1.heap[w.heap.size+2]?=some (.cells #[.string p.frm,.bool p.whole,vm,vs,vg,vw] 67 (0,0))∧PkOwn (W1.heap.size+1) w1 p vm vs vg vw)∧W0.heap.size < w1.heap.size∧w'=w1.setCell ⟨W0.heap.size,0,none⟩ (.int .i64 0)):=
    attempt_ok _ _ W0 (fun w1=>Rp (w.heap.size+2) W1 w1∧∃ vm vs vg vw,w1.heap[w.heap.size+2]?=some (.cells #[.string p.frm,.bool p.whole,vm,vs,vg,vw] 67 (0,0))∧PkOwn (W1.heap.size+1) w1 p vm vs vg vw) ef (by
     rw [← hW1]
     refine HRD.out.mono ?_
     rintro e w' ⟨hr,⟨q,vm,vs,vg,vw,hq,rfl,h1,h2⟩ | ⟨hq,_⟩⟩
     ·simp only [Option.some.injEq] at hq
      subst hq
      exact ⟨rfl,⟨hr,vm,vs,vg,vw,h1,h2⟩,HE.out w' hr⟩
     ·cases hq)
   clear HRD hR hW1
   go_enter Tryz.func85,Tryz.ntmps85
   go_wp2_with fail
   rw [← hW0]
   clear hW0
   refine HAT.out.mono ?_
   rintro e w2 ⟨rfl,w1,⟨hr,vm,vs,vg,vw,h1,h2⟩,hlt,hw2⟩
   obtain ⟨a2,l2,c2,rfl⟩:=slice_of_row h2.ms
   obtain ⟨a3,l3,c3,rfl⟩:=slice_of_row h2.sv
   obtain ⟨a4,l4,c4,rfl⟩:=slice_of_row h2.gw
   obtain ⟨a5,l5,c5,rfl⟩:=slice_of_row h2.wh
   have hoth:∀ k,k≠W0.heap.size→w2.heap[k]?=w1.heap[k]?:=fun k hk=>by rw [hw2];exact Below.heap_setCell _ _ _ k hk
   have hk1:w2.heap[w.heap.size+1]?=some (.cells #[.string ⟨#[]⟩,.bool false,.slice none 0 0,.slice none 0 0,.slice none 0 0,.slice none 0 0] 67 (0,0)):=(hoth _ (by have:=HS0.out;omega)).trans (HK1.out w1 hr)
   have hk2:w2.heap[w.heap.size+2]?=some (.cells #[.string p.frm,.bool p.whole,.slice a2 l2 c2,.slice a3 l3 c3,.slice a4 l4 c4,.slice a5 l5 c5] 67 (0,0)):=(hoth _ (by have:=HS0.out;omega)).trans h1
   have ho2:PkOwn (W1.heap.size+1) w2 p (.slice a2 l2 c2) (.slice a3 l3 c3) (.slice a4 l4 c4) (.slice a5 l5 c5):=h2.keep (fun b hb _=>hoth b (by have:=HS0.out;have:=HS1.out;omega))
   have hbw:Below w.heap.size w w2:=by
    have h:=HBW.out w1 hr
    rw [hw2]
    exact h.setCell (p:=⟨W0.heap.size,0,none⟩) (by have:=HS0.out;show w.heap.size≤W0.heap.size;omega) _
   obtain ⟨w3,hw3⟩:∃ w3,w3=setAll (w.heap.size+1) [.string p.frm,.bool p.whole,.slice a2 l2 c2,.slice a3 l3 c3,.slice a4 l4 c4,.slice a5 l5 c5] 0 w2:=⟨_,rfl⟩
   have hk3:w3.heap[w.heap.size+1]?=some (.cells #[.string p.frm,.bool p.whole,.slice a2 l2 c2,.slice a3 l3 c3,.slice a4 l4 c4,.slice a5 l5 c5] 67 (0,0)):=by rw [hw3];exact setAll6 hk1 _ _ _ _ _ _
   have HO3:Hid (PkOwn w.heap.size w3 p (.slice a2 l2 c2) (.slice a3 l3 c3) (.slice a4 l4 c4) (.slice a5 l5 c5)):=(ho2.keep (fun b hb _=>by rw [hw3];exact setAll_other (by have:=HS1.out;omega) _ _ _)).mono (by have:=HS1.out;omega)
   have HB3:Hid (Below w.heap.size w w3):=by rw [hw3];exact setAll_below (by omega) _ _ hbw
   obtain ⟨b0,b1,b2,b3,b4,b5⟩:=cells6 hk1
   obtain ⟨z0,z1,z2,z3,z4,z5⟩:=free6 hk1
   obtain ⟨f0,f1,f2,f3,f4,f5⟩:=cells6 hk2
   obtain ⟨g0,g1,g2,g3,g4,g5⟩:=cells6 hk3
   have HRES:Hid (ReadSays w (some p) (.returned (.tuple #[.agg #[.string p.frm,.bool p.whole,.slice a2 l2 c2,.slice a3 l3 c3,.slice a4 l4 c4,.slice a5 l5 c5],.int .i64 0])) w3):=⟨HB3.out,.inl ⟨p,_,_,_,_,rfl,rfl,HO3.out⟩⟩
   generalize hpp:(some p:Option Pk)=op at *
   clear hpp HO3 HB3 HAT hk1 hk2 hk3 ho2 hbw hoth h1 h2 hr hlt hw2 HE HK1 HBW HS0 HS1
   obtain ⟨q0,q1,qm,qs,qg,qw⟩:=p
   simp only at f0 f1 g0 g1 HRES hw3
   clear qm qs qg qw
   go_wp2_with fail
   simp only [setAll,Nat.zero_add,Nat.reduceAdd] at hw3
   rw [← hw3]
   clear hw3 b0 b1 b2 b3 b4 b5 z0 z1 z2 z3 z4 z5 f0 f1 f2 f3 f4 f5
   exact bodyPost_ret (v:=.tuple #[.agg #[.string q0,.bool q1,.slice a2 l2 c2,.slice a3 l3 c3,.slice a4 l4 c4,.slice a5 l5 c5],.int .i64 0]) (by simp [results,Tryz.results85,go_sem,g0,g1,g2,g3,g4,g5]) rfl HRES.out
 | none=>
   rw [hR] at HRD
   have HAT:Hid (Calls Tryz.prog 124 #[.func (.func 121) #[] #[.pointer (some ⟨w.heap.size,0,none⟩),.pointer (some ⟨w.heap.size+2,0,none⟩)]] W0 fun r w'=>r=.returned (.int .i64 1)∧∃ w1,Rp (w.heap.size+2) W1 w1∧W0.heap.size < w1.heap.size∧Below W0.heap.size w1 w'):=
    attempt_no _ _ 1 W0 (fun w1=>Rp (w.heap.size+2) W1 w1) ef (by
     rw [← hW1]
     refine HRD.out.mono ?_
     rintro e w' ⟨hr,⟨q,vm,vs,vg,vw,hq,rfl,h1,h2⟩ | ⟨_,rfl⟩⟩
     ·cases hq
     ·exact ⟨rfl,hr,HE.out w' hr⟩)
   clear HRD hR hW1
   go_enter Tryz.func85,Tryz.ntmps85
   go_wp2_with fail
   rw [← hW0]
   clear hW0
   refine HAT.out.mono ?_
   rintro e w2 ⟨rfl,w1,hr,hlt,hb2⟩
   have hk1:w2.heap[w.heap.size+1]?=some (.cells #[.string ⟨#[]⟩,.bool false,.slice none 0 0,.slice none 0 0,.slice none 0 0,.slice none 0 0] 67 (0,0)):=(hb2.block _ (by have:=HS0.out;omega)).trans (HK1.out w1 hr)
   have hbw:Below w.heap.size w w2:=(HBW.out w1 hr).trans (hb2.mono (by have:=HS0.out;omega))
   obtain ⟨w3,hw3⟩:∃ w3,w3=setAll (w.heap.size+1) [.string ⟨#[]⟩,.bool false,.slice none 0 0,.slice none 0 0,.slice none 0 0,.slice none 0 0] 0 w2:=⟨_,rfl⟩
   have hk3:w3.heap[w.heap.size+1]?=some (.cells #[.string ⟨#[]⟩,.bool false,.slice none 0 0,.slice none 0 0,.slice none 0 0,.slice none 0 0] 67 (0,0)):=by rw [hw3];exact setAll6 hk1 _ _ _ _ _ _
   have HRES:Hid (ReadSays w none (.returned (.tuple #[.agg #[.string ⟨#[]⟩,.bool false,.slice none 0 0,.slice none 0 0,.slice none 0 0,.slice none 0 0],.int .i64 1])) w3):=⟨by rw [hw3];exact setAll_below (by omega) _ _ hbw,.inr ⟨rfl,rfl⟩⟩
   obtain ⟨b0,b1,b2,b3,b4,b5⟩:=cells6 hk1
   obtain ⟨z0,z1,z2,z3,z4,z5⟩:=free6 hk1
   obtain ⟨g0,g1,g2,g3,g4,g5⟩:=cells6 hk3
   generalize hpp:(none:Option Pk)=op at *
   clear hpp HAT hk1 hk3 hbw hr hlt hb2 HE HK1 HBW HS0 HS1
   go_wp2_with fail
   simp only [setAll,Nat.zero_add,Nat.reduceAdd] at hw3
   rw [← hw3]
   clear hw3 b0 b1 b2 b3 b4 b5 z0 z1 z2 z3 z4 z5
   exact bodyPost_ret (v:=.tuple #[.agg #[.string ⟨#[]⟩,.bool false,.slice none 0 0,.slice none 0 0,.slice none 0 0,.slice none 0 0],.int .i64 1]) (by simp [results,Tryz.results85,go_sem,g0,g1,g2,g3,g4,g5]) rfl HRES.out
theorem Tab.up {B C:Nat} {w:World} (h:Tab B w) (hC:B≤C):Tab C w:=fun w' hw=>h w' (hw.mono hC)
theorem Rv.up {B C:Nat} {w:World} (h:Rv B w) (hC:B≤C) (hl:C≤w.heap.size):Rv C w:=⟨h.tab.up hC,h.er,Nat.lt_of_lt_of_le h.b1 hC,Nat.lt_of_lt_of_le h.b2 hC,hl⟩
theorem Rv.after {w w':World} (h:Rv w.heap.size w) (hb:Below w.heap.size w w'):Rv w'.heap.size w':=(h.below hb).up hb.size (Nat.le_refl _)
end Go.Proofs.YtffdoiokmiklgaaGreatDoor
namespace Go.Proofs.YtffdoiokmiklgaaGreatDoor
open Go.RowKit Go.WideMaps Go.Maps
def nnames (ns:List Nd):List ByteArray:=ns.map (·.name)
theorem nnames_get (ns:List Nd) (k:Nat):(nnames ns).getD k ByteArray.empty=(ns.getD k ndZ).name:=by
 by_cases h:k < ns.length
 ·simp [nnames,List.getD,List.getElem?_eq_getElem h]
 ·simp [nnames,List.getD,List.getElem?_eq_none (by omega:ns.length≤k),ndZ];rfl
theorem ncnt_lt {D:DataW Unit} {ns:List Nd} (h:Cnt D (nnames ns) ns.length) (hd:¬ ApartN ns):Maps.size D < ns.length:=by
 rw [h.size]
 apply Dm_size_lt
 apply Classical.byContradiction
 intro hx
 apply hd
 intro i j hij hj e
 exact hx ⟨i,j,hij,hj,by rw [nnames_get,nnames_get];exact e⟩
theorem ncnt_eq {D:DataW Unit} {ns:List Nd} (h:Cnt D (nnames ns) ns.length) (hd:ApartN ns):Maps.size D=ns.length:=by
 rw [h.size]
 exact Dm_size_eq _ _ (fun i j hij hj=>by rw [nnames_get,nnames_get];exact hd i j hij hj)
set_option maxHeartbeats 12800000 in
set_option maxRecDepth 100000 in
theorem checkNodes_any (ns:List Nd) (g:Nat) (v:Value) (w:World) (hv:NSl w v ns) (hg:w.cell? ⟨g,0,none⟩=some v) (hn6:ns.length≤6) :
 Calls Tryz.prog 58 #[.pointer (some ⟨g,0,none⟩)] w fun e w'=>e=.returned (.int .i64 (chkN ns))∧Below w.heap.size w w':=by
 have hgl:g < w.heap.size:=World.block_lt_of_cell? w _ hg
 obtain ⟨pa,ca,rfl,ha⟩:=hv
 have HA:Hid (ns=[]∨∃ b off,pa=some ⟨b,off,none⟩∧b < w.heap.size∧NRow w b off ns):=ha
 clear ha
 generalize hN:ns.length=n at *
 have HN:Hid (ns.length=n):=hN
 clear hN
 have hmm:=run_makeMapHint
 go_enter Tryz.func58,Tryz.ntmps58
 go_wp2
 go_loopw [20] (fun i wr=>∃ k:Nat,k≤n∧i=.int .i64 k∧Hid (∀ j,j < k→(ns.getD j ndZ).e=0)∧Hid (∃ D,wr.ownsMap Tryz.prog 9 (plainElem (H:=Unit) Tryz.prog 3) w.heap.size k D∧Cnt D (nnames ns) k)∧Hid (Below w.heap.size w wr)) (fun i _=>n - (intOf i).toNat)
 case atStart=>exact ⟨0,Nat.zero_le _,rfl,fun j hj=>by omega,⟨_,World.ownsMap_made _ _ _ _,cnt_zero _⟩,(Below.refl _ _).alloc (Nat.le_refl _) _⟩
 case round=>
  obtain ⟨k,hk,rfl,HZ,HD,HB⟩:=hrel
  obtain ⟨D,HO,HC⟩:=HD.out
  have HO:Hid (wr.ownsMap Tryz.prog 9 (plainElem (H:=Unit) Tryz.prog 3) w.heap.size k D):=HO
  have HC:Hid (Cnt D (nnames ns) k):=HC
  clear HD
  have hgr:wr.cell? ⟨g,0,none⟩=some (.slice pa n ca):=(HB.out.cell (p:=⟨g,0,none⟩) hgl).trans hg
  by_cases hlt:k < n
  ·obtain ⟨b,off,hp,hl,hr⟩:∃ b off,pa=some ⟨b,off,none⟩∧b < w.heap.size∧NRow w b off ns:=by
    rcases HA.out with h | h
    ·have:=HN.out;rw [h] at this;simp at this;omega
    ·exact h
   subst hp
   obtain ⟨vm,vr,vs,vg,vw,hnd,c0,c1,c2,c3,c4,c5,c6,c7,c8,c9,c10,c11⟩:=(hr.below HB.out hl).at (by rw [HN.out];exact hlt)
   have HX:Hid ((ns.getD k ndZ).e≠0→chkN ns=(ns.getD k ndZ).e):=fun h=>chkN_e (by rw [HN.out];exact hlt) HZ.out h
   have HZ2:Hid ((ns.getD k ndZ).e=0→∀ j,j < k+1→(ns.getD j ndZ).e=0):=fun h j hj=>by
    by_cases e:j=k
    ·subst e;exact h
    ·exact HZ.out j (by omega)
   have HG:Hid (∀ (c:Int),D.atKey (kS (ns.getD k ndZ).name) (.lit (.int .i64 0))=.lit (.int .i64 c)→0≤c∧c≤k∧Cnt (D.put (kS (ns.getD k ndZ).name) (.lit (.int .i64 (c+1)))) (nnames ns) (k+1)):=fun c hc=>by
    have h:=cnt_step HC.out (c:=c) (by rw [nnames_get];exact hc)
    rw [nnames_get] at h;exact h
   have hsz:=HB.out.size
   generalize (ns.getD k ndZ)=nk at *
   have hnm:=hnd.name
   have HCK:Hid (∀ W,Below wr.heap.size wr W→Calls Tryz.prog 60 #[.agg (ndA nk vm vr vs vg vw)] W fun e w'=>e=.returned (.int .i64 nk.e)∧Below W.heap.size W w'):=fun W hW=>ncheck_any nk vm vr vs vg vw W (hnd.below hW)
   obtain ⟨⟨am,cm,hvm,_,_⟩,⟨ar,cr,hvr,_,_⟩,⟨ax,cx,hvs,_,_⟩,⟨ag,cg,hvg,_,_⟩,⟨aw,cw,hvw,_,_⟩,_,_⟩:=hnd
   subst hvm hvr hvs hvg hvw
   generalize hne:nk.e=ne at *
   clear hne
   obtain ⟨nm,ct,ms,rs,sv,gw,⟨px,py,pz,ph,pq⟩,wh⟩:=nk
   simp only [ndA] at c0 c1 c2 c3 c4 c5 c6 c7 c8 c9 c10 c11 hnm HG HCK
   have hkey:keyOf Tryz.prog 9 (.string nm)=some (kS nm):=keyOf_string_mk Tryz.underlying9 hnm
   generalize ms.length=nms at *
   generalize rs.length=nrs at *
   generalize sv.length=nsv at *
   generalize gw.length=ngw at *
   generalize wh.length=nwh at *
   clear hr HZ
   have hkn:(k:Int) < n:=by omega
   obtain ⟨W1,hW1⟩:∃ W1,W1=wr.alloc (.cells #[.string nm,.string ct,.slice am nms cm,.slice ar nrs cr,.slice ax nsv cx,.slice ag ngw cg,.int .i64 px,.int .i64 py,.int .i64 pz,.int .i64 ph,.int .i64 pq,.slice aw nwh cw] 51):=⟨_,rfl⟩
   have hb1:Below wr.heap.size wr W1:=by rw [hW1];exact (Below.refl _ _).alloc (Nat.le_refl _) _
   have HX1:Hid (W1.heap[wr.heap.size]?=some (.cells #[.string nm,.string ct,.slice am nms cm,.slice ar nrs cr,.slice ax nsv cx,.slice ag ngw cg,.int .i64 px,.int .i64 py,.int .i64 pz,.int .i64 ph,.int .i64 pq,.slice aw nwh cw] 51 (0,0))):=by rw [hW1];exact heap_alloc_new wr _
   have HB1:Hid (Below wr.heap.size wr W1):=hb1
   clear hb1
   go_upto_region 5 with fail
   rw [← hW1]
   clear hW1 c0 c1 c2 c3 c4 c5 c6 c7 c8 c9 c10 c11
   obtain ⟨d0,d1,d2,d3,d4,d5,d6,d7,d8,d9,d10,d11⟩:=cells12 HX1.out
   go_wp2_with fail
   refine (HCK.out W1 HB1.out).mono ?_
   rintro e w1 ⟨rfl,hb1⟩
   have hb01:Below wr.heap.size wr w1:=HB1.out.trans (hb1.mono HB1.out.size)
   have HO1:Hid (w1.ownsMap Tryz.prog 9 (plainElem (H:=Unit) Tryz.prog 3) w.heap.size k D):=cmap_below HO.out hb01
   have HB1w:Hid (Below w.heap.size w w1):=HB.out.trans (hb01.mono hsz)
   have hm0:w1.cell? ⟨wr.heap.size,0,none⟩=some (.string nm):=cellsAt ((hb1.block _ (Array.getElem?_eq_some_iff.1 HX1.out).1).trans HX1.out) 0
   clear hb1 hb01 d0 d1 d2 d3 d4 d5 d6 d7 d8 d9 d10 d11 HB HO HCK HX1 HB1 hgr
   by_cases he:ne=0
   ·have he':(ne != 0)=false:=by simpa using he
    have HZ3:Hid (∀ j,j < k+1→(ns.getD j ndZ).e=0):=HZ2.out he
    clear HX HZ2 he
    obtain ⟨c,hrun,hat,_⟩:=HO1.out.lookup_int law9 Tryz.underlying131 Tryz.underlying3 (zero3' _) hkey
    obtain ⟨g0,g1,g2⟩:=HG.out c hat
    have HG2:Hid (Cnt (D.put (kS nm) (.lit (.int .i64 (c+1)))) (nnames ns) (k+1)):=g2
    clear g2 hat HG
    go_wp2_with (first
     | (at_mapUpdate;refine wpList_mapUpdate_own _ rfl _ _ _ 131 rfl 9 3 law9 Tryz.underlying131 _ w.heap.size k _ rfl HO1.out (by unfold maxLen;omega) _ _ _ rfl rfl hkey _ [] (plainElem_int Tryz.underlying3 (WalkArith.wf_i64 (by omega))) ?_)
     | fail)
    intro w2 hown2 hgrow2
    have R1:Hid (∃ D,w2.ownsMap Tryz.prog 9 (plainElem (H:=Unit) Tryz.prog 3) w.heap.size (k+1) D∧Cnt D (nnames ns) (k+1)):=⟨_,hown2,HG2.out⟩
    have R2:Hid (Below w.heap.size w w2):=HB1w.out.grown hgrow2 HB1w.out.size (fun j hj=>by cases hj;exact Nat.le_refl _)
    clear hown2 hgrow2 HO1 HB1w
    go_wp2_with fail
    go_roundw
    case rel=>exact ⟨k+1,by omega,by go_num,HZ3,R1,R2⟩
    case measure=>simp [intOf];omega
   ·have he':(ne != 0)=true:=by simpa using he
    have HR:Hid (chkN ns=ne):=HX.out he
    clear he HX HZ2
    go_wp2_with fail
    go_ret
    exact ⟨ret_int HR.out.symm,HB1w.out⟩
  ·have hkn:k=n:=by omega
   subst hkn
   have hsize:Hid (Maps.size D < k↔¬ ApartN ns):=by
    have h1:=HC.out
    rw [← HN.out] at h1 ⊢
    exact ⟨fun h hd=>by rw [ncnt_eq h1 hd] at h;omega,fun hd=>ncnt_lt h1 hd⟩
   have HE1:Hid (¬ ApartN ns→chkN ns=6):=fun hd=>chkN_twice (fun j hj=>HZ.out j (by rw [← HN.out];exact hj)) hd
   have HE2:Hid (ApartN ns→chkN ns=0):=fun hd=>chkN_ok (fun j hj=>HZ.out j (by rw [← HN.out];exact hj)) hd
   by_cases hd:ApartN ns
   ·have HE:Hid (chkN ns=0):=HE2.out hd
    have hs:decide (Maps.size D < k)=false:=decide_eq_false (fun h=>(hsize.out.1 h) hd)
    have hs2:¬ Maps.size D < k:=fun h=>(hsize.out.1 h) hd
    have hln:∀ q,(Builtin.len_ #[131] 3 #[.map (some w.heap.size)]).run Tryz.prog (wr.drewN q)=.ok (.int .i64 (Maps.size D)) (wr.drewN q):=fun q=>World.ownsMap.len (w:=wr.drewN q) HO.out Tryz.underlying131 3
    clear HE1 HE2 hd hsize HZ
    go_wp2_with fail
    go_quiet (fail)
    go_wp2_with fail
    go_ret
    exact ⟨ret_int HE.out.symm,below_drewN HB.out _⟩
   ·have HE:Hid (chkN ns=6):=HE1.out hd
    have hs:decide (Maps.size D < k)=true:=decide_eq_true (hsize.out.2 hd)
    have hs2:Maps.size D < k:=hsize.out.2 hd
    have hln:∀ q,(Builtin.len_ #[131] 3 #[.map (some w.heap.size)]).run Tryz.prog (wr.drewN q)=.ok (.int .i64 (Maps.size D)) (wr.drewN q):=fun q=>World.ownsMap.len (w:=wr.drewN q) HO.out Tryz.underlying131 3
    clear HE1 HE2 hd hsize HZ
    go_wp2_with fail
    go_quiet (fail)
    go_wp2_with fail
    go_ret
    exact ⟨ret_int HE.out.symm,below_drewN HB.out _⟩
set_option maxHeartbeats 3200000 in
set_option maxRecDepth 100000 in
theorem isNode_any (g n:Nat) (a:Option Addr) (cap:Nat) (x:Int) (w:World) (hg:w.cell? ⟨g,0,none⟩=some (.slice a n cap)) (hn:n≤6) :
 Calls Tryz.prog 84 #[.pointer (some ⟨g,0,none⟩),.int .i64 x] w fun e w'=>e=.returned (.bool (within x 0 ((n:Int) - 1)))∧Below w.heap.size w w':=by
 have h1:IntKind.i64.wrap ((n:Int) - 1)=(n:Int) - 1:=by rw [IntKind.wrap_i64];omega
 go_enter Tryz.func84,Tryz.ntmps84
 go_wp2_with (go_at_call 76;refine (within_any _ _ _ _).mono ?_;rintro e w' ⟨rfl,rfl⟩)
 go_ret
 exact ⟨rfl,Below.refl _ _⟩
set_option maxHeartbeats 12800000 in
set_option maxRecDepth 100000 in
theorem checkLetters_any (ls:List Lt.Ltr) (n g:Nat) (a:Option Addr) (cap:Nat) (v:Value) (w:World) (hV:Rv w.heap.size w) (hv:Lt.Sl w v ls) (hg:w.cell? ⟨g,0,none⟩=some (.slice a n cap)) (hg1:w.cell? ⟨g,1,none⟩=some v) (hn6:n≤6) (hl20:ls.length≤20) (hts:∀ l∈ls,l.text.size≤16777216) :
 Calls Tryz.prog 59 #[.pointer (some ⟨g,0,none⟩)] w fun e w'=>e=.returned (.int .i64 (fstE (ltE n) ls))∧Below w.heap.size w w':=by
 have hgl:g < w.heap.size:=World.block_lt_of_cell? w _ hg
 obtain ⟨pa,ca,rfl,_,ha⟩:=hv
 have HA:Hid (ls=[]∨∃ b off,pa=some ⟨b,off,none⟩∧b < w.heap.size∧Lt.Row w b off ls):=ha
 have HTS:Hid (∀ l∈ls,l.text.size≤16777216):=hts
 have HV:Hid (Rv w.heap.size w):=hV
 clear ha hts hV
 generalize hN:ls.length=m at *
 have HN:Hid (ls.length=m):=hN
 clear hN
 go_enter Tryz.func59,Tryz.ntmps59
 go_wp2_with fail
 go_loopw [13] (fun i wr=>∃ k:Nat,k≤m∧i=.int .i64 k∧Hid (∀ j,j < k→ltE n (ls.getD j Lt.dm)=0)∧Hid (Below w.heap.size w wr)) (fun i _=>m - (intOf i).toNat)
 case atStart=>exact ⟨0,Nat.zero_le _,rfl,fun j hj=>by omega,Below.refl _ _⟩
 case round=>
  obtain ⟨k,hk,rfl,HZ,HB⟩:=hrel
  have hsz:=HB.out.size
  by_cases hlt:k < m
  ·obtain ⟨b,off,hp,hl,hr⟩:∃ b off,pa=some ⟨b,off,none⟩∧b < w.heap.size∧Lt.Row w b off ls:=by
    rcases HA.out with h | h
    ·have:=HN.out;rw [h] at this;simp at this;omega
    ·exact h
   subst hp
   obtain ⟨c0,c1⟩:=(hr.later HB.out hl) k (by rw [HN.out];exact hlt)
   have HX:Hid (ltE n (ls.getD k Lt.dm)≠0→fstE (ltE n) ls=ltE n (ls.getD k Lt.dm)):=fun h=>fstE_at _ Lt.dm ls k (by rw [HN.out];exact hlt) HZ.out h
   have HZ2:Hid (ltE n (ls.getD k Lt.dm)=0→∀ j,j < k+1→ltE n (ls.getD j Lt.dm)=0):=fun h j hj=>by
    by_cases e:j=k
    ·subst e;exact h
    ·exact HZ.out j (by omega)
   have hkt:(ls.getD k Lt.dm).text.size≤16777216:=by
    have hk':k < ls.length:=by rw [HN.out];exact hlt
    apply HTS.out
    rw [List.getD,List.getElem?_eq_getElem hk']
    exact List.getElem_mem hk'
   generalize ls.getD k Lt.dm=lk at *
   obtain ⟨to,tx⟩:=lk
   simp only at c0 c1 hkt
   have HLE:Hid (ltE n ⟨to,tx⟩=if within to 0 ((n:Int) - 1)=true then (if (rdR tx.data.toList).isSome=true then 0 else 1) else 3):=rfl
   generalize ltE n ⟨to,tx⟩=le at *
   obtain ⟨W1,hW1⟩:∃ W1,W1=wr.alloc (.cells #[.int .i64 to,.string tx] 65):=⟨_,rfl⟩
   have hb1:Below wr.heap.size wr W1:=by rw [hW1];exact (Below.refl _ _).alloc (Nat.le_refl _) _
   have HB1:Hid (Below w.heap.size w W1):=HB.out.trans (hb1.mono hsz)
   have HX1:Hid (W1.heap[wr.heap.size]?=some (.cells #[.int .i64 to,.string tx] 65 (0,0))):=by rw [hW1];exact heap_alloc_new wr _
   have HIS:Hid (Calls Tryz.prog 84 #[.pointer (some ⟨g,0,none⟩),.int .i64 to] W1 fun e w'=>e=.returned (.bool (within to 0 ((n:Int) - 1)))∧Below W1.heap.size W1 w'):=isNode_any g n a cap to W1 ((HB1.out.cell (p:=⟨g,0,none⟩) hgl).trans hg) hn6
   have HRD:Hid (∀ W,Below W1.heap.size W1 W→Calls Tryz.prog 85 #[.string tx] W (ReadSays W (rdR tx.data.toList))):=fun W hW=>pread_b (l:=tx.data.toList) ((HV.out.after HB1.out).after hW) hkt
   have d0:W1.cell? ⟨wr.heap.size,0,none⟩=some (.int .i64 to):=cellsAt HX1.out 0
   have d1:W1.cell? ⟨wr.heap.size,1,none⟩=some (.string tx):=cellsAt HX1.out 1
   generalize within to 0 ((n:Int) - 1)=wi at *
   generalize rdR tx.data.toList=ro at *
   clear hr HZ hb1
   go_upto_region 4 with fail
   rw [← hW1]
   clear hW1 c0 c1
   go_wp2_with fail
   refine HIS.out.mono ?_
   rintro e w2 ⟨rfl,hb2⟩
   have HB2:Hid (Below W1.heap.size W1 w2):=hb2
   have d2:w2.cell? ⟨wr.heap.size,1,none⟩=some (.string tx):=(hb2.cell (p:=⟨wr.heap.size,1,none⟩) (Array.getElem?_eq_some_iff.1 HX1.out).1).trans d1
   clear hb2 HIS d0 d1
   cases wi with
   | false=>
     have hle:le=3:=HLE.out.trans (if_neg (by simp))
     subst hle
     have HE:Hid (fstE (ltE n) ls=3):=HX.out (by omega)
     clear HX HZ2 HLE
     go_wp2_with fail
     go_ret
     exact ⟨ret_int HE.out.symm,HB1.out.trans (HB2.out.mono HB1.out.size)⟩
   | true=>
     have HLE2:Hid (le=if ro.isSome=true then 0 else 1):=HLE.out.trans (if_pos rfl)
     clear HLE
     go_wp2_with fail
     refine (HRD.out w2 HB2.out).mono ?_
     rintro e w3 ⟨hb3,⟨q,ym,ys,yg,yw,hq,rfl,ho⟩ | ⟨hq,rfl⟩⟩
     ·have hle:le=0:=by rw [HLE2.out,hq];rfl
      subst hle
      obtain ⟨a2,l2,c2,rfl⟩:=slice_of_row ho.ms
      obtain ⟨a3,l3,c3,rfl⟩:=slice_of_row ho.sv
      obtain ⟨a4,l4,c4,rfl⟩:=slice_of_row ho.gw
      obtain ⟨a5,l5,c5,rfl⟩:=slice_of_row ho.wh
      have HZ3:Hid (∀ j,j < k+1→ltE n (ls.getD j Lt.dm)=0):=HZ2.out rfl
      have HB3:Hid (Below w.heap.size w w3):=HB1.out.trans ((HB2.out.trans (hb3.mono HB2.out.size)).mono HB1.out.size)
      have HS3:Hid (w.heap.size≤w3.heap.size):=HB3.out.size
      clear HX HZ2 HLE2 hb3 hq ho HRD
      go_wp2_with fail
      go_roundw
      case rel=>exact ⟨k+1,by omega,by go_num,HZ3,HB3.out.alloc HS3.out _⟩
      case measure=>simp [intOf];omega
     ·have hle:le=1:=by rw [HLE2.out,hq];rfl
      subst hle
      have HE:Hid (fstE (ltE n) ls=1):=HX.out (by omega)
      have HB3:Hid (Below w.heap.size w w3):=HB1.out.trans ((HB2.out.trans (hb3.mono HB2.out.size)).mono HB1.out.size)
      have HS3:Hid (w.heap.size≤w3.heap.size):=HB3.out.size
      clear HX HZ2 HLE2 hb3 hq HRD
      go_wp2_with fail
      go_ret
      exact ⟨ret_int HE.out.symm,HB3.out.alloc HS3.out _⟩
  ·have HE:Hid (fstE (ltE n) ls=0):=fstE_zero _ Lt.dm ls (fun j hj=>HZ.out j (by have:=HN.out;omega))
   have hd:decide ((k:Int) < (m:Int))=false:=by simp;omega
   clear HZ
   go_wp2_with fail
   go_ret
   exact ⟨ret_int HE.out.symm,HB.out⟩
end Go.Proofs.YtffdoiokmiklgaaGreatDoor
namespace Go.Proofs.YtffdoiokmiklgaaGreatDoor
namespace Lt
open Go.RowKit
set_option maxHeartbeats 800000 in
theorem clone_any (ms:List Ltr) (v:Value) (w:World) (h:Sl w v ms) (hn:ms.length≤1000) :
 Calls Tryz.prog 37 #[v] w fun e w'=>∃ v',e=.returned v'∧Own w.heap.size w' v' ms∧Below w.heap.size w w':=by
 obtain ⟨a,cap,rfl,hs,h⟩:=h
 obtain ⟨i0,hi0,hz0,hzs,hzb⟩:=info_parts Tryz.info65
 cases a with
 | none=>
   have he:ms=[]:=by
    rcases h with h | ⟨b,off,h,_⟩
    ·exact h
    ·cases h
   subst he
   clear h hs
   have hnil:=fun (w:World)=>Lib.run_eql_slice_nil (P:=Tryz.prog) w 23 65 none 0 cap 0 0 Tryz.underlying23
   simp only [List.length_nil,Option.isNone_none] at hnil ⊢
   go_enter Tryz.func37,Tryz.ntmps37
   go_wp2_with fail
   go_ret
   exact ⟨_,rfl,own_nil _ _,Below.refl _ _⟩
 | some a=>
   have hnil:=fun (w:World)=>Lib.run_eql_slice_nil (P:=Tryz.prog) w 23 65 (some a) ms.length cap 0 0 Tryz.underlying23
   simp only [Option.isNone_some] at hnil
   have hnews:Hid (∀ j u,(fl ms)[j]?=some u→(w.alloc (.cells #[] 65)).cell? (a.add j)=some u):=by
    intro j u hj
    rcases h with h | ⟨b,off,h,hb,hr⟩
    ·subst h;simp [fl] at hj
    ·cases h
     have hjl:j < ms.length * 2:=by rw [← fl_len];exact (List.getElem?_eq_some_iff.1 hj).1
     have h1:=fl_get ms (j / 2) (by omega) (j%2) (by omega)
     rw [show j / 2 * 2+j%2=j by omega,hj] at h1
     rw [Addr.add_lit,World.cell?_alloc_past (w:=w) _ b _ hb]
     obtain ⟨c0,c1⟩:=hr (j / 2) (by omega)
     have hcs:j%2=0∨j%2=1:=by omega
     rcases hcs with e | e
     ·rw [show off+j=off+j / 2 * 2 by omega,c0];rw [e] at h1;simpa [Ltr.cs] using h1.symm
     ·rw [show off+j=off+j / 2 * 2+1 by omega,c1];rw [e] at h1;simpa [Ltr.cs] using h1.symm
   have HO:Hid ((w.alloc (.cells #[] 65)).ownsRow w.heap.size 65 2 (.slice (some ⟨w.heap.size,0,none⟩) 0 0) 0 []):=World.ownsRow_made w #[] 0 (Nat.le_refl _) (by unfold maxLen;omega) rfl
   clear h hs
   go_enter Tryz.func37,Tryz.ntmps37
   go_wp2_with (at_builtin;refine wpList_append_own _ rfl _ _ 23 rfl w.heap.size 65 i0 _ 2 24 Tryz.underlying23 hi0 hz0 hzs hzb rfl (by omega) _ 0 [] rfl HO.out a ms.length cap (fl ms) rfl (fl_len ms) hnews.out (fl_one ms) (by unfold maxLen;omega) (by omega) (by simp) ?_)
   intro v' w' r1 r2 r3
   go_wp2_with fail
   go_ret
   refine ⟨v',rfl,?_,?_⟩
   ·simpa using r1
   ·exact ((Below.refl _ _).alloc (Nat.le_refl _) _).grown r2 (by simp) (fun k hk=>by simp [Value.ownBlock] at hk;omega)
end Lt
end Go.Proofs.YtffdoiokmiklgaaGreatDoor
namespace Go.Proofs.YtffdoiokmiklgaaGreatDoor
open Go.RowKit
theorem Tryz.infoLt:(Tryz.prog.info? 65).map (fun i=>(i.zero,i.size,i.bytes))=some (some (.agg #[.int .i64 0,.string ⟨#[]⟩]),2,24):=by kernel_rfl
def zLt:List Value:=[.int .i64 0,.string ⟨#[]⟩]
theorem setCells_other {g k:Nat} (hk:k≠g):∀ (vs:List Value) (o:Nat) (w:World),(w.setCells g o vs).heap[k]?=w.heap[k]?
 | [],_,_=>rfl
 | v :: r,o,w=>(setCells_other hk r (o+1) _).trans (Below.heap_setCell w ⟨g,o,none⟩ v k hk)
theorem eraseL_cells {rs:List Lt.Ltr} {p n:Nat} (hn:rs.length=n) (hp:p < n):(wrs (wrs (Lt.fl rs) (p * 2) (Lt.fl (rs.drop (p+1)))) ((n - 1) * 2) zLt).take ((n - 1) * 2)=Lt.fl (rs.eraseIdx p):=by
 have hl:(Lt.fl rs).length=n * 2:=by rw [Lt.fl_len,hn]
 have hd:(Lt.fl (rs.drop (p+1))).length=(n - (p+1)) * 2:=by rw [Lt.fl_len,List.length_drop,hn]
 refine take_eq_of (by rw [wrs_len,wrs_len,hl];omega) (by rw [Lt.fl_len,List.length_eraseIdx,if_pos (by omega),hn]) (fun j hj=>?_)
 rw [wrs_out _ _ _ _ (by omega),List.eraseIdx_eq_take_drop_succ,Lt.fl_append]
 have ht:(Lt.fl (rs.take p)).length=p * 2:=by rw [Lt.fl_len,List.length_take,hn];omega
 by_cases hjp:j < p * 2
 ·rw [wrs_out _ _ _ _ (by omega),List.getElem?_append_left (by omega),← Lt.fl_take,List.getElem?_take_of_lt hjp]
 ·rw [List.getElem?_append_right (by omega),ht]
  have:=wrs_in (Lt.fl (rs.drop (p+1))) (Lt.fl rs) (p * 2) (j - p * 2) (by rw [hd];omega) (by rw [hd,hl];omega)
  rw [show p * 2+(j - p * 2)=j by omega] at this
  exact this
theorem run_clearL (w:World) (ty:TypeId) (b o c:Nat) (hc:∀ j,j < 2→(w.cell? ⟨b,o+j,none⟩).isSome=true) (hf:∀ j,j < 2→w.frozen? ⟨b,o+j,none⟩=false) :
 (Builtin.clear_ #[23] ty #[.slice (some ⟨b,o,none⟩) 1 c]).run Tryz.prog w=.ok (.tuple #[]) (w.setCells b o zLt):=by
 have hzc:(Builtin.zeroCells (Value.agg #[.int .i64 0,.string ⟨#[]⟩]).cells 1).toList=zLt:=by kernel_rfl
 have hst:=run_storeCells_cells (P:=Tryz.prog) b o zLt 0 w (fun j hj=>by simpa using hc j (by simpa [zLt] using hj)) (fun j hj=>by simpa using hf j (by simpa [zLt] using hj)) (by intro v hv;simp [zLt] at hv;rcases hv with rfl | rfl<;>rfl)
 simp only [Nat.add_zero] at hst
 simp [Builtin.clear_,run_underlying Tryz.underlying23,hzc,hst]
set_option maxHeartbeats 3200000 in
set_option maxRecDepth 1000000 in
theorem deleteL_any (rs:List Lt.Ltr) (n p g c base:Nat) (w:World) (hn:rs.length=n) (ho:Lt.Own base w (.slice (some ⟨g,0,none⟩) n c) rs) (hp:p < n) (hsm:n≤1000) :
 Calls Tryz.prog 151 #[.slice (some ⟨g,0,none⟩) n c,.int .i64 p,.int .i64 (p+1)] w fun e w'=>e=.returned (.slice (some ⟨g,0,none⟩) (n - 1) c)∧Lt.Own base w' (.slice (some ⟨g,0,none⟩) (n - 1) c) (rs.eraseIdx p)∧Below base w w'∧∀ k,k≠g→w'.heap[k]?=w.heap[k]?:=by
 obtain ⟨i0,hi0,hz0,hz1,hz2⟩:=info_parts Tryz.infoLt
 have HO:Hid (w.ownsRow base 65 2 (.slice (some ⟨g,0,none⟩) n c) n (Lt.fl rs)):=by rw [← hn];rw [← hn] at ho;exact ho
 obtain ⟨hgl,hnc,hcm⟩:base≤g∧n≤c∧c≤maxLen:=by
  rcases HO.out.2 with ⟨hv,_⟩ | ⟨g',c',cur,hv,hbg,hg,hnc,hcm,hcs,htake⟩
  ·cases hv
  ·simp only [Value.slice.injEq,Option.some.injEq,Addr.mk.injEq,and_true,true_and] at hv
   obtain ⟨rfl,rfl⟩:=hv
   exact ⟨hbg,hnc,hcm⟩
 unfold maxLen at hcm
 have hp0:(0:Int)≤(p:Int)+1:=by omega
 have hp1:(p:Int)+1≤(n:Int):=by omega
 have hp2:((p:Int)+1).toNat=p+1:=by omega
 have hic:p≤c:=by omega
 have hcell:∀ k,k < n * 2→w.cell? ⟨g,k,none⟩=(Lt.fl rs)[k]?:=fun k hk=>by
  rcases HO.out.2 with ⟨hv,_⟩ | ⟨g',c',cur,hv,hbg,hg,_,_,hcs,htake⟩
  ·cases hv
  ·simp only [Value.slice.injEq,Option.some.injEq,Addr.mk.injEq,and_true,true_and] at hv
   obtain ⟨rfl,rfl⟩:=hv
   rw [cellsAt hg,← htake,List.getElem?_take_of_lt hk,Array.getElem?_toList]
 have hfl:(Lt.fl rs).length=n * 2:=by rw [Lt.fl_len,hn]
 have S1:Hid ((Lt.fl (rs.drop (p+1))).length=(n - (p+1)) * 2):=(show (Lt.fl (rs.drop (p+1))).length=_ by rw [Lt.fl_len,List.length_drop,hn])
 obtain ⟨A,hA,hnews⟩:∃ A:Addr,(if c=p+1 then some (⟨g,0,none⟩:Addr) else some ⟨g,(p+1) * 2,none⟩)=some A∧Hid (∀ j u,(Lt.fl (rs.drop (p+1)))[j]?=some u→w.drew.cell? (A.add j)=some u):=by
  by_cases h:c=p+1
  ·refine ⟨_,if_pos h,fun j u hj=>?_⟩
   have:j < (Lt.fl (rs.drop (p+1))).length:=(List.getElem?_eq_some_iff.1 hj).1
   rw [S1.out] at this
   omega
  ·refine ⟨_,if_neg h,fun j u hj=>?_⟩
   have hj1:j < (Lt.fl (rs.drop (p+1))).length:=(List.getElem?_eq_some_iff.1 hj).1
   rw [S1.out] at hj1
   rw [Addr.add_lit]
   show w.cell? _=_
   rw [hcell _ (by omega),← hj,← Lt.fl_drop,List.getElem?_drop]
 have S2:Hid (∀ u∈Lt.fl (rs.drop (p+1)),u.oneCell'=true):=Lt.fl_one _
 have S3:Hid (∀ j,j < (Lt.fl (rs.drop (p+1))).length→(w.drew.cell? ⟨g,0+p * 2+j,none⟩).isSome=true∧w.drew.frozen? ⟨g,0+p * 2+j,none⟩=false):=fun j hj=>by
  rw [S1.out] at hj
  refine ⟨?_,World.ownsRow.frozenAt HO.out _⟩
  show (w.cell? _).isSome=true
  rw [hcell _ (by omega),List.getElem?_eq_getElem (by omega)]
  rfl
 have HD:Hid ((w.drew.setCells g (p * 2) (Lt.fl (rs.drop (p+1)))).ownsRow base 65 2 (.slice (some ⟨g,0,none⟩) n c) n (wrs (Lt.fl rs) (p * 2) (Lt.fl (rs.drop (p+1))))):=stored_all _ _ _ _ (show w.drew.ownsRow base 65 2 (.slice (some ⟨g,0,none⟩) n c) n (Lt.fl rs) from HO.out)
 have hclear:∀ ty,(Builtin.clear_ #[23] ty #[.slice (some ⟨g,(p+(n - (p+1))) * 2,none⟩) (n - (p+(n - (p+1)))) (c - (p+(n - (p+1))))]).run Tryz.prog (w.drew.setCells g (p * 2) (Lt.fl (rs.drop (p+1))))=.ok (.tuple #[]) ((w.drew.setCells g (p * 2) (Lt.fl (rs.drop (p+1)))).setCells g ((n - 1) * 2) zLt):=fun ty=>by
  rw [show p+(n - (p+1))=n - 1 by omega,show n - (n - 1)=1 by omega]
  exact run_clearL _ ty g _ _ (fun j hj=>by rw [World.ownsRow.cellAt HD.out _ (by omega),List.getElem?_eq_getElem (by rw [wrs_len,hfl];omega)];rfl) (fun j _=>World.ownsRow.frozenAt HD.out _)
 have HF:Hid (((w.drew.setCells g (p * 2) (Lt.fl (rs.drop (p+1)))).setCells g ((n - 1) * 2) zLt).ownsRow base 65 2 (.slice (some ⟨g,0,none⟩) (n - 1) c) (n - 1) (Lt.fl (rs.eraseIdx p))):=by
  have h:=owns_shrink (m:=n - 1) (stored_all zLt _ ((n - 1) * 2) _ HD.out) (by omega)
  rw [eraseL_cells hn hp] at h
  exact h
 have HL:Hid ((rs.eraseIdx p).length=n - 1):=(show (rs.eraseIdx p).length=n - 1 by rw [List.length_eraseIdx,if_pos (by omega),hn])
 have HBL:Hid (Below base w ((w.drew.setCells g (p * 2) (Lt.fl (rs.drop (p+1)))).setCells g ((n - 1) * 2) zLt)):=below_setCells hgl _ _ _ _ (below_setCells hgl _ _ _ _ (Below.refl _ _).drew)
 have HOT:Hid (∀ k,k≠g→((w.drew.setCells g (p * 2) (Lt.fl (rs.drop (p+1)))).setCells g ((n - 1) * 2) zLt).heap[k]?=w.heap[k]?):=fun k hk=>(setCells_other hk _ _ _).trans (setCells_other hk _ _ _)
 have HPN:Hid (p+(n - (p+1))=n - 1):=(show p+(n - (p+1))=n - 1 by omega)
 clear ho hcell
 go_enter Tryz.func151,Tryz.ntmps151
 go_wp2_with fail
 go_region_law (refine step_append_room rfl (.tmp 22) (.tmp 25) 23 rfl 65 i0 2 Tryz.underlying23 hi0 hz1 g 0 p c (by simp [Act.eval,Act.put]) A (n - (p+1)) (c - (p+1)) (Lt.fl (rs.drop (p+1))) (by simp [Act.eval,Act.put]) S1.out hnews.out S2.out (by omega) S3.out ?_)
 go_wp2_with fail
 go_ret
 refine ⟨?_,?_,HBL.out,HOT.out⟩
 ·have hpn:=HPN.out
  simp only [hpn]
  rfl
 ·show World.ownsRow _ _ _ _ _ (rs.eraseIdx p).length _
  rw [HL.out]
  exact HF.out
end Go.Proofs.YtffdoiokmiklgaaGreatDoor
