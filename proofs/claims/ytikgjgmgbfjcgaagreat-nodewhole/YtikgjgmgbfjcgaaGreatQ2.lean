import Derived.Test.YtikgjgmgbfjcgaaGreatQ1
import Derived.Laws.StructEq
import Derived.Deep.Slices
import Derived.Lib.SmallJoins
import Derived.ProofKit
import Derived.OpenShut
import Derived.Handed
namespace Go.Proofs.YtikgjgmgbfjcgaaGreat
namespace Wh
open Go.RowKit
structure Whe where
 node:ByteArray
 x:Int
 y:Int
 z:Int
 h:Int
 s:Int
def dm:Whe:=⟨ByteArray.empty,0,0,0,0,0⟩
def Whe.ok (m:Whe):Prop:=m.node.size≤maxLen
theorem dm_ok:dm.ok:=by simp [Whe.ok,dm]
def Row (w:World) (b off:Nat) (ms:List Whe):Prop:=∀ j,j < ms.length →
 w.cell? ⟨b,off+j * 6,none⟩=some (.string (ms.getD j dm).node)∧w.cell? ⟨b,off+j * 6+1,none⟩=some (.int .i64 (ms.getD j dm).x)∧w.cell? ⟨b,off+j * 6+2,none⟩=some (.int .i64 (ms.getD j dm).y)∧w.cell? ⟨b,off+j * 6+3,none⟩=some (.int .i64 (ms.getD j dm).z)∧w.cell? ⟨b,off+j * 6+4,none⟩=some (.int .i64 (ms.getD j dm).h)∧w.cell? ⟨b,off+j * 6+5,none⟩=some (.int .i64 (ms.getD j dm).s)
def Sl (w:World) (v:Value) (ms:List Whe):Prop:=
 ∃ (a:Option Addr) (cap:Nat),v=.slice a ms.length cap∧(∀ j,(ms.getD j dm).ok) ∧
  (ms=[]∨∃ b off,a=some ⟨b,off,none⟩∧b < w.heap.size∧Row w b off ms)
def Whe.cs (m:Whe):List Value:=[.string m.node,.int .i64 m.x,.int .i64 m.y,.int .i64 m.z,.int .i64 m.h,.int .i64 m.s]
def fl (ms:List Whe):List Value:=ms.flatMap Whe.cs
theorem cs_len (m:Whe):m.cs.length=6:=rfl
theorem fl_cons (m:Whe) (r:List Whe):fl (m :: r)=m.cs++fl r:=by simp [fl]
theorem fl_append (a b:List Whe):fl (a++b)=fl a++fl b:=by simp [fl]
theorem fl_len:∀ ms:List Whe,(fl ms).length=ms.length * 6
 | []=>rfl
 | m :: r=>by rw [fl_cons,List.length_append,fl_len r,cs_len,List.length_cons];omega
theorem fl_take:∀ (ms:List Whe) (i:Nat),(fl ms).take (i * 6)=fl (ms.take i)
 | [],i=>by simp [fl]
 | m :: r,0=>by simp [fl]
 | m :: r,i+1=>by
   rw [fl_cons,List.take_succ_cons,fl_cons,show (i+1) * 6=m.cs.length+i * 6 by rw [cs_len];omega,List.take_length_add_append,fl_take r i]
theorem fl_drop:∀ (ms:List Whe) (i:Nat),(fl ms).drop (i * 6)=fl (ms.drop i)
 | [],i=>by simp [fl]
 | m :: r,0=>by simp
 | m :: r,i+1=>by
   rw [fl_cons,List.drop_succ_cons,show (i+1) * 6=m.cs.length+i * 6 by rw [cs_len];omega,List.drop_length_add_append,fl_drop r i]
theorem cs_one (m:Whe):∀ v∈m.cs,v.oneCell'=true:=by
 intro v hv;simp [Whe.cs] at hv;rcases hv with rfl | rfl | rfl | rfl | rfl | rfl<;>rfl
theorem fl_one (ms:List Whe):∀ v∈fl ms,v.oneCell'=true:=by
 intro v hv
 obtain ⟨m,_,h⟩:=List.mem_flatMap.1 hv
 exact cs_one m v h
theorem fl_get (ms:List Whe) (j:Nat) (hj:j < ms.length) (t:Nat) (ht:t < 6):(fl ms)[j * 6+t]?=(ms.getD j dm).cs[t]?:=by
 induction ms generalizing j with
 | nil=>simp at hj
 | cons m r ih=>
   rw [fl_cons]
   cases j with
   | zero=>rw [List.getElem?_append_left (by rw [cs_len];omega)];simp
   | succ j=>
     rw [List.getElem?_append_right (by rw [cs_len];omega),cs_len,show (j+1) * 6+t - 6=j * 6+t by omega,ih j (by simpa using hj)]
     simp
theorem fl_set (ms:List Whe) (p:Nat) (hp:p < ms.length) (m:Whe):(((((((fl ms).set (p * 6) (.string m.node)).set (p * 6+1) (.int .i64 m.x)).set (p * 6+2) (.int .i64 m.y)).set (p * 6+3) (.int .i64 m.z)).set (p * 6+4) (.int .i64 m.h)).set (p * 6+5) (.int .i64 m.s))=fl (ms.set p m):=by
 induction ms generalizing p with
 | nil=>simp at hp
 | cons x r ih=>
   cases p with
   | zero=>simp [fl,Whe.cs]
   | succ p=>
     have ih':=ih p (by simpa using hp)
     rw [List.set_cons_succ,fl_cons,fl_cons,← ih']
     simp only [Nat.add_mul,Nat.one_mul]
     have e:∀ (l:List Value) (k:Nat) (v:Value),(x.cs++l).set (k+6) v=x.cs++l.set k v:=fun l k v=>by
      rw [List.set_append,if_neg (by rw [cs_len];omega),cs_len,Nat.add_sub_cancel]
     have c:∀ i:Nat,p * 6+6+i=(p * 6+i)+6:=fun i=>by omega
     simp only [c]
     rw [e,e,e,e,e,e]
abbrev Own (base:Nat) (w:World) (v:Value) (ms:List Whe):Prop:=w.ownsRow base 104 6 v ms.length (fl ms)
theorem own_of {base g G:Nat} {w:World} {cur:Array Value} {ms:List Whe} (hb:base≤g) (hg:w.heap[g]?=some (.cells cur 104 (0,0))) (hs:cur.size=G * 6) (hn:ms.length≤G) (hG:G≤maxLen) (ht:cur.toList.take (ms.length * 6)=fl ms) :
 Own base w (.slice (some ⟨g,0,none⟩) ms.length G) ms:=⟨fl_len ms,.inr ⟨g,G,cur,rfl,hb,hg,hn,hG,hs,ht⟩⟩
theorem Own.sl {base:Nat} {w:World} {v:Value} {ms:List Whe} (h:Own base w v ms) (hs:∀ j,(ms.getD j dm).ok):Sl w v ms:=by
 rcases h.2 with ⟨rfl,h0⟩ | ⟨g,c,cur,rfl,hbg,hg,hnc,hcm,hcs,htake⟩
 ·exact ⟨none,0,by rw [h0],hs,.inl (List.eq_nil_of_length_eq_zero h0)⟩
 ·refine ⟨_,c,rfl,hs,.inr ⟨g,0,rfl,(Array.getElem?_eq_some_iff.1 hg).1,fun j hj=>?_⟩⟩
  have hc:∀ t,t < 6→w.cell? ⟨g,0+j * 6+t,none⟩=(ms.getD j dm).cs[t]?:=fun t ht=>by
   rw [cellsAt hg,← fl_get ms j hj t ht,← htake,List.getElem?_take_of_lt (by omega)];simp
  exact ⟨hc 0 (by omega),hc 1 (by omega),hc 2 (by omega),hc 3 (by omega),hc 4 (by omega),hc 5 (by omega)⟩
theorem Own.below {base:Nat} {w w':World} {v:Value} {ms:List Whe} (h:Own base w v ms) (hb:Below w.heap.size w w'):Own base w' v ms:=by
 rcases h.2 with ⟨rfl,h0⟩ | ⟨g,c,cur,rfl,hbg,hg,hnc,hcm,hcs,htake⟩
 ·exact ⟨h.1,.inl ⟨rfl,h0⟩⟩
 ·have hlt:g < w.heap.size:=(Array.getElem?_eq_some_iff.1 hg).1
  exact ⟨h.1,.inr ⟨g,c,cur,rfl,hbg,(hb.block g hlt).trans hg,hnc,hcm,hcs,htake⟩⟩
theorem Own.lt {base:Nat} {w:World} {v:Value} {ms:List Whe} (h:Own base w v ms) (k:Nat) (hk:v.ownBlock=some k):base≤k∧k < w.heap.size:=World.ownsRow.lt h k hk
theorem below_grown {base:Nat} {w w1 w2:World} {v:Value} {ms:List Whe} (hb:Below base w w1) (h:Own base w1 v ms) (hg:w1.grownBy w2 v.ownBlock) (hbase:base≤w1.heap.size):Below base w w2:=
 hb.grown hg hbase (fun k hk=>(h.lt k hk).1)
theorem own_cells {base g c:Nat} {w:World} {ms:List Whe} (h:Own base w (.slice (some ⟨g,0,none⟩) ms.length c) ms) (j:Nat) (hj:j < ms.length) :
 w.cell? ⟨g,j * 6,none⟩=some (.string (ms.getD j dm).node)∧w.cell? ⟨g,j * 6+1,none⟩=some (.int .i64 (ms.getD j dm).x)∧w.cell? ⟨g,j * 6+2,none⟩=some (.int .i64 (ms.getD j dm).y)∧w.cell? ⟨g,j * 6+3,none⟩=some (.int .i64 (ms.getD j dm).z)∧w.cell? ⟨g,j * 6+4,none⟩=some (.int .i64 (ms.getD j dm).h)∧w.cell? ⟨g,j * 6+5,none⟩=some (.int .i64 (ms.getD j dm).s):=by
 rcases h.2 with ⟨h1,_⟩ | ⟨g',c',cur,h1,hbg,hg,hnc,hcm,hcs,htake⟩
 ·cases h1
 ·simp only [Value.slice.injEq,Option.some.injEq,Addr.mk.injEq] at h1
  obtain ⟨⟨rfl,_,_⟩,_,_⟩:=h1
  have hc:∀ t,t < 6→w.cell? ⟨g,j * 6+t,none⟩=(ms.getD j dm).cs[t]?:=fun t ht=>by
   rw [cellsAt hg,← fl_get ms j hj t ht,← htake,List.getElem?_take_of_lt (by omega)];simp
  exact ⟨hc 0 (by omega),hc 1 (by omega),hc 2 (by omega),hc 3 (by omega),hc 4 (by omega),hc 5 (by omega)⟩
theorem own_form {base:Nat} {w:World} {v:Value} {ms:List Whe} (h:Own base w v ms) (p:Nat) (hp:p < ms.length):∃ g c,v=.slice (some ⟨g,0,none⟩) ms.length c:=by
 rcases h.2 with ⟨_,h0⟩ | ⟨g,c,cur,h1,_⟩
 ·omega
 ·exact ⟨g,c,h1⟩
theorem own_set {base g c p:Nat} {W:World} {ms:List Whe} (h:Own base W (.slice (some ⟨g,0,none⟩) ms.length c) ms) (hp:p < ms.length) (m:Whe) :
 Own base ((((((W.setCell ⟨g,p * 6,none⟩ (.string m.node)).setCell ⟨g,p * 6+1,none⟩ (.int .i64 m.x)).setCell ⟨g,p * 6+2,none⟩ (.int .i64 m.y)).setCell ⟨g,p * 6+3,none⟩ (.int .i64 m.z)).setCell ⟨g,p * 6+4,none⟩ (.int .i64 m.h)).setCell ⟨g,p * 6+5,none⟩ (.int .i64 m.s)) (.slice (some ⟨g,0,none⟩) ms.length c) (ms.set p m):=by
 have h1:=World.ownsRow.stored h (p * 6) (.string m.node)
 have h2:=World.ownsRow.stored h1.1 (p * 6+1) (.int .i64 m.x)
 have h3:=World.ownsRow.stored h2.1 (p * 6+2) (.int .i64 m.y)
 have h4:=World.ownsRow.stored h3.1 (p * 6+3) (.int .i64 m.z)
 have h5:=World.ownsRow.stored h4.1 (p * 6+4) (.int .i64 m.h)
 have h6:=World.ownsRow.stored h5.1 (p * 6+5) (.int .i64 m.s)
 have e:=h6.1
 rw [fl_set ms p hp m] at e
 show World.ownsRow _ _ _ _ _ (ms.set p m).length _
 rw [List.length_set]
 exact e
theorem Sl.below {w w':World} {v:Value} {ms:List Whe} (h:Sl w v ms) (hb:Below w.heap.size w w'):Sl w' v ms:=by
 obtain ⟨a,cap,rfl,hs,h⟩:=h
 refine ⟨a,cap,rfl,hs,?_⟩
 rcases h with h | ⟨b,off,rfl,hlt,hr⟩
 ·exact .inl h
 ·refine .inr ⟨b,off,rfl,Nat.lt_of_lt_of_le hlt hb.size,fun j hj=>?_⟩
  obtain ⟨hc,_⟩:=bcell hb
  obtain ⟨c0,c1,c2,c3,c4,c5⟩:=hr j hj
  exact ⟨(hc _ _ hlt).trans c0,(hc _ _ hlt).trans c1,(hc _ _ hlt).trans c2,(hc _ _ hlt).trans c3,(hc _ _ hlt).trans c4,(hc _ _ hlt).trans c5⟩
theorem Row.later {w w':World} {b off:Nat} {ms:List Whe} (hr:Row w b off ms) (hb:Below w.heap.size w w') (hlt:b < w.heap.size):Row w' b off ms:=fun j hj=>by
 obtain ⟨hc,_⟩:=bcell hb
 obtain ⟨c0,c1,c2,c3,c4,c5⟩:=hr j hj
 exact ⟨(hc _ _ hlt).trans c0,(hc _ _ hlt).trans c1,(hc _ _ hlt).trans c2,(hc _ _ hlt).trans c3,(hc _ _ hlt).trans c4,(hc _ _ hlt).trans c5⟩
theorem Own.mono {base base':Nat} {w:World} {v:Value} {ms:List Whe} (h:Own base w v ms) (hb:base'≤base):Own base' w v ms:=by
 rcases h.2 with ⟨rfl,h0⟩ | ⟨g,c,cur,rfl,hbg,hg,hnc,hcm,hcs,htake⟩
 ·exact ⟨h.1,.inl ⟨rfl,h0⟩⟩
 ·exact ⟨h.1,.inr ⟨g,c,cur,rfl,Nat.le_trans hb hbg,hg,hnc,hcm,hcs,htake⟩⟩
theorem own_nil (base:Nat) (w:World):Own base w (.slice none 0 0) []:=World.ownsRow_nil w base 104 6
theorem ns_mem {ms:List Whe} (h:∀ j,(ms.getD j dm).ok):∀ m∈ms,(m).ok:=by
 intro m hm
 obtain ⟨j,hj,rfl⟩:=List.getElem_of_mem hm
 have:=h j
 simpa [List.getD,List.getElem?_eq_getElem hj] using this
theorem ns_get {ms:List Whe} (h:∀ m∈ms,(m).ok):∀ j,(ms.getD j dm).ok:=by
 intro j
 by_cases hj:j < ms.length
 ·have:=h ms[j] (List.getElem_mem hj)
  simpa [List.getD,List.getElem?_eq_getElem hj] using this
 ·rw [List.getD,List.getElem?_eq_none (Nat.le_of_not_lt hj)];exact dm_ok
theorem own_names {base:Nat} {w:World} {v:Value} {ms:List Whe} (h:Own base w v ms) (hs:∀ m∈ms,(m).ok):Sl w v ms:=h.sl (ns_get hs)
theorem sl_one (w:World) (b cap:Nat) (m:Whe) (hm:(m).ok) (hg:w.heap[b]?=some (.cells #[.string m.node,.int .i64 m.x,.int .i64 m.y,.int .i64 m.z,.int .i64 m.h,.int .i64 m.s] 104 (0,0))):Sl w (.slice (some ⟨b,0,none⟩) 1 cap) [m]:=by
 refine ⟨_,cap,rfl,ns_get (fun x hx=>by simp at hx;subst hx;exact hm),.inr ⟨b,0,rfl,(Array.getElem?_eq_some_iff.1 hg).1,fun j hj=>?_⟩⟩
 have:j=0:=by simpa using hj
 subst this
 exact ⟨cellsAt hg (0+0 * 6),cellsAt hg (0+0 * 6+1),cellsAt hg (0+0 * 6+2),cellsAt hg (0+0 * 6+3),cellsAt hg (0+0 * 6+4),cellsAt hg (0+0 * 6+5)⟩
end Wh
namespace Wh
open Go.RowKit
theorem Tryz.info104:(Tryz.prog.info? 104).map (fun i=>(i.zero,i.size,i.bytes))=some (some (.agg #[.string ⟨#[]⟩,.int .i64 0,.int .i64 0,.int .i64 0,.int .i64 0,.int .i64 0]),6,56):=by kernel_rfl
theorem size104:(Tryz.prog.info? 104).map (·.size)=some 6:=by
 obtain ⟨i,hi,h1,h2,h3⟩:=info_parts Tryz.info104
 rw [hi];simp [h2]
theorem sizeOf104 (w:World):(Go.sizeOf 104).run Tryz.prog w=.ok 6 w:=by
 obtain ⟨i,hi,h1,h2,h3⟩:=info_parts Tryz.info104
 simp [Go.sizeOf,typeInfo,hi,h2]
theorem overlaps_run (w:World) (g vb o lb cb:Nat) (cur vs:Array Value) (hg:w.heap[g]?=some (.cells cur 104 (0,0))) (hv:w.heap[vb]?=some (.cells vs 104 (0,0))) (hne:vb≠g) (hk:cur.size≠0) :
 (callFunc 215 #[.slice (some ⟨vb,0,none⟩) 1 1,.slice (some ⟨g,o,none⟩) lb cb]).run Tryz.prog w=.ok (.value (.bool false)) w:=by
 rw [run_callFunc_extern Tryz.func215 (by kernel_rfl) (by kernel_rfl) (by kernel_rfl) (e:=Extern.SlicesOverlaps.overlaps #[28,28] #[4]) (by kernel_rfl),
  Lib.run_overlaps_apart w 28 4 104 Tryz.underlying28 6 sizeOf104 ⟨vb,0,none⟩ ⟨g,o,none⟩ 1 1 lb cb hne 104 104 vs.size cur.size (by simp [World.shape?,hv]) (by simp [World.shape?,hg]) hk (by simp [World.frozen?,hv]) (by simp [World.frozen?,hv])]
 rfl
set_option maxHeartbeats 1000000 in
set_option maxRecDepth 100000 in
theorem insert_room (g n c i vb:Nat) (cur:Array Value) (vs:List Value) (w:World) (hg:w.heap[g]?=some (.cells cur 104 (0,0))) (hcs:cur.size=c * 6) (hi:i < n) (hroom:n+1≤c) (hc63:c≤9223372036854775807)
 (hvb:vb≠g) (hv:w.heap[vb]?=some (.cells vs.toArray 104 (0,0))) (hvl:vs.length=6) (h1c:∀ v∈cur.toList.take (n * 6),v.oneCell'=true) (h1v:∀ v∈vs,v.oneCell'=true) :
 Calls Tryz.prog 171 #[.slice (some ⟨g,0,none⟩) n c,.int .i64 i,.slice (some ⟨vb,0,none⟩) 1 1] w fun e w'=>e=.returned (.slice (some ⟨g,0,none⟩) (n+1) c) ∧
  ∃ cur':Array Value,w'.heap[g]?=some (.cells cur' 104 (0,0))∧cur'.size=c * 6∧cur'.toList.take ((n+1) * 6)=cur.toList.take (i * 6)++vs++(cur.toList.take (n * 6)).drop (i * 6)∧w.grownBy w' (some g):=by
 have hov:=fun o lb cb=>overlaps_run w g vb o lb cb cur vs.toArray hg hv hvb (by omega)
 have hz2:¬ ((i:Int)=(n:Int)):=by omega
 have hb2:¬ (c=i+1):=by omega
 have hb4:¬ (c=i):=by omega
 have hb3:(i:Int)≤(n:Int)+1:=by omega
 have hXl:((cur.toList.take (n * 6)).drop (i * 6)).length=(n - i) * 6:=by
  simp only [List.length_drop,List.length_take,Array.length_toList];omega
 have hX1:∀ v∈(cur.toList.take (n * 6)).drop (i * 6),v.oneCell'=true:=fun v hv=>h1c v (List.mem_of_mem_drop hv)
 have hXs:∀ j v,((cur.toList.take (n * 6)).drop (i * 6))[j]?=some v→w.drew.cell? ((⟨g,i * 6,none⟩:Addr).add j)=some v:=fun j v hj=>by
  have e:w.drew.cell? ((⟨g,i * 6,none⟩:Addr).add j)=cur[i * 6+j]?:=by rw [Addr.add_lit];exact cellsAt hg _
  rw [e]
  rw [List.getElem?_drop,List.getElem?_take] at hj
  split at hj
  ·simpa using hj
  ·cases hj
 generalize hX:(cur.toList.take (n * 6)).drop (i * 6)=X at *
 have hcp1:∀ ty dc sc,(Builtin.copy_ #[28,28] ty #[.slice (some ⟨g,(i+1) * 6,none⟩) (n - i) dc,.slice (some ⟨g,i * 6,none⟩) (n+1 - i) sc]).run Tryz.prog w.drew=.ok (goInt (Nat.min (n+1 - i) (n - i))) (w.drew.setRow g (cur.toList.take ((i+1) * 6)++X++cur.toList.drop ((i+1) * 6+X.length)).toArray):=fun ty dc sc=>
  run_copy_k w.drew 28 28 ty 104 g ((i+1) * 6) (n - i) dc ⟨g,i * 6,none⟩ (n+1 - i) sc 6 cur 104 X Tryz.underlying28 size104 hg (by rw [hXl];congr 1;simp only [Nat.min_def];split<;>omega) hXs (by rw [hXl,hcs];omega) hX1
 obtain ⟨C1,hC1⟩:∃ C1:Array Value,C1=(cur.toList.take ((i+1) * 6)++X++cur.toList.drop ((i+1) * 6+X.length)).toArray:=⟨_,rfl⟩
 obtain ⟨W1,hW1⟩:∃ W1,W1=w.drew.setRow g C1:=⟨_,rfl⟩
 rw [← hC1,← hW1] at hcp1
 have hg1:W1.heap[g]?=some (.cells C1 104 (0,0)):=by rw [hW1];exact setRow_heap w.drew g cur C1 104 (0,0) hg
 have ho1:∀ k,k≠g→W1.heap[k]?=w.heap[k]?:=fun k hk=>by rw [hW1,setRow_other w.drew g k C1 hk];rfl
 have hv1:W1.heap[vb]?=some (.cells vs.toArray 104 (0,0)):=by rw [ho1 vb hvb];exact hv
 have hs1:C1.size=c * 6:=by
  rw [hC1];simp only [List.size_toArray,List.length_append,List.length_take,List.length_drop,Array.length_toList,hXl,hcs];omega
 have hcp2:∀ ty dc,(Builtin.copy_ #[28,28] ty #[.slice (some ⟨g,i * 6,none⟩) (n+1 - i) dc,.slice (some ⟨vb,0,none⟩) 1 1]).run Tryz.prog W1=.ok (goInt (Nat.min 1 (n+1 - i))) (W1.setRow g (C1.toList.take (i * 6)++vs++C1.toList.drop (i * 6+vs.length)).toArray):=fun ty dc=>
  run_copy_k W1 28 28 ty 104 g (i * 6) (n+1 - i) dc ⟨vb,0,none⟩ 1 1 6 C1 104 vs Tryz.underlying28 size104 hg1 (by rw [hvl];simp only [Nat.min_def];split<;>omega) (fun j v hj=>by rw [Addr.add_lit,cellsAt hv1];simpa using hj) (by rw [hvl,hs1];omega) h1v
 obtain ⟨C2,hC2⟩:∃ C2:Array Value,C2=(C1.toList.take (i * 6)++vs++C1.toList.drop (i * 6+vs.length)).toArray:=⟨_,rfl⟩
 obtain ⟨W2,hW2⟩:∃ W2,W2=W1.setRow g C2:=⟨_,rfl⟩
 rw [← hC2,← hW2] at hcp2
 have hg2:W2.heap[g]?=some (.cells C2 104 (0,0)):=by rw [hW2];exact setRow_heap W1 g C1 C2 104 (0,0) hg1
 have hgr:w.grownBy W2 (some g):=⟨by rw [hW2,hW1];rfl,by rw [hW2,hW1];rfl,by rw [hW2,hW1];rfl,by rw [hW2,hW1];simp [World.setRow],fun k _ hk=>by
  have hk':k≠g:=fun e=>hk (by rw [e])
  rw [hW2,setRow_other W1 g k C2 hk',ho1 k hk']⟩
 have hs2:C2.size=c * 6:=by
  rw [hC2];simp only [List.size_toArray,List.length_append,List.length_take,List.length_drop,Array.length_toList,hvl,hs1];omega
 have hl2:C2.toList.take ((n+1) * 6)=cur.toList.take (i * 6)++vs++X:=by
  have e1:C1.toList.take (i * 6)=cur.toList.take (i * 6):=by
   rw [hC1]
   simp only [List.append_assoc]
   rw [List.take_append_of_le_length (by simp only [List.length_take,Array.length_toList,hcs];omega),List.take_take]
   congr 1;omega
  have e2:C1.toList.drop (i * 6+vs.length)=X++cur.toList.drop ((i+1) * 6+X.length):=by
   rw [hC1]
   simp only [List.append_assoc]
   rw [List.drop_append_of_le_length (by simp only [List.length_take,Array.length_toList,hcs];omega),List.drop_of_length_le (by simp only [List.length_take,Array.length_toList,hcs];omega),List.nil_append]
  rw [hC2,e1,e2]
  simp only [List.append_assoc]
  rw [← List.append_assoc vs,← List.append_assoc (List.take (i * 6) cur.toList)]
  exact List.take_left' (by simp only [List.length_append,List.length_take,Array.length_toList,hcs,hvl,hXl];omega)
 clear hW1 hW2 hC1 hC2 ho1 hXs hX1 h1c h1v hX hXl
 have HF:Hid (∃ cur':Array Value,W2.heap[g]?=some (.cells cur' 104 (0,0))∧cur'.size=c * 6∧cur'.toList.take ((n+1) * 6)=cur.toList.take (i * 6)++vs++X∧w.grownBy W2 (some g)):=⟨C2,hg2,hs2,by rw [hl2],hgr⟩
 clear hg2 hs2 hl2 hgr hg1 hv1 hs1 hg hv
 have hw1:IntKind.i64.wrap ((i:Int)+1)=(i:Int)+1:=by rw [IntKind.wrap_i64];omega
 have hb1:(0:Int)≤(i:Int)+1:=by omega
 have hin:i≤n:=by omega
 have htn:((i:Int)+1).toNat=i+1:=by omega
 go_enter Tryz.func171,Tryz.ntmps171
 go_wp2_with (simp only [hov])
 go_region_law (refine step_copy_runM rfl _ _ 28 28 rfl _ _ (by simp [Act.eval,Act.put]) (by simp [Act.eval,Act.put]) (hcp1 _ _ _) ?_)
 go_wp2_with fail
 go_ret
 exact ⟨rfl,HF.out⟩
set_option maxHeartbeats 1000000 in
set_option maxRecDepth 100000 in
theorem insert_grow (g n c i vb:Nat) (cur:Array Value) (vs:List Value) (w:World) (hg:w.heap[g]?=some (.cells cur 104 (0,0))) (hcs:cur.size=c * 6) (hi:i < n) (hnc:n≤c) (hroom:c < n+1) (hc63:n≤1000)
 (hv:w.heap[vb]?=some (.cells vs.toArray 104 (0,0))) (hvl:vs.length=6) (h1c:∀ v∈cur.toList.take (n * 6),v.oneCell'=true) (h1v:∀ v∈vs,v.oneCell'=true) :
 Calls Tryz.prog 171 #[.slice (some ⟨g,0,none⟩) n c,.int .i64 i,.slice (some ⟨vb,0,none⟩) 1 1] w fun e w'=>∃ G,e=.returned (.slice (some ⟨w.heap.size,0,none⟩) (n+1) G)∧n+1≤G∧G≤maxLen ∧
  ∃ cur':Array Value,w'.heap[w.heap.size]?=some (.cells cur' 104 (0,0))∧cur'.size=G * 6∧cur'.toList.take ((n+1) * 6)=cur.toList.take (i * 6)++vs++(cur.toList.take (n * 6)).drop (i * 6)∧w.grownBy w' none:=by
 obtain ⟨i0,hi0,hz0,hzs,hzb⟩:=info_parts Tryz.info104
 have hcn:c=n:=by omega
 subst hcn
 have hgw:g < w.heap.size:=(Array.getElem?_eq_some_iff.1 hg).1
 have hvw:vb < w.heap.size:=(Array.getElem?_eq_some_iff.1 hv).1
 have hz2:¬ ((i:Int)=(c:Int)):=by omega
 have hz3:(c:Int) < (c:Int)+1:=by omega
 have hkk:(c:Int)+1 - (i:Int)=((c+1 - i:Nat):Int):=by omega
 have hik:i+(c+1 - i)=c+1:=by omega
 have hold:(Builtin.firstCells i0.size i (.slice (some ⟨g,0,none⟩) i c)).run Tryz.prog w.drew=.ok (cur.toList.take (i * 6)).toArray w.drew:=by
  rw [hzs]
  exact run_firstCells_some w.drew 6 i ⟨g,0,none⟩ i c (cur.toList.take (i * 6)) (by rw [List.length_take,Array.length_toList];omega) (fun j v hj=>by
   have e:w.drew.cell? ((⟨g,0,none⟩:Addr).add j)=cur[j]?:=by rw [Addr.add_lit,Nat.zero_add];exact cellsAt hg _
   rw [e]
   rw [List.getElem?_take] at hj
   split at hj
   ·simpa using hj
   ·cases hj)
 have hrz:∀ ty,∃ G ROW,c+1≤G∧G≤maxLen∧ROW.size=G * 6∧ROW.toList.take (i * 6)=cur.toList.take (i * 6)∧(Builtin.append_ #[28,3] ty #[.slice (some ⟨g,0,none⟩) i c,.int .i64 ((c:Int)+1 - (i:Int))]).run Tryz.prog w =
  .ok (.slice (some ⟨w.heap.size,0,none⟩) (c+1) G) (w.drew.alloc (.cells ROW 104)):=fun ty=>by
  have h:=Lib.run_append_grow_zeros w 28 3 ty 104 i0 _ .i64 .i64 Tryz.underlying28 Tryz.underlying3 hi0 hz0 (some ⟨g,0,none⟩) i c (cur.toList.take (i * 6)) hold (c+1 - i) (by omega) (by omega) (by omega) (by omega) (by rw [hzb];omega) (by rw [hzb,hik];exact growslice_fits hroom (by omega))
  rw [hik] at h
  rw [hkk]
  have h1:=grownCap_ge w (c+1) c 104
  refine ⟨_,_,h1,grownCap_le_maxLen w (c+1) c 104 (by unfold maxLen;omega),?_,?_,h⟩
  ·simp only [Array.size_append,List.size_toArray,size_zeroCells,List.length_take,Array.length_toList,hcs,Value.cells]
   simp
   omega
  ·simp only [Array.toList_append,List.append_assoc]
   exact List.take_left' (by simp only [List.length_take,Array.length_toList,hcs];omega)
 obtain ⟨G,ROW,hG1,hG2,hRs,hRt,hrz⟩:=hrz 28
 have hG63:G≤9223372036854775807:=by unfold maxLen at hG2;omega
 obtain ⟨W1,hW1⟩:∃ W1,W1=(w.alloc (.cells ROW 104)).drew:=⟨_,rfl⟩
 have hwd:w.drew.alloc (.cells ROW 104)=W1:=by rw [hW1];rfl
 rw [hwd] at hrz
 have hg1:W1.heap[w.heap.size]?=some (.cells ROW 104 (0,0)):=by rw [hW1];exact heap_alloc_new w _
 have ho1:∀ k,k < w.heap.size→W1.heap[k]?=w.heap[k]?:=fun k hk=>by rw [hW1];exact Below.heap_alloc w _ k hk
 have hv1:W1.heap[vb]?=some (.cells vs.toArray 104 (0,0)):=by rw [ho1 vb hvw];exact hv
 have hcp1:∀ ty dc,(Builtin.copy_ #[28,28] ty #[.slice (some ⟨w.heap.size,i * 6,none⟩) (c+1 - i) dc,.slice (some ⟨vb,0,none⟩) 1 1]).run Tryz.prog W1=.ok (goInt (Nat.min 1 (c+1 - i))) (W1.setRow w.heap.size (ROW.toList.take (i * 6)++vs++ROW.toList.drop (i * 6+vs.length)).toArray):=fun ty dc=>
  run_copy_k W1 28 28 ty 104 w.heap.size (i * 6) (c+1 - i) dc ⟨vb,0,none⟩ 1 1 6 ROW 104 vs Tryz.underlying28 size104 hg1 (by rw [hvl];simp only [Nat.min_def];split<;>omega) (fun j v hj=>by rw [Addr.add_lit,cellsAt hv1];simpa using hj) (by rw [hvl,hRs];omega) h1v
 obtain ⟨C1,hC1⟩:∃ C1:Array Value,C1=(ROW.toList.take (i * 6)++vs++ROW.toList.drop (i * 6+vs.length)).toArray:=⟨_,rfl⟩
 obtain ⟨W2,hW2⟩:∃ W2,W2=W1.setRow w.heap.size C1:=⟨_,rfl⟩
 rw [← hC1,← hW2] at hcp1
 have hg2:W2.drew.heap[w.heap.size]?=some (.cells C1 104 (0,0)):=by rw [hW2];exact setRow_heap W1 w.heap.size ROW C1 104 (0,0) hg1
 have ho2:∀ k,k < w.heap.size→W2.drew.heap[k]?=w.heap[k]?:=fun k hk=>by
  have:=setRow_other W1 w.heap.size k C1 (by omega)
  rw [← hW2] at this
  exact this.trans (ho1 k hk)
 have hs1:C1.size=G * 6:=by
  rw [hC1];simp only [List.size_toArray,List.length_append,List.length_take,List.length_drop,Array.length_toList,hvl,hRs];omega
 have hXl:((cur.toList.take (c * 6)).drop (i * 6)).length=(c - i) * 6:=by
  simp only [List.length_drop,List.length_take,Array.length_toList];omega
 have hX1:∀ v∈(cur.toList.take (c * 6)).drop (i * 6),v.oneCell'=true:=fun v hv=>h1c v (List.mem_of_mem_drop hv)
 have hXs:∀ j v,((cur.toList.take (c * 6)).drop (i * 6))[j]?=some v→W2.drew.cell? ((⟨g,i * 6,none⟩:Addr).add j)=some v:=fun j v hj=>by
  have e:W2.drew.cell? ((⟨g,i * 6,none⟩:Addr).add j)=cur[i * 6+j]?:=by rw [Addr.add_lit];exact cellsAt ((ho2 g hgw).trans hg) _
  rw [e]
  rw [List.getElem?_drop,List.getElem?_take] at hj
  split at hj
  ·simpa using hj
  ·cases hj
 generalize hX:(cur.toList.take (c * 6)).drop (i * 6)=X at *
 have hcp2:∀ ty dc sc,(Builtin.copy_ #[28,28] ty #[.slice (some ⟨w.heap.size,(i+1) * 6,none⟩) (c - i) dc,.slice (some ⟨g,i * 6,none⟩) (c - i) sc]).run Tryz.prog W2.drew=.ok (goInt (Nat.min (c - i) (c - i))) (W2.drew.setRow w.heap.size (C1.toList.take ((i+1) * 6)++X++C1.toList.drop ((i+1) * 6+X.length)).toArray):=fun ty dc sc=>
  run_copy_k W2.drew 28 28 ty 104 w.heap.size ((i+1) * 6) (c - i) dc ⟨g,i * 6,none⟩ (c - i) sc 6 C1 104 X Tryz.underlying28 size104 hg2 (by rw [hXl];congr 1;simp only [Nat.min_def];split<;>omega) hXs (by rw [hXl,hs1];omega) hX1
 obtain ⟨C2,hC2⟩:∃ C2:Array Value,C2=(C1.toList.take ((i+1) * 6)++X++C1.toList.drop ((i+1) * 6+X.length)).toArray:=⟨_,rfl⟩
 obtain ⟨W3,hW3⟩:∃ W3,W3=W2.drew.setRow w.heap.size C2:=⟨_,rfl⟩
 rw [← hC2,← hW3] at hcp2
 have hg3:W3.heap[w.heap.size]?=some (.cells C2 104 (0,0)):=by rw [hW3];exact setRow_heap W2.drew w.heap.size C1 C2 104 (0,0) hg2
 have hgr:w.grownBy W3 none:=⟨by rw [hW3,hW2,hW1];rfl,by rw [hW3,hW2,hW1];rfl,by rw [hW3,hW2,hW1];rfl,by rw [hW3,hW2,hW1];simp [World.setRow],fun k hk _=>by
  rw [hW3,setRow_other W2.drew w.heap.size k C2 (by omega),ho2 k hk]⟩
 have hs2:C2.size=G * 6:=by
  rw [hC2];simp only [List.size_toArray,List.length_append,List.length_take,List.length_drop,Array.length_toList,hXl,hs1];omega
 have hl2:C2.toList.take ((c+1) * 6)=cur.toList.take (i * 6)++vs++X:=by
  have e1:C1.toList.take ((i+1) * 6)=cur.toList.take (i * 6)++vs:=by
   rw [hC1,hRt]
   exact List.take_left' (by simp only [List.length_append,List.length_take,Array.length_toList,hcs,hvl];omega)
  rw [hC2,e1]
  exact List.take_left' (by simp only [List.length_append,List.length_take,Array.length_toList,hcs,hvl,hXl];omega)
 have HF:Hid (∃ cur':Array Value,W3.heap[w.heap.size]?=some (.cells cur' 104 (0,0))∧cur'.size=G * 6∧cur'.toList.take ((c+1) * 6)=cur.toList.take (i * 6)++vs++X∧w.grownBy W3 none):=⟨C2,hg3,hs2,hl2,hgr⟩
 have hw1:IntKind.i64.wrap ((i:Int)+1)=(i:Int)+1:=by rw [IntKind.wrap_i64];omega
 have hb1:(0:Int)≤(i:Int)+1:=by omega
 have hin:i≤c:=by omega
 have htn:((i:Int)+1).toNat=i+1:=by omega
 have hGi:¬ (G=i):=by omega
 have hGim:¬ (G=i+1):=by omega
 have hci:¬ (c=i):=by omega
 clear hW1 hW2 hW3 hC1 hC2 ho1 ho2 hXs hX1 h1c h1v hX hXl hg1 hg2 hg3 hgr hs1 hs2 hl2 hv1 hwd hRs hRt hkk hik hold hg hv hi0 hz0 hzs hzb
 go_enter Tryz.func171,Tryz.ntmps171
 go_wp2_with (at_builtin;refine Lib.wpList_append_run _ rfl _ _ _ _ rfl _ _ rfl rfl _ _ hrz ?_)
 go_region_law (refine step_copy_runM rfl _ _ 28 28 rfl _ _ (by simp [Act.eval,Act.put]) (by simp [Act.eval,Act.put]) (hcp2 _ _ _) ?_)
 go_wp2_with fail
 go_ret
 exact ⟨G,rfl,hG1,hG2,HF.out⟩
set_option maxHeartbeats 1000000 in
set_option maxRecDepth 100000 in
theorem insert_end (base n vb:Nat) (v:Value) (xs vs:List Value) (w:World) (hown:w.ownsRow base 104 6 v n xs) (hn:n≤1000) (hbase:base≤w.heap.size)
 (hv:w.heap[vb]?=some (.cells vs.toArray 104 (0,0))) (hvl:vs.length=6) (h1v:∀ v∈vs,v.oneCell'=true) :
 Calls Tryz.prog 171 #[v,.int .i64 n,.slice (some ⟨vb,0,none⟩) 1 1] w fun e w'=>∃ v',e=.returned v'∧w'.ownsRow base 104 6 v' (n+1) (xs++vs)∧w.grownBy w' v.ownBlock:=by
 obtain ⟨i0,hi0,hz0,hzs,hzb⟩:=info_parts Tryz.info104
 have hnews:∀ j u,vs[j]?=some u→w.cell? ((⟨vb,0,none⟩:Addr).add j)=some u:=fun j v hj=>by rw [Addr.add_lit,cellsAt hv];simpa using hj
 have HO:=hown
 rcases hown.2 with ⟨rfl,rfl⟩ | ⟨g,c,cur,rfl,hbg,hg,hnc,hcm,hcs,htake⟩
 ·have HO':Hid (w.ownsRow base 104 6 (.slice none 0 0) 0 xs):=HO
  clear hown HO hn
  go_enter Tryz.func171,Tryz.ntmps171
  go_wp2_with (at_builtin;refine wpList_append_own _ rfl _ _ 28 rfl base 104 i0 _ 6 56 Tryz.underlying28 hi0 hz0 hzs hzb rfl (by omega) _ 0 xs rfl HO'.out ⟨vb,0,none⟩ 1 1 vs rfl (by omega) hnews h1v (by unfold maxLen;omega) (by omega) hbase ?_)
  intro v' w' r1 r2 r3
  go_wp2_with fail
  go_ret
  exact ⟨v',rfl,r1,r2⟩
 ·have HO':Hid (w.ownsRow base 104 6 (.slice (some ⟨g,0,none⟩) n c) n xs):=HO
  clear hown HO hg htake hcs
  unfold maxLen at hcm
  by_cases hcn:c=n
  ·subst hcn
   go_enter Tryz.func171,Tryz.ntmps171
   go_wp2_with (at_builtin;refine wpList_append_own _ rfl _ _ 28 rfl base 104 i0 _ 6 56 Tryz.underlying28 hi0 hz0 hzs hzb rfl (by omega) _ c xs rfl HO'.out ⟨vb,0,none⟩ 1 1 vs rfl (by omega) hnews h1v (by unfold maxLen;omega) (by omega) hbase ?_)
   intro v' w' r1 r2 r3
   go_wp2_with fail
   go_ret
   exact ⟨v',rfl,r1,r2⟩
  ·go_enter Tryz.func171,Tryz.ntmps171
   go_wp2_with (at_builtin;refine wpList_append_own _ rfl _ _ 28 rfl base 104 i0 _ 6 56 Tryz.underlying28 hi0 hz0 hzs hzb rfl (by omega) _ n xs rfl HO'.out ⟨vb,0,none⟩ 1 1 vs rfl (by omega) hnews h1v (by unfold maxLen;omega) (by omega) hbase ?_)
   intro v' w' r1 r2 r3
   go_wp2_with fail
   go_ret
   exact ⟨v',rfl,r1,r2⟩
theorem insert_any (base i vb:Nat) (v:Value) (ms:List Whe) (m:Whe) (w:World) (hown:Own base w v ms) (hi:i≤ms.length) (hn:ms.length≤1000) (hbase:base≤w.heap.size)
 (hv:w.heap[vb]?=some (.cells m.cs.toArray 104 (0,0))) (hne:v.ownBlock≠some vb) :
 Calls Tryz.prog 171 #[v,.int .i64 i,.slice (some ⟨vb,0,none⟩) 1 1] w fun e w'=>∃ v',e=.returned v'∧Own base w' v' (ms.take i++m :: ms.drop i)∧w.grownBy w' v.ownBlock:=by
 have hlen:(ms.take i++m :: ms.drop i).length=ms.length+1:=by simp;omega
 have hfl:fl (ms.take i++m :: ms.drop i)=(fl ms).take (i * 6)++m.cs++(fl ms).drop (i * 6):=by rw [fl_append,fl_cons,fl_take,fl_drop,List.append_assoc]
 by_cases hin:i=ms.length
 ·subst hin
  refine (insert_end base ms.length vb v (fl ms) m.cs w hown hn hbase hv rfl (cs_one m)).mono ?_
  rintro e w' ⟨v',rfl,h1,h2⟩
  refine ⟨v',rfl,?_,h2⟩
  have e1:ms.take ms.length++m :: ms.drop ms.length=ms++[m]:=by simp
  have e2:fl (ms++[m])=fl ms++m.cs:=by rw [fl_append,fl_cons];simp [fl]
  rw [e1]
  show w'.ownsRow base 104 6 v' (ms++[m]).length (fl (ms++[m]))
  rw [e2,show (ms++[m]).length=ms.length+1 by simp]
  exact h1
 ·rcases hown.2 with ⟨_,h0⟩ | ⟨g,c,cur,rfl,hbg,hg,hnc,hcm,hcs,htake⟩
  ·omega
  ·have hvb:vb≠g:=fun e=>hne (by simp [Value.ownBlock,e])
   have h1c:∀ v∈cur.toList.take (ms.length * 6),v.oneCell'=true:=by rw [htake];exact fl_one ms
   have hti:cur.toList.take (i * 6)=(fl ms).take (i * 6):=by rw [← htake,List.take_take];congr 1;omega
   have key:∀ l:List Value,l=cur.toList.take (i * 6)++m.cs++(cur.toList.take (ms.length * 6)).drop (i * 6)→l=fl (ms.take i++m :: ms.drop i):=fun l hl=>by rw [hl,hfl,htake,hti]
   by_cases hroom:ms.length+1≤c
   ·refine (insert_room g ms.length c i vb cur m.cs w hg hcs (by omega) hroom (by unfold maxLen at hcm;omega) hvb hv rfl h1c (cs_one m)).mono ?_
    rintro e w' ⟨rfl,cur',h1,h2,h3,h4⟩
    refine ⟨_,rfl,?_,h4⟩
    rw [← hlen]
    exact own_of hbg h1 h2 (by omega) hcm (key _ (by rw [hlen];exact h3))
   ·refine (insert_grow g ms.length c i vb cur m.cs w hg hcs (by omega) hnc (by omega) hn hv rfl h1c (cs_one m)).mono ?_
    rintro e w' ⟨G,rfl,hG1,hG2,cur',h1,h2,h3,h4⟩
    refine ⟨_,rfl,?_,grown_any h4 _⟩
    rw [← hlen]
    exact own_of hbase h1 h2 (by omega) hG2 (key _ (by rw [hlen];exact h3))
end Wh
namespace Wh
open Go.RowKit
set_option maxHeartbeats 800000 in
theorem clone_any (ms:List Whe) (v:Value) (w:World) (h:Sl w v ms) (hn:ms.length≤1000) :
 Calls Tryz.prog 120 #[v] w fun e w'=>∃ v',e=.returned v'∧Own w.heap.size w' v' ms∧Below w.heap.size w w':=by
 obtain ⟨a,cap,rfl,hs,h⟩:=h
 obtain ⟨i0,hi0,hz0,hzs,hzb⟩:=info_parts Tryz.info104
 cases a with
 | none=>
   have he:ms=[]:=by
    rcases h with h | ⟨b,off,h,_⟩
    ·exact h
    ·cases h
   subst he
   clear h hs
   have hnil:=fun (w:World)=>Lib.run_eql_slice_nil (P:=Tryz.prog) w 28 104 none 0 cap 0 0 Tryz.underlying28
   simp only [List.length_nil,Option.isNone_none] at hnil ⊢
   go_enter Tryz.func120,Tryz.ntmps120
   go_wp2_with fail
   go_ret
   exact ⟨_,rfl,own_nil _ _,Below.refl _ _⟩
 | some a=>
   have hnil:=fun (w:World)=>Lib.run_eql_slice_nil (P:=Tryz.prog) w 28 104 (some a) ms.length cap 0 0 Tryz.underlying28
   simp only [Option.isNone_some] at hnil
   have hnews:Hid (∀ j u,(fl ms)[j]?=some u→(w.alloc (.cells #[] 104)).cell? (a.add j)=some u):=by
    intro j u hj
    rcases h with h | ⟨b,off,h,hb,hr⟩
    ·subst h;simp [fl] at hj
    ·cases h
     have hjl:j < ms.length * 6:=by rw [← fl_len];exact (List.getElem?_eq_some_iff.1 hj).1
     have h1:=fl_get ms (j / 6) (by omega) (j%6) (by omega)
     rw [show j / 6 * 6+j%6=j by omega,hj] at h1
     rw [Addr.add_lit,World.cell?_alloc_past (w:=w) _ b _ hb]
     obtain ⟨c0,c1,c2,c3,c4,c5⟩:=hr (j / 6) (by omega)
     have hcs:j%6=0∨j%6=1∨j%6=2∨j%6=3∨j%6=4∨j%6=5:=by omega
     rcases hcs with e | e | e | e | e | e
     ·rw [show off+j=off+j / 6 * 6 by omega,c0];rw [e] at h1;simpa [Whe.cs] using h1.symm
     ·rw [show off+j=off+j / 6 * 6+1 by omega,c1];rw [e] at h1;simpa [Whe.cs] using h1.symm
     ·rw [show off+j=off+j / 6 * 6+2 by omega,c2];rw [e] at h1;simpa [Whe.cs] using h1.symm
     ·rw [show off+j=off+j / 6 * 6+3 by omega,c3];rw [e] at h1;simpa [Whe.cs] using h1.symm
     ·rw [show off+j=off+j / 6 * 6+4 by omega,c4];rw [e] at h1;simpa [Whe.cs] using h1.symm
     ·rw [show off+j=off+j / 6 * 6+5 by omega,c5];rw [e] at h1;simpa [Whe.cs] using h1.symm
   have HO:Hid ((w.alloc (.cells #[] 104)).ownsRow w.heap.size 104 6 (.slice (some ⟨w.heap.size,0,none⟩) 0 0) 0 []):=World.ownsRow_made w #[] 0 (Nat.le_refl _) (by unfold maxLen;omega) rfl
   clear h hs
   go_enter Tryz.func120,Tryz.ntmps120
   go_wp2_with (at_builtin;refine wpList_append_own _ rfl _ _ 28 rfl w.heap.size 104 i0 _ 6 56 Tryz.underlying28 hi0 hz0 hzs hzb rfl (by omega) _ 0 [] rfl HO.out a ms.length cap (fl ms) rfl (fl_len ms) hnews.out (fl_one ms) (by unfold maxLen;omega) (by omega) (by simp) ?_)
   intro v' w' r1 r2 r3
   go_wp2_with fail
   go_ret
   refine ⟨v',rfl,?_,?_⟩
   ·simpa using r1
   ·exact ((Below.refl _ _).alloc (Nat.le_refl _) _).grown r2 (by simp) (fun k hk=>by simp [Value.ownBlock] at hk;omega)
end Wh
namespace Wh
open Go.ChangeShapes Go.WideShapes Go.ChangeAt Go.RowKit
section
variable {H:Type} {enc:TypeId × Value→H} {w:World} {base:Nat} {spare:Nat→Bool} {held:Bool}
theorem Tryz.kcT:Tryz.prog.cellsOf 104=6:=by kernel_rfl
theorem Tryz.kc9:Tryz.prog.cellsOf 9=1:=by kernel_rfl
theorem Tryz.kc3:Tryz.prog.cellsOf 3=1:=by kernel_rfl
theorem Tryz.kc4:Tryz.prog.cellsOf 4=1:=by kernel_rfl
theorem kcP:Tryz.prog.cellsOf 27=5:=by kernel_rfl
set_option maxRecDepth 100000 in
theorem plT_of_trod {fuel:Nat} {cs:List Value} {x:DataW H × List MemPlace} (h:DataW.trod enc Tryz.prog w base spare held fuel 27 cs=some x) :
 ∃ a b c d e:Int,cs=[.int .i64 a,.int .i64 b,.int .i64 c,.int .i64 d,.int .i64 e]:=by
 obtain ⟨xs,n,_,_,hl,hlen,hf⟩:=DataW.trod_struct Tryz.underlying27 h
 rw [kcP] at hl
 match cs,hl with
 | [c0,c1,c2,c3,c4],_=>
   match xs,hlen with
   | [y0,y1,y2,y3,y4],_=>
     have h0:=hf 0 _ rfl
     have h1:=hf 1 _ rfl
     have h2:=hf 2 _ rfl
     have h3:=hf 3 _ rfl
     have h4:=hf 4 _ rfl
     simp [Tryz.kc3] at h0
     simp [Tryz.kc3] at h1
     simp [Tryz.kc3] at h2
     simp [Tryz.kc3] at h3
     simp [Tryz.kc3] at h4
     obtain ⟨a,e0,_,_⟩:=DataW.trod_int Tryz.underlying3 h0
     obtain ⟨b,e1,_,_⟩:=DataW.trod_int Tryz.underlying3 h1
     obtain ⟨c,e2,_,_⟩:=DataW.trod_int Tryz.underlying3 h2
     obtain ⟨d,e3,_,_⟩:=DataW.trod_int Tryz.underlying3 h3
     obtain ⟨e,e4,_,_⟩:=DataW.trod_int Tryz.underlying3 h4
     simp only [List.cons.injEq,and_true] at e0 e1 e2 e3 e4
     subst e0 e1 e2 e3 e4
     exact ⟨a,b,c,d,e,rfl⟩
set_option maxRecDepth 100000 in
theorem elT_of_trod {fuel:Nat} {cs:List Value} {x:DataW H × List MemPlace} (h:DataW.trod enc Tryz.prog w base spare held fuel 104 cs=some x) :
 ∃ m:Whe,cs=m.cs∧m.ok:=by
 obtain ⟨xs,n,_,_,hl,hlen,hf⟩:=DataW.trod_struct Tryz.underlying104 h
 rw [Tryz.kcT] at hl
 match cs,hl with
 | [c0,c1,c2,c3,c4,c5],_=>
   match xs,hlen with
   | [y0,y1],_=>
     have h0:=hf 0 _ rfl
     have h1:=hf 1 _ rfl
     simp [Tryz.kc9] at h0
     simp [kcP] at h1
     obtain ⟨s,e0,_,w0⟩:=DataW.trod_string Tryz.underlying9 h0
     obtain ⟨a,b,c,d,e,e1⟩:=plT_of_trod h1
     simp only [List.cons.injEq,and_true] at e0 e1
     obtain ⟨r1,r2,r3,r4,r5⟩:=e1
     subst e0 r1 r2 r3 r4 r5
     exact ⟨⟨s,a,b,c,d,e⟩,rfl,w0⟩
set_option maxRecDepth 100000 in
theorem elsT_of_trod {fuel:Nat} {cs:List Value} {x:DataW H × List MemPlace} (h:DataW.trod enc Tryz.prog w base spare held fuel 28 cs=some x) :
 ∃ (p:Option Addr) (n c:Nat) (ms:List Whe),cs=[.slice p n c]∧Sl w (.slice p n c) ms∧ms.length≤maxLen:=by
 rcases Go.Deep.open_slice Tryz.underlying28 h with ⟨hcs,_⟩ | ⟨x,len,cap,m,n,D,Pl,hcs,hb,hl,hm,hmm,_,hx⟩
 ·exact ⟨none,0,0,[],hcs,⟨none,0,rfl,ns_get (by simp),.inl rfl⟩,by simp⟩
 ·have hlm:len≤m:=by rw [hmm];split<;>omega
  have hall:∀ i,i < len→∃ q:Whe,(∀ t,t < 6→w.cell? (x.add (i * 6+t))=q.cs[t]?)∧(q).ok:=fun i hi=>by
   obtain ⟨cs',h1,h2⟩:=hx i (by omega)
   obtain ⟨q,hq,hs⟩:=elT_of_trod h2
   rw [Tryz.kcT] at h1
   obtain ⟨_,_,h3⟩:=World.cells?_some h1
   refine ⟨q,fun t ht=>?_,hs⟩
   rw [← Go.Deep.add_add,h3 t ht,hq]
  have hinh:Inhabited Whe:=⟨dm⟩
  obtain ⟨F,hF⟩:=Go.Deep.choose_lt (α:=Whe) (p:=fun i q=>(∀ t,t < 6→w.cell? (x.add (i * 6+t))=q.cs[t]?)∧(q).ok) hall
  have hget:∀ j,j < len→((List.range len).map F).getD j dm=F j:=fun j hj=>by simp [List.getD,hj]
  refine ⟨some x,len,cap,(List.range len).map F,hcs,⟨some x,cap,by simp,ns_get (fun q hq=>?_),?_⟩,by simp;omega⟩
  ·obtain ⟨j,hj,rfl⟩:=List.mem_map.1 hq
   exact (hF j (List.mem_range.1 hj)).2
  ·by_cases h0:len=0
   ·left;simp [h0]
   ·right
    obtain ⟨b,off,spot⟩:=x
    have hc0:=(hF 0 (by omega)).1 0 (by omega)
    have hspot:spot=none:=by simpa [Addr.add] using World.cell?_spot hc0
    subst hspot
    have hcell:∀ j,j < len→∀ t,t < 6→w.cell? ⟨b,off+j * 6+t,none⟩=(F j).cs[t]?:=fun j hj t ht=>by
     have:=(hF j hj).1 t ht
     rwa [Go.WideShapes.add_plain,← Nat.add_assoc] at this
    refine ⟨b,off,rfl,World.block_lt_of_cell? w ⟨b,off+0 * 6+0,none⟩ (hcell 0 (by omega) 0 (by omega)),fun j hj=>?_⟩
    have hj':j < len:=by simpa using hj
    rw [hget j hj']
    exact ⟨hcell j hj' 0 (by omega),hcell j hj' 1 (by omega),hcell j hj' 2 (by omega),hcell j hj' 3 (by omega),hcell j hj' 4 (by omega),hcell j hj' 5 (by omega)⟩
end
end Wh
end Go.Proofs.YtikgjgmgbfjcgaaGreat
