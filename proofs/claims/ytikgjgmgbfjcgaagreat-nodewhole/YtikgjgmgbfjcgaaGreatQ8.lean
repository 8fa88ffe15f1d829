import Derived.Test.YtikgjgmgbfjcgaaGreatQ1
import Derived.Test.YtikgjgmgbfjcgaaGreatQ3
import Derived.Lib.QuietBelow
import Derived.Laws.StructEq
import Derived.Deep.Slices
import Derived.Lib.SmallJoins
import Derived.ProofKit
import Derived.OpenShut
import Derived.Handed
namespace Go.Proofs.YtikgjgmgbfjcgaaGreat
namespace Gw
open Go.RowKit
structure Gwy where
 centre:ByteArray
 addr:Int
 version:Int
def dm:Gwy:=⟨ByteArray.empty,0,0⟩
def Gwy.ok (m:Gwy):Prop:=m.centre.size≤maxLen
theorem dm_ok:dm.ok:=by simp [Gwy.ok,dm]
def Row (w:World) (b off:Nat) (ms:List Gwy):Prop:=∀ j,j < ms.length →
 w.cell? ⟨b,off+j * 3,none⟩=some (.string (ms.getD j dm).centre)∧w.cell? ⟨b,off+j * 3+1,none⟩=some (.int .i64 (ms.getD j dm).addr)∧w.cell? ⟨b,off+j * 3+2,none⟩=some (.int .i64 (ms.getD j dm).version)
def Sl (w:World) (v:Value) (ms:List Gwy):Prop:=
 ∃ (a:Option Addr) (cap:Nat),v=.slice a ms.length cap∧(∀ j,(ms.getD j dm).ok) ∧
  (ms=[]∨∃ b off,a=some ⟨b,off,none⟩∧b < w.heap.size∧Row w b off ms)
def Gwy.cs (m:Gwy):List Value:=[.string m.centre,.int .i64 m.addr,.int .i64 m.version]
def fl (ms:List Gwy):List Value:=ms.flatMap Gwy.cs
theorem cs_len (m:Gwy):m.cs.length=3:=rfl
theorem fl_cons (m:Gwy) (r:List Gwy):fl (m :: r)=m.cs++fl r:=by simp [fl]
theorem fl_append (a b:List Gwy):fl (a++b)=fl a++fl b:=by simp [fl]
theorem fl_len:∀ ms:List Gwy,(fl ms).length=ms.length * 3
 | []=>rfl
 | m :: r=>by rw [fl_cons,List.length_append,fl_len r,cs_len,List.length_cons];omega
theorem fl_take:∀ (ms:List Gwy) (i:Nat),(fl ms).take (i * 3)=fl (ms.take i)
 | [],i=>by simp [fl]
 | m :: r,0=>by simp [fl]
 | m :: r,i+1=>by
   rw [fl_cons,List.take_succ_cons,fl_cons,show (i+1) * 3=m.cs.length+i * 3 by rw [cs_len];omega,List.take_length_add_append,fl_take r i]
theorem fl_drop:∀ (ms:List Gwy) (i:Nat),(fl ms).drop (i * 3)=fl (ms.drop i)
 | [],i=>by simp [fl]
 | m :: r,0=>by simp
 | m :: r,i+1=>by
   rw [fl_cons,List.drop_succ_cons,show (i+1) * 3=m.cs.length+i * 3 by rw [cs_len];omega,List.drop_length_add_append,fl_drop r i]
theorem cs_one (m:Gwy):∀ v∈m.cs,v.oneCell'=true:=by
 intro v hv;simp [Gwy.cs] at hv;rcases hv with rfl | rfl | rfl<;>rfl
theorem fl_one (ms:List Gwy):∀ v∈fl ms,v.oneCell'=true:=by
 intro v hv
 obtain ⟨m,_,h⟩:=List.mem_flatMap.1 hv
 exact cs_one m v h
theorem fl_get (ms:List Gwy) (j:Nat) (hj:j < ms.length) (t:Nat) (ht:t < 3):(fl ms)[j * 3+t]?=(ms.getD j dm).cs[t]?:=by
 induction ms generalizing j with
 | nil=>simp at hj
 | cons m r ih=>
   rw [fl_cons]
   cases j with
   | zero=>rw [List.getElem?_append_left (by rw [cs_len];omega)];simp
   | succ j=>
     rw [List.getElem?_append_right (by rw [cs_len];omega),cs_len,show (j+1) * 3+t - 3=j * 3+t by omega,ih j (by simpa using hj)]
     simp
theorem fl_set (ms:List Gwy) (p:Nat) (hp:p < ms.length) (m:Gwy):((((fl ms).set (p * 3) (.string m.centre)).set (p * 3+1) (.int .i64 m.addr)).set (p * 3+2) (.int .i64 m.version))=fl (ms.set p m):=by
 induction ms generalizing p with
 | nil=>simp at hp
 | cons x r ih=>
   cases p with
   | zero=>simp [fl,Gwy.cs]
   | succ p=>
     have ih':=ih p (by simpa using hp)
     rw [List.set_cons_succ,fl_cons,fl_cons,← ih']
     simp only [Nat.add_mul,Nat.one_mul]
     have e:∀ (l:List Value) (k:Nat) (v:Value),(x.cs++l).set (k+3) v=x.cs++l.set k v:=fun l k v=>by
      rw [List.set_append,if_neg (by rw [cs_len];omega),cs_len,Nat.add_sub_cancel]
     have c:∀ i:Nat,p * 3+3+i=(p * 3+i)+3:=fun i=>by omega
     simp only [c]
     rw [e,e,e]
abbrev Own (base:Nat) (w:World) (v:Value) (ms:List Gwy):Prop:=w.ownsRow base 122 3 v ms.length (fl ms)
theorem own_of {base g G:Nat} {w:World} {cur:Array Value} {ms:List Gwy} (hb:base≤g) (hg:w.heap[g]?=some (.cells cur 122 (0,0))) (hs:cur.size=G * 3) (hn:ms.length≤G) (hG:G≤maxLen) (ht:cur.toList.take (ms.length * 3)=fl ms) :
 Own base w (.slice (some ⟨g,0,none⟩) ms.length G) ms:=⟨fl_len ms,.inr ⟨g,G,cur,rfl,hb,hg,hn,hG,hs,ht⟩⟩
theorem Own.sl {base:Nat} {w:World} {v:Value} {ms:List Gwy} (h:Own base w v ms) (hs:∀ j,(ms.getD j dm).ok):Sl w v ms:=by
 rcases h.2 with ⟨rfl,h0⟩ | ⟨g,c,cur,rfl,hbg,hg,hnc,hcm,hcs,htake⟩
 ·exact ⟨none,0,by rw [h0],hs,.inl (List.eq_nil_of_length_eq_zero h0)⟩
 ·refine ⟨_,c,rfl,hs,.inr ⟨g,0,rfl,(Array.getElem?_eq_some_iff.1 hg).1,fun j hj=>?_⟩⟩
  have hc:∀ t,t < 3→w.cell? ⟨g,0+j * 3+t,none⟩=(ms.getD j dm).cs[t]?:=fun t ht=>by
   rw [cellsAt hg,← fl_get ms j hj t ht,← htake,List.getElem?_take_of_lt (by omega)];simp
  exact ⟨hc 0 (by omega),hc 1 (by omega),hc 2 (by omega)⟩
theorem Own.below {base:Nat} {w w':World} {v:Value} {ms:List Gwy} (h:Own base w v ms) (hb:Below w.heap.size w w'):Own base w' v ms:=by
 rcases h.2 with ⟨rfl,h0⟩ | ⟨g,c,cur,rfl,hbg,hg,hnc,hcm,hcs,htake⟩
 ·exact ⟨h.1,.inl ⟨rfl,h0⟩⟩
 ·have hlt:g < w.heap.size:=(Array.getElem?_eq_some_iff.1 hg).1
  exact ⟨h.1,.inr ⟨g,c,cur,rfl,hbg,(hb.block g hlt).trans hg,hnc,hcm,hcs,htake⟩⟩
theorem Own.lt {base:Nat} {w:World} {v:Value} {ms:List Gwy} (h:Own base w v ms) (k:Nat) (hk:v.ownBlock=some k):base≤k∧k < w.heap.size:=World.ownsRow.lt h k hk
theorem below_grown {base:Nat} {w w1 w2:World} {v:Value} {ms:List Gwy} (hb:Below base w w1) (h:Own base w1 v ms) (hg:w1.grownBy w2 v.ownBlock) (hbase:base≤w1.heap.size):Below base w w2:=
 hb.grown hg hbase (fun k hk=>(h.lt k hk).1)
theorem own_cells {base g c:Nat} {w:World} {ms:List Gwy} (h:Own base w (.slice (some ⟨g,0,none⟩) ms.length c) ms) (j:Nat) (hj:j < ms.length) :
 w.cell? ⟨g,j * 3,none⟩=some (.string (ms.getD j dm).centre)∧w.cell? ⟨g,j * 3+1,none⟩=some (.int .i64 (ms.getD j dm).addr)∧w.cell? ⟨g,j * 3+2,none⟩=some (.int .i64 (ms.getD j dm).version):=by
 rcases h.2 with ⟨h1,_⟩ | ⟨g',c',cur,h1,hbg,hg,hnc,hcm,hcs,htake⟩
 ·cases h1
 ·simp only [Value.slice.injEq,Option.some.injEq,Addr.mk.injEq] at h1
  obtain ⟨⟨rfl,_,_⟩,_,_⟩:=h1
  have hc:∀ t,t < 3→w.cell? ⟨g,j * 3+t,none⟩=(ms.getD j dm).cs[t]?:=fun t ht=>by
   rw [cellsAt hg,← fl_get ms j hj t ht,← htake,List.getElem?_take_of_lt (by omega)];simp
  exact ⟨hc 0 (by omega),hc 1 (by omega),hc 2 (by omega)⟩
theorem own_form {base:Nat} {w:World} {v:Value} {ms:List Gwy} (h:Own base w v ms) (p:Nat) (hp:p < ms.length):∃ g c,v=.slice (some ⟨g,0,none⟩) ms.length c:=by
 rcases h.2 with ⟨_,h0⟩ | ⟨g,c,cur,h1,_⟩
 ·omega
 ·exact ⟨g,c,h1⟩
theorem own_set {base g c p:Nat} {W:World} {ms:List Gwy} (h:Own base W (.slice (some ⟨g,0,none⟩) ms.length c) ms) (hp:p < ms.length) (m:Gwy) :
 Own base (((W.setCell ⟨g,p * 3,none⟩ (.string m.centre)).setCell ⟨g,p * 3+1,none⟩ (.int .i64 m.addr)).setCell ⟨g,p * 3+2,none⟩ (.int .i64 m.version)) (.slice (some ⟨g,0,none⟩) ms.length c) (ms.set p m):=by
 have h1:=World.ownsRow.stored h (p * 3) (.string m.centre)
 have h2:=World.ownsRow.stored h1.1 (p * 3+1) (.int .i64 m.addr)
 have h3:=World.ownsRow.stored h2.1 (p * 3+2) (.int .i64 m.version)
 have e:=h3.1
 rw [fl_set ms p hp m] at e
 show World.ownsRow _ _ _ _ _ (ms.set p m).length _
 rw [List.length_set]
 exact e
theorem Sl.below {w w':World} {v:Value} {ms:List Gwy} (h:Sl w v ms) (hb:Below w.heap.size w w'):Sl w' v ms:=by
 obtain ⟨a,cap,rfl,hs,h⟩:=h
 refine ⟨a,cap,rfl,hs,?_⟩
 rcases h with h | ⟨b,off,rfl,hlt,hr⟩
 ·exact .inl h
 ·refine .inr ⟨b,off,rfl,Nat.lt_of_lt_of_le hlt hb.size,fun j hj=>?_⟩
  obtain ⟨hc,_⟩:=bcell hb
  obtain ⟨c0,c1,c2⟩:=hr j hj
  exact ⟨(hc _ _ hlt).trans c0,(hc _ _ hlt).trans c1,(hc _ _ hlt).trans c2⟩
theorem Row.later {w w':World} {b off:Nat} {ms:List Gwy} (hr:Row w b off ms) (hb:Below w.heap.size w w') (hlt:b < w.heap.size):Row w' b off ms:=fun j hj=>by
 obtain ⟨hc,_⟩:=bcell hb
 obtain ⟨c0,c1,c2⟩:=hr j hj
 exact ⟨(hc _ _ hlt).trans c0,(hc _ _ hlt).trans c1,(hc _ _ hlt).trans c2⟩
theorem Own.mono {base base':Nat} {w:World} {v:Value} {ms:List Gwy} (h:Own base w v ms) (hb:base'≤base):Own base' w v ms:=by
 rcases h.2 with ⟨rfl,h0⟩ | ⟨g,c,cur,rfl,hbg,hg,hnc,hcm,hcs,htake⟩
 ·exact ⟨h.1,.inl ⟨rfl,h0⟩⟩
 ·exact ⟨h.1,.inr ⟨g,c,cur,rfl,Nat.le_trans hb hbg,hg,hnc,hcm,hcs,htake⟩⟩
theorem own_nil (base:Nat) (w:World):Own base w (.slice none 0 0) []:=World.ownsRow_nil w base 122 3
theorem ns_mem {ms:List Gwy} (h:∀ j,(ms.getD j dm).ok):∀ m∈ms,(m).ok:=by
 intro m hm
 obtain ⟨j,hj,rfl⟩:=List.getElem_of_mem hm
 have:=h j
 simpa [List.getD,List.getElem?_eq_getElem hj] using this
theorem ns_get {ms:List Gwy} (h:∀ m∈ms,(m).ok):∀ j,(ms.getD j dm).ok:=by
 intro j
 by_cases hj:j < ms.length
 ·have:=h ms[j] (List.getElem_mem hj)
  simpa [List.getD,List.getElem?_eq_getElem hj] using this
 ·rw [List.getD,List.getElem?_eq_none (Nat.le_of_not_lt hj)];exact dm_ok
theorem own_names {base:Nat} {w:World} {v:Value} {ms:List Gwy} (h:Own base w v ms) (hs:∀ m∈ms,(m).ok):Sl w v ms:=h.sl (ns_get hs)
theorem sl_one (w:World) (b cap:Nat) (m:Gwy) (hm:(m).ok) (hg:w.heap[b]?=some (.cells #[.string m.centre,.int .i64 m.addr,.int .i64 m.version] 122 (0,0))):Sl w (.slice (some ⟨b,0,none⟩) 1 cap) [m]:=by
 refine ⟨_,cap,rfl,ns_get (fun x hx=>by simp at hx;subst hx;exact hm),.inr ⟨b,0,rfl,(Array.getElem?_eq_some_iff.1 hg).1,fun j hj=>?_⟩⟩
 have:j=0:=by simpa using hj
 subst this
 exact ⟨cellsAt hg (0+0 * 3),cellsAt hg (0+0 * 3+1),cellsAt hg (0+0 * 3+2)⟩
end Gw
namespace Gw
open Go.RowKit
theorem Tryz.info122:(Tryz.prog.info? 122).map (fun i=>(i.zero,i.size,i.bytes))=some (some (.agg #[.string ⟨#[]⟩,.int .i64 0,.int .i64 0]),3,32):=by kernel_rfl
theorem size122:(Tryz.prog.info? 122).map (·.size)=some 3:=by
 obtain ⟨i,hi,h1,h2,h3⟩:=info_parts Tryz.info122
 rw [hi];simp [h2]
theorem sizeOf122 (w:World):(Go.sizeOf 122).run Tryz.prog w=.ok 3 w:=by
 obtain ⟨i,hi,h1,h2,h3⟩:=info_parts Tryz.info122
 simp [Go.sizeOf,typeInfo,hi,h2]
theorem overlaps_run (w:World) (g vb o lb cb:Nat) (cur vs:Array Value) (hg:w.heap[g]?=some (.cells cur 122 (0,0))) (hv:w.heap[vb]?=some (.cells vs 122 (0,0))) (hne:vb≠g) (hk:cur.size≠0) :
 (callFunc 251 #[.slice (some ⟨vb,0,none⟩) 1 1,.slice (some ⟨g,o,none⟩) lb cb]).run Tryz.prog w=.ok (.value (.bool false)) w:=by
 rw [run_callFunc_extern Tryz.func251 (by kernel_rfl) (by kernel_rfl) (by kernel_rfl) (e:=Extern.SlicesOverlaps.overlaps #[25,25] #[4]) (by kernel_rfl),
  Lib.run_overlaps_apart w 25 4 122 Tryz.underlying25 3 sizeOf122 ⟨vb,0,none⟩ ⟨g,o,none⟩ 1 1 lb cb hne 122 122 vs.size cur.size (by simp [World.shape?,hv]) (by simp [World.shape?,hg]) hk (by simp [World.frozen?,hv]) (by simp [World.frozen?,hv])]
 rfl
set_option maxHeartbeats 1000000 in
set_option maxRecDepth 100000 in
theorem insert_room (g n c i vb:Nat) (cur:Array Value) (vs:List Value) (w:World) (hg:w.heap[g]?=some (.cells cur 122 (0,0))) (hcs:cur.size=c * 3) (hi:i < n) (hroom:n+1≤c) (hc63:c≤9223372036854775807)
 (hvb:vb≠g) (hv:w.heap[vb]?=some (.cells vs.toArray 122 (0,0))) (hvl:vs.length=3) (h1c:∀ v∈cur.toList.take (n * 3),v.oneCell'=true) (h1v:∀ v∈vs,v.oneCell'=true) :
 Calls Tryz.prog 233 #[.slice (some ⟨g,0,none⟩) n c,.int .i64 i,.slice (some ⟨vb,0,none⟩) 1 1] w fun e w'=>e=.returned (.slice (some ⟨g,0,none⟩) (n+1) c) ∧
  ∃ cur':Array Value,w'.heap[g]?=some (.cells cur' 122 (0,0))∧cur'.size=c * 3∧cur'.toList.take ((n+1) * 3)=cur.toList.take (i * 3)++vs++(cur.toList.take (n * 3)).drop (i * 3)∧w.grownBy w' (some g):=by
 have hov:=fun o lb cb=>overlaps_run w g vb o lb cb cur vs.toArray hg hv hvb (by omega)
 have hz2:¬ ((i:Int)=(n:Int)):=by omega
 have hb2:¬ (c=i+1):=by omega
 have hb4:¬ (c=i):=by omega
 have hb3:(i:Int)≤(n:Int)+1:=by omega
 have hXl:((cur.toList.take (n * 3)).drop (i * 3)).length=(n - i) * 3:=by
  simp only [List.length_drop,List.length_take,Array.length_toList];omega
 have hX1:∀ v∈(cur.toList.take (n * 3)).drop (i * 3),v.oneCell'=true:=fun v hv=>h1c v (List.mem_of_mem_drop hv)
 have hXs:∀ j v,((cur.toList.take (n * 3)).drop (i * 3))[j]?=some v→w.drew.cell? ((⟨g,i * 3,none⟩:Addr).add j)=some v:=fun j v hj=>by
  have e:w.drew.cell? ((⟨g,i * 3,none⟩:Addr).add j)=cur[i * 3+j]?:=by rw [Addr.add_lit];exact cellsAt hg _
  rw [e]
  rw [List.getElem?_drop,List.getElem?_take] at hj
  split at hj
  ·simpa using hj
  ·cases hj
 generalize hX:(cur.toList.take (n * 3)).drop (i * 3)=X at *
 have hcp1:∀ ty dc sc,(Builtin.copy_ #[25,25] ty #[.slice (some ⟨g,(i+1) * 3,none⟩) (n - i) dc,.slice (some ⟨g,i * 3,none⟩) (n+1 - i) sc]).run Tryz.prog w.drew=.ok (goInt (Nat.min (n+1 - i) (n - i))) (w.drew.setRow g (cur.toList.take ((i+1) * 3)++X++cur.toList.drop ((i+1) * 3+X.length)).toArray):=fun ty dc sc=>
  run_copy_k w.drew 25 25 ty 122 g ((i+1) * 3) (n - i) dc ⟨g,i * 3,none⟩ (n+1 - i) sc 3 cur 122 X Tryz.underlying25 size122 hg (by rw [hXl];congr 1;simp only [Nat.min_def];split<;>omega) hXs (by rw [hXl,hcs];omega) hX1
 obtain ⟨C1,hC1⟩:∃ C1:Array Value,C1=(cur.toList.take ((i+1) * 3)++X++cur.toList.drop ((i+1) * 3+X.length)).toArray:=⟨_,rfl⟩
 obtain ⟨W1,hW1⟩:∃ W1,W1=w.drew.setRow g C1:=⟨_,rfl⟩
 rw [← hC1,← hW1] at hcp1
 have hg1:W1.heap[g]?=some (.cells C1 122 (0,0)):=by rw [hW1];exact setRow_heap w.drew g cur C1 122 (0,0) hg
 have ho1:∀ k,k≠g→W1.heap[k]?=w.heap[k]?:=fun k hk=>by rw [hW1,setRow_other w.drew g k C1 hk];rfl
 have hv1:W1.heap[vb]?=some (.cells vs.toArray 122 (0,0)):=by rw [ho1 vb hvb];exact hv
 have hs1:C1.size=c * 3:=by
  rw [hC1];simp only [List.size_toArray,List.length_append,List.length_take,List.length_drop,Array.length_toList,hXl,hcs];omega
 have hcp2:∀ ty dc,(Builtin.copy_ #[25,25] ty #[.slice (some ⟨g,i * 3,none⟩) (n+1 - i) dc,.slice (some ⟨vb,0,none⟩) 1 1]).run Tryz.prog W1=.ok (goInt (Nat.min 1 (n+1 - i))) (W1.setRow g (C1.toList.take (i * 3)++vs++C1.toList.drop (i * 3+vs.length)).toArray):=fun ty dc=>
  run_copy_k W1 25 25 ty 122 g (i * 3) (n+1 - i) dc ⟨vb,0,none⟩ 1 1 3 C1 122 vs Tryz.underlying25 size122 hg1 (by rw [hvl];simp only [Nat.min_def];split<;>omega) (fun j v hj=>by rw [Addr.add_lit,cellsAt hv1];simpa using hj) (by rw [hvl,hs1];omega) h1v
 obtain ⟨C2,hC2⟩:∃ C2:Array Value,C2=(C1.toList.take (i * 3)++vs++C1.toList.drop (i * 3+vs.length)).toArray:=⟨_,rfl⟩
 obtain ⟨W2,hW2⟩:∃ W2,W2=W1.setRow g C2:=⟨_,rfl⟩
 rw [← hC2,← hW2] at hcp2
 have hg2:W2.heap[g]?=some (.cells C2 122 (0,0)):=by rw [hW2];exact setRow_heap W1 g C1 C2 122 (0,0) hg1
 have hgr:w.grownBy W2 (some g):=⟨by rw [hW2,hW1];rfl,by rw [hW2,hW1];rfl,by rw [hW2,hW1];rfl,by rw [hW2,hW1];simp [World.setRow],fun k _ hk=>by
  have hk':k≠g:=fun e=>hk (by rw [e])
  rw [hW2,setRow_other W1 g k C2 hk',ho1 k hk']⟩
 have hs2:C2.size=c * 3:=by
  rw [hC2];simp only [List.size_toArray,List.length_append,List.length_take,List.length_drop,Array.length_toList,hvl,hs1];omega
 have hl2:C2.toList.take ((n+1) * 3)=cur.toList.take (i * 3)++vs++X:=by
  have e1:C1.toList.take (i * 3)=cur.toList.take (i * 3):=by
   rw [hC1]
   simp only [List.append_assoc]
   rw [List.take_append_of_le_length (by simp only [List.length_take,Array.length_toList,hcs];omega),List.take_take]
   congr 1;omega
  have e2:C1.toList.drop (i * 3+vs.length)=X++cur.toList.drop ((i+1) * 3+X.length):=by
   rw [hC1]
   simp only [List.append_assoc]
   rw [List.drop_append_of_le_length (by simp only [List.length_take,Array.length_toList,hcs];omega),List.drop_of_length_le (by simp only [List.length_take,Array.length_toList,hcs];omega),List.nil_append]
  rw [hC2,e1,e2]
  simp only [List.append_assoc]
  rw [← List.append_assoc vs,← List.append_assoc (List.take (i * 3) cur.toList)]
  exact List.take_left' (by simp only [List.length_append,List.length_take,Array.length_toList,hcs,hvl,hXl];omega)
 clear hW1 hW2 hC1 hC2 ho1 hXs hX1 h1c h1v hX hXl
 have HF:Hid (∃ cur':Array Value,W2.heap[g]?=some (.cells cur' 122 (0,0))∧cur'.size=c * 3∧cur'.toList.take ((n+1) * 3)=cur.toList.take (i * 3)++vs++X∧w.grownBy W2 (some g)):=⟨C2,hg2,hs2,by rw [hl2],hgr⟩
 clear hg2 hs2 hl2 hgr hg1 hv1 hs1 hg hv
 have hw1:IntKind.i64.wrap ((i:Int)+1)=(i:Int)+1:=by rw [IntKind.wrap_i64];omega
 have hb1:(0:Int)≤(i:Int)+1:=by omega
 have hin:i≤n:=by omega
 have htn:((i:Int)+1).toNat=i+1:=by omega
 go_enter Tryz.func233,Tryz.ntmps233
 go_wp2_with (simp only [hov])
 go_region_law (refine step_copy_runM rfl _ _ 25 25 rfl _ _ (by simp [Act.eval,Act.put]) (by simp [Act.eval,Act.put]) (hcp1 _ _ _) ?_)
 go_wp2_with fail
 go_ret
 exact ⟨rfl,HF.out⟩
set_option maxHeartbeats 1000000 in
set_option maxRecDepth 100000 in
theorem insert_grow (g n c i vb:Nat) (cur:Array Value) (vs:List Value) (w:World) (hg:w.heap[g]?=some (.cells cur 122 (0,0))) (hcs:cur.size=c * 3) (hi:i < n) (hnc:n≤c) (hroom:c < n+1) (hc63:n≤1000)
 (hv:w.heap[vb]?=some (.cells vs.toArray 122 (0,0))) (hvl:vs.length=3) (h1c:∀ v∈cur.toList.take (n * 3),v.oneCell'=true) (h1v:∀ v∈vs,v.oneCell'=true) :
 Calls Tryz.prog 233 #[.slice (some ⟨g,0,none⟩) n c,.int .i64 i,.slice (some ⟨vb,0,none⟩) 1 1] w fun e w'=>∃ G,e=.returned (.slice (some ⟨w.heap.size,0,none⟩) (n+1) G)∧n+1≤G∧G≤maxLen ∧
  ∃ cur':Array Value,w'.heap[w.heap.size]?=some (.cells cur' 122 (0,0))∧cur'.size=G * 3∧cur'.toList.take ((n+1) * 3)=cur.toList.take (i * 3)++vs++(cur.toList.take (n * 3)).drop (i * 3)∧w.grownBy w' none:=by
 obtain ⟨i0,hi0,hz0,hzs,hzb⟩:=info_parts Tryz.info122
 have hcn:c=n:=by omega
 subst hcn
 have hgw:g < w.heap.size:=(Array.getElem?_eq_some_iff.1 hg).1
 have hvw:vb < w.heap.size:=(Array.getElem?_eq_some_iff.1 hv).1
 have hz2:¬ ((i:Int)=(c:Int)):=by omega
 have hz3:(c:Int) < (c:Int)+1:=by omega
 have hkk:(c:Int)+1 - (i:Int)=((c+1 - i:Nat):Int):=by omega
 have hik:i+(c+1 - i)=c+1:=by omega
 have hold:(Builtin.firstCells i0.size i (.slice (some ⟨g,0,none⟩) i c)).run Tryz.prog w.drew=.ok (cur.toList.take (i * 3)).toArray w.drew:=by
  rw [hzs]
  exact run_firstCells_some w.drew 3 i ⟨g,0,none⟩ i c (cur.toList.take (i * 3)) (by rw [List.length_take,Array.length_toList];omega) (fun j v hj=>by
   have e:w.drew.cell? ((⟨g,0,none⟩:Addr).add j)=cur[j]?:=by rw [Addr.add_lit,Nat.zero_add];exact cellsAt hg _
   rw [e]
   rw [List.getElem?_take] at hj
   split at hj
   ·simpa using hj
   ·cases hj)
 have hrz:∀ ty,∃ G ROW,c+1≤G∧G≤maxLen∧ROW.size=G * 3∧ROW.toList.take (i * 3)=cur.toList.take (i * 3)∧(Builtin.append_ #[25,3] ty #[.slice (some ⟨g,0,none⟩) i c,.int .i64 ((c:Int)+1 - (i:Int))]).run Tryz.prog w =
  .ok (.slice (some ⟨w.heap.size,0,none⟩) (c+1) G) (w.drew.alloc (.cells ROW 122)):=fun ty=>by
  have h:=Lib.run_append_grow_zeros w 25 3 ty 122 i0 _ .i64 .i64 Tryz.underlying25 Tryz.underlying3 hi0 hz0 (some ⟨g,0,none⟩) i c (cur.toList.take (i * 3)) hold (c+1 - i) (by omega) (by omega) (by omega) (by omega) (by rw [hzb];omega) (by rw [hzb,hik];exact growslice_fits hroom (by omega))
  rw [hik] at h
  rw [hkk]
  have h1:=grownCap_ge w (c+1) c 122
  refine ⟨_,_,h1,grownCap_le_maxLen w (c+1) c 122 (by unfold maxLen;omega),?_,?_,h⟩
  ·simp only [Array.size_append,List.size_toArray,size_zeroCells,List.length_take,Array.length_toList,hcs,Value.cells]
   simp
   omega
  ·simp only [Array.toList_append,List.append_assoc]
   exact List.take_left' (by simp only [List.length_take,Array.length_toList,hcs];omega)
 obtain ⟨G,ROW,hG1,hG2,hRs,hRt,hrz⟩:=hrz 25
 have hG63:G≤9223372036854775807:=by unfold maxLen at hG2;omega
 obtain ⟨W1,hW1⟩:∃ W1,W1=(w.alloc (.cells ROW 122)).drew:=⟨_,rfl⟩
 have hwd:w.drew.alloc (.cells ROW 122)=W1:=by rw [hW1];rfl
 rw [hwd] at hrz
 have hg1:W1.heap[w.heap.size]?=some (.cells ROW 122 (0,0)):=by rw [hW1];exact heap_alloc_new w _
 have ho1:∀ k,k < w.heap.size→W1.heap[k]?=w.heap[k]?:=fun k hk=>by rw [hW1];exact Below.heap_alloc w _ k hk
 have hv1:W1.heap[vb]?=some (.cells vs.toArray 122 (0,0)):=by rw [ho1 vb hvw];exact hv
 have hcp1:∀ ty dc,(Builtin.copy_ #[25,25] ty #[.slice (some ⟨w.heap.size,i * 3,none⟩) (c+1 - i) dc,.slice (some ⟨vb,0,none⟩) 1 1]).run Tryz.prog W1=.ok (goInt (Nat.min 1 (c+1 - i))) (W1.setRow w.heap.size (ROW.toList.take (i * 3)++vs++ROW.toList.drop (i * 3+vs.length)).toArray):=fun ty dc=>
  run_copy_k W1 25 25 ty 122 w.heap.size (i * 3) (c+1 - i) dc ⟨vb,0,none⟩ 1 1 3 ROW 122 vs Tryz.underlying25 size122 hg1 (by rw [hvl];simp only [Nat.min_def];split<;>omega) (fun j v hj=>by rw [Addr.add_lit,cellsAt hv1];simpa using hj) (by rw [hvl,hRs];omega) h1v
 obtain ⟨C1,hC1⟩:∃ C1:Array Value,C1=(ROW.toList.take (i * 3)++vs++ROW.toList.drop (i * 3+vs.length)).toArray:=⟨_,rfl⟩
 obtain ⟨W2,hW2⟩:∃ W2,W2=W1.setRow w.heap.size C1:=⟨_,rfl⟩
 rw [← hC1,← hW2] at hcp1
 have hg2:W2.drew.heap[w.heap.size]?=some (.cells C1 122 (0,0)):=by rw [hW2];exact setRow_heap W1 w.heap.size ROW C1 122 (0,0) hg1
 have ho2:∀ k,k < w.heap.size→W2.drew.heap[k]?=w.heap[k]?:=fun k hk=>by
  have:=setRow_other W1 w.heap.size k C1 (by omega)
  rw [← hW2] at this
  exact this.trans (ho1 k hk)
 have hs1:C1.size=G * 3:=by
  rw [hC1];simp only [List.size_toArray,List.length_append,List.length_take,List.length_drop,Array.length_toList,hvl,hRs];omega
 have hXl:((cur.toList.take (c * 3)).drop (i * 3)).length=(c - i) * 3:=by
  simp only [List.length_drop,List.length_take,Array.length_toList];omega
 have hX1:∀ v∈(cur.toList.take (c * 3)).drop (i * 3),v.oneCell'=true:=fun v hv=>h1c v (List.mem_of_mem_drop hv)
 have hXs:∀ j v,((cur.toList.take (c * 3)).drop (i * 3))[j]?=some v→W2.drew.cell? ((⟨g,i * 3,none⟩:Addr).add j)=some v:=fun j v hj=>by
  have e:W2.drew.cell? ((⟨g,i * 3,none⟩:Addr).add j)=cur[i * 3+j]?:=by rw [Addr.add_lit];exact cellsAt ((ho2 g hgw).trans hg) _
  rw [e]
  rw [List.getElem?_drop,List.getElem?_take] at hj
  split at hj
  ·simpa using hj
  ·cases hj
 generalize hX:(cur.toList.take (c * 3)).drop (i * 3)=X at *
 have hcp2:∀ ty dc sc,(Builtin.copy_ #[25,25] ty #[.slice (some ⟨w.heap.size,(i+1) * 3,none⟩) (c - i) dc,.slice (some ⟨g,i * 3,none⟩) (c - i) sc]).run Tryz.prog W2.drew=.ok (goInt (Nat.min (c - i) (c - i))) (W2.drew.setRow w.heap.size (C1.toList.take ((i+1) * 3)++X++C1.toList.drop ((i+1) * 3+X.length)).toArray):=fun ty dc sc=>
  run_copy_k W2.drew 25 25 ty 122 w.heap.size ((i+1) * 3) (c - i) dc ⟨g,i * 3,none⟩ (c - i) sc 3 C1 122 X Tryz.underlying25 size122 hg2 (by rw [hXl];congr 1;simp only [Nat.min_def];split<;>omega) hXs (by rw [hXl,hs1];omega) hX1
 obtain ⟨C2,hC2⟩:∃ C2:Array Value,C2=(C1.toList.take ((i+1) * 3)++X++C1.toList.drop ((i+1) * 3+X.length)).toArray:=⟨_,rfl⟩
 obtain ⟨W3,hW3⟩:∃ W3,W3=W2.drew.setRow w.heap.size C2:=⟨_,rfl⟩
 rw [← hC2,← hW3] at hcp2
 have hg3:W3.heap[w.heap.size]?=some (.cells C2 122 (0,0)):=by rw [hW3];exact setRow_heap W2.drew w.heap.size C1 C2 122 (0,0) hg2
 have hgr:w.grownBy W3 none:=⟨by rw [hW3,hW2,hW1];rfl,by rw [hW3,hW2,hW1];rfl,by rw [hW3,hW2,hW1];rfl,by rw [hW3,hW2,hW1];simp [World.setRow],fun k hk _=>by
  rw [hW3,setRow_other W2.drew w.heap.size k C2 (by omega),ho2 k hk]⟩
 have hs2:C2.size=G * 3:=by
  rw [hC2];simp only [List.size_toArray,List.length_append,List.length_take,List.length_drop,Array.length_toList,hXl,hs1];omega
 have hl2:C2.toList.take ((c+1) * 3)=cur.toList.take (i * 3)++vs++X:=by
  have e1:C1.toList.take ((i+1) * 3)=cur.toList.take (i * 3)++vs:=by
   rw [hC1,hRt]
   exact List.take_left' (by simp only [List.length_append,List.length_take,Array.length_toList,hcs,hvl];omega)
  rw [hC2,e1]
  exact List.take_left' (by simp only [List.length_append,List.length_take,Array.length_toList,hcs,hvl,hXl];omega)
 have HF:Hid (∃ cur':Array Value,W3.heap[w.heap.size]?=some (.cells cur' 122 (0,0))∧cur'.size=G * 3∧cur'.toList.take ((c+1) * 3)=cur.toList.take (i * 3)++vs++X∧w.grownBy W3 none):=⟨C2,hg3,hs2,hl2,hgr⟩
 have hw1:IntKind.i64.wrap ((i:Int)+1)=(i:Int)+1:=by rw [IntKind.wrap_i64];omega
 have hb1:(0:Int)≤(i:Int)+1:=by omega
 have hin:i≤c:=by omega
 have htn:((i:Int)+1).toNat=i+1:=by omega
 have hGi:¬ (G=i):=by omega
 have hGim:¬ (G=i+1):=by omega
 have hci:¬ (c=i):=by omega
 clear hW1 hW2 hW3 hC1 hC2 ho1 ho2 hXs hX1 h1c h1v hX hXl hg1 hg2 hg3 hgr hs1 hs2 hl2 hv1 hwd hRs hRt hkk hik hold hg hv hi0 hz0 hzs hzb
 go_enter Tryz.func233,Tryz.ntmps233
 go_wp2_with (at_builtin;refine Lib.wpList_append_run _ rfl _ _ _ _ rfl _ _ rfl rfl _ _ hrz ?_)
 go_region_law (refine step_copy_runM rfl _ _ 25 25 rfl _ _ (by simp [Act.eval,Act.put]) (by simp [Act.eval,Act.put]) (hcp2 _ _ _) ?_)
 go_wp2_with fail
 go_ret
 exact ⟨G,rfl,hG1,hG2,HF.out⟩
set_option maxHeartbeats 1000000 in
set_option maxRecDepth 100000 in
theorem insert_end (base n vb:Nat) (v:Value) (xs vs:List Value) (w:World) (hown:w.ownsRow base 122 3 v n xs) (hn:n≤1000) (hbase:base≤w.heap.size)
 (hv:w.heap[vb]?=some (.cells vs.toArray 122 (0,0))) (hvl:vs.length=3) (h1v:∀ v∈vs,v.oneCell'=true) :
 Calls Tryz.prog 233 #[v,.int .i64 n,.slice (some ⟨vb,0,none⟩) 1 1] w fun e w'=>∃ v',e=.returned v'∧w'.ownsRow base 122 3 v' (n+1) (xs++vs)∧w.grownBy w' v.ownBlock:=by
 obtain ⟨i0,hi0,hz0,hzs,hzb⟩:=info_parts Tryz.info122
 have hnews:∀ j u,vs[j]?=some u→w.cell? ((⟨vb,0,none⟩:Addr).add j)=some u:=fun j v hj=>by rw [Addr.add_lit,cellsAt hv];simpa using hj
 have HO:=hown
 rcases hown.2 with ⟨rfl,rfl⟩ | ⟨g,c,cur,rfl,hbg,hg,hnc,hcm,hcs,htake⟩
 ·have HO':Hid (w.ownsRow base 122 3 (.slice none 0 0) 0 xs):=HO
  clear hown HO hn
  go_enter Tryz.func233,Tryz.ntmps233
  go_wp2_with (at_builtin;refine wpList_append_own _ rfl _ _ 25 rfl base 122 i0 _ 3 32 Tryz.underlying25 hi0 hz0 hzs hzb rfl (by omega) _ 0 xs rfl HO'.out ⟨vb,0,none⟩ 1 1 vs rfl (by omega) hnews h1v (by unfold maxLen;omega) (by omega) hbase ?_)
  intro v' w' r1 r2 r3
  go_wp2_with fail
  go_ret
  exact ⟨v',rfl,r1,r2⟩
 ·have HO':Hid (w.ownsRow base 122 3 (.slice (some ⟨g,0,none⟩) n c) n xs):=HO
  clear hown HO hg htake hcs
  unfold maxLen at hcm
  by_cases hcn:c=n
  ·subst hcn
   go_enter Tryz.func233,Tryz.ntmps233
   go_wp2_with (at_builtin;refine wpList_append_own _ rfl _ _ 25 rfl base 122 i0 _ 3 32 Tryz.underlying25 hi0 hz0 hzs hzb rfl (by omega) _ c xs rfl HO'.out ⟨vb,0,none⟩ 1 1 vs rfl (by omega) hnews h1v (by unfold maxLen;omega) (by omega) hbase ?_)
   intro v' w' r1 r2 r3
   go_wp2_with fail
   go_ret
   exact ⟨v',rfl,r1,r2⟩
  ·go_enter Tryz.func233,Tryz.ntmps233
   go_wp2_with (at_builtin;refine wpList_append_own _ rfl _ _ 25 rfl base 122 i0 _ 3 32 Tryz.underlying25 hi0 hz0 hzs hzb rfl (by omega) _ n xs rfl HO'.out ⟨vb,0,none⟩ 1 1 vs rfl (by omega) hnews h1v (by unfold maxLen;omega) (by omega) hbase ?_)
   intro v' w' r1 r2 r3
   go_wp2_with fail
   go_ret
   exact ⟨v',rfl,r1,r2⟩
theorem insert_any (base i vb:Nat) (v:Value) (ms:List Gwy) (m:Gwy) (w:World) (hown:Own base w v ms) (hi:i≤ms.length) (hn:ms.length≤1000) (hbase:base≤w.heap.size)
 (hv:w.heap[vb]?=some (.cells m.cs.toArray 122 (0,0))) (hne:v.ownBlock≠some vb) :
 Calls Tryz.prog 233 #[v,.int .i64 i,.slice (some ⟨vb,0,none⟩) 1 1] w fun e w'=>∃ v',e=.returned v'∧Own base w' v' (ms.take i++m :: ms.drop i)∧w.grownBy w' v.ownBlock:=by
 have hlen:(ms.take i++m :: ms.drop i).length=ms.length+1:=by simp;omega
 have hfl:fl (ms.take i++m :: ms.drop i)=(fl ms).take (i * 3)++m.cs++(fl ms).drop (i * 3):=by rw [fl_append,fl_cons,fl_take,fl_drop,List.append_assoc]
 by_cases hin:i=ms.length
 ·subst hin
  refine (insert_end base ms.length vb v (fl ms) m.cs w hown hn hbase hv rfl (cs_one m)).mono ?_
  rintro e w' ⟨v',rfl,h1,h2⟩
  refine ⟨v',rfl,?_,h2⟩
  have e1:ms.take ms.length++m :: ms.drop ms.length=ms++[m]:=by simp
  have e2:fl (ms++[m])=fl ms++m.cs:=by rw [fl_append,fl_cons];simp [fl]
  rw [e1]
  show w'.ownsRow base 122 3 v' (ms++[m]).length (fl (ms++[m]))
  rw [e2,show (ms++[m]).length=ms.length+1 by simp]
  exact h1
 ·rcases hown.2 with ⟨_,h0⟩ | ⟨g,c,cur,rfl,hbg,hg,hnc,hcm,hcs,htake⟩
  ·omega
  ·have hvb:vb≠g:=fun e=>hne (by simp [Value.ownBlock,e])
   have h1c:∀ v∈cur.toList.take (ms.length * 3),v.oneCell'=true:=by rw [htake];exact fl_one ms
   have hti:cur.toList.take (i * 3)=(fl ms).take (i * 3):=by rw [← htake,List.take_take];congr 1;omega
   have key:∀ l:List Value,l=cur.toList.take (i * 3)++m.cs++(cur.toList.take (ms.length * 3)).drop (i * 3)→l=fl (ms.take i++m :: ms.drop i):=fun l hl=>by rw [hl,hfl,htake,hti]
   by_cases hroom:ms.length+1≤c
   ·refine (insert_room g ms.length c i vb cur m.cs w hg hcs (by omega) hroom (by unfold maxLen at hcm;omega) hvb hv rfl h1c (cs_one m)).mono ?_
    rintro e w' ⟨rfl,cur',h1,h2,h3,h4⟩
    refine ⟨_,rfl,?_,h4⟩
    rw [← hlen]
    exact own_of hbg h1 h2 (by omega) hcm (key _ (by rw [hlen];exact h3))
   ·refine (insert_grow g ms.length c i vb cur m.cs w hg hcs (by omega) hnc (by omega) hn hv rfl h1c (cs_one m)).mono ?_
    rintro e w' ⟨G,rfl,hG1,hG2,cur',h1,h2,h3,h4⟩
    refine ⟨_,rfl,?_,grown_any h4 _⟩
    rw [← hlen]
    exact own_of hbase h1 h2 (by omega) hG2 (key _ (by rw [hlen];exact h3))
end Gw
namespace Gw
open Go.RowKit
def ord (a b:Gwy):Int:=cmpI a.centre b.centre
theorem keyed:RL.Keyed ord:=RL.keyed_txt Gwy.centre
def newC:Gwy→Gwy→Int:=RL.lex (fun a b=>a.version - b.version) (fun a b=>a.addr - b.addr)
theorem keyedC:RL.Keyed newC:=RL.keyed_lex (RL.keyed_int Gwy.version) (RL.keyed_int Gwy.addr)
def newE (a b:Gwy):Bool:=decide (0 < newC a b)
theorem newest:RL.Newest ord newE:=RL.newest_of keyedC fun a b h1 h2=>by
 obtain ⟨h3,h4⟩:=RL.lex_zero h2
 have e1:a.centre=b.centre:=(cmpI_eq _ _).1 h1
 have e2:a.version=b.version:=by omega
 have e3:a.addr=b.addr:=by omega
 obtain ⟨a_centre,a_addr,a_version⟩:=a
 obtain ⟨b_centre,b_addr,b_version⟩:=b
 simp only at e1 e2 e3
 subst e1 e2 e3
 rfl
abbrev Rise (ms:List Gwy):Prop:=RL.Rise ord ms
abbrev hearL (ms:List Gwy) (m:Gwy):List Gwy:=RL.hear ord newE ms m
abbrev joinL (a b:List Gwy):List Gwy:=RL.join ord newE a b
abbrev At (ms:List Gwy) (t:Gwy) (p:Nat) (f:Bool):Prop:=RL.At ord dm ms t p f
abbrev risesB (ms:List Gwy):Bool:=RL.risesB ord ms
theorem rise_mono {ms:List Gwy} (h:Rise ms) (t:Gwy):∀ i j,i≤j→j < ms.length→ord (ms.getD j dm) t < 0→ord (ms.getD i dm) t < 0:=RL.rise_mono ord dm keyed h t
theorem rises_allO (ms:List Gwy) (h:∀ j,j+1 < ms.length→ord (ms.getD j dm) (ms.getD (j+1) dm) < 0):risesB ms=true:=RL.rises_all ord dm ms h
theorem rises_getO (ms:List Gwy) (h:risesB ms=true):∀ j,j+1 < ms.length→ord (ms.getD j dm) (ms.getD (j+1) dm) < 0:=RL.rises_get ord dm ms h
theorem at_any (ms:List Gwy) (hr:Rise ms) (t:Gwy):∃ p f,At ms t p f:=RL.at_any ord dm keyed ms hr t
theorem at_uniq {ms:List Gwy} {t:Gwy} {p q:Nat} {f e:Bool} (h:At ms t p f) (k:At ms t q e):p=q∧f=e:=RL.at_uniq ord dm h k
theorem hearL_at (ms:List Gwy) (m:Gwy) (p:Nat) (f:Bool) (h:At ms m p f) :
 hearL ms m=if f=true then (if newE m (ms.getD p dm)=true then ms.set p m else ms) else ms.take p++m :: ms.drop p:=RL.hear_at ord newE dm ms m p f h
theorem hearL_mem (ms:List Gwy) (m x:Gwy) (h:x∈hearL ms m):x=m∨x∈ms:=RL.hear_mem ord newE ms m x h
theorem hearL_rise (ms:List Gwy) (m:Gwy) (h:Rise ms):Rise (hearL ms m):=RL.hear_rise ord newE keyed ms m h
theorem hearL_len (ms:List Gwy) (m:Gwy):ms.length≤(hearL ms m).length∧(hearL ms m).length≤ms.length+1:=RL.hear_len ord newE ms m
theorem joinL_rise (b a:List Gwy) (h:Rise a):Rise (joinL a b):=RL.join_rise ord newE keyed b a h
theorem joinL_len (b a:List Gwy):(joinL a b).length≤a.length+b.length:=RL.join_len ord newE b a
theorem joinL_mem (b a:List Gwy) (x:Gwy) (h:x∈joinL a b):x∈a∨x∈b:=RL.join_mem ord newE b a x h
theorem joinL_take (a b:List Gwy) (j:Nat) (hj:j < b.length):joinL a (b.take (j+1))=hearL (joinL a (b.take j)) (b.getD j dm):=RL.join_take ord newE dm a b j hj
theorem joinL_nil (b:List Gwy) (h:Rise b):joinL [] b=b:=RL.join_nil ord newE b h
theorem ns_hear {ms:List Gwy} {m:Gwy} (h:∀ m∈ms,m.ok) (hm:m.ok):∀ x∈hearL ms m,x.ok:=by
 intro x hx
 rcases hearL_mem ms m x hx with rfl | hx
 ·exact hm
 ·exact h x hx
theorem ns_join (b a:List Gwy) (ha:∀ m∈a,m.ok) (hb:∀ m∈b,m.ok):∀ x∈joinL a b,x.ok:=by
 intro x hx
 rcases joinL_mem b a x hx with h | h
 ·exact ha x h
 ·exact hb x h
def Gwy.e (m:Gwy):Int:=if labB m.centre=true then (if within m.addr 0 4294967295=true then (if within m.version 1 1000000=true then 0 else 3) else 3) else 1
def firstE:List Gwy→Int
 | []=>0
 | m :: r=>if m.e=0 then firstE r else m.e
theorem firstE_zero:∀ (ms:List Gwy),(∀ j,j < ms.length→(ms.getD j dm).e=0)→firstE ms=0
 | [],_=>rfl
 | m :: r,h=>by
   have h0:=h 0 (by simp)
   simp only [List.getD_cons_zero] at h0
   rw [firstE,if_pos h0]
   exact firstE_zero r fun j hj=>by have:=h (j+1) (by simpa using hj);simpa using this
theorem firstE_at:∀ (ms:List Gwy) (k:Nat),k < ms.length→(∀ j,j < k→(ms.getD j dm).e=0)→(ms.getD k dm).e≠0→firstE ms=(ms.getD k dm).e
 | [],k,h,_,_=>by simp at h
 | m :: r,0,_,_,hne=>by
   simp only [List.getD_cons_zero] at hne ⊢
   rw [firstE,if_neg hne]
 | m :: r,k+1,h,hz,hne=>by
   have h0:=hz 0 (by omega)
   simp only [List.getD_cons_zero] at h0
   rw [firstE,if_pos h0,List.getD_cons_succ]
   rw [List.getD_cons_succ] at hne
   exact firstE_at r k (by simpa using h) (fun j hj=>by have:=hz (j+1) (by omega);simpa using this) hne
theorem firstE_mem:∀ (ms:List Gwy),firstE ms=0→∀ m∈ms,m.e=0
 | [],_,m,hm=>by simp at hm
 | x :: r,h,m,hm=>by
   rw [firstE] at h
   split at h
   ·rename_i hx
    rcases List.mem_cons.1 hm with rfl | hm
    ·exact hx
    ·exact firstE_mem r h m hm
   ·rename_i hx;exact absurd h hx
theorem firstE_all:∀ (ms:List Gwy),(∀ m∈ms,m.e=0)→firstE ms=0
 | [],_=>rfl
 | x :: r,h=>by rw [firstE,if_pos (h x (by simp))];exact firstE_all r fun m hm=>h m (by simp [hm])
def chk (ms:List Gwy):Int:=if 6 < ms.length then 2 else if firstE ms=0 then (if risesB ms=true then 0 else 4) else firstE ms
theorem chk_e (ms:List Gwy) (k:Nat) (hn:ms.length≤6) (hk:k < ms.length) (hz:∀ j,j < k→(ms.getD j dm).e=0) (hne:(ms.getD k dm).e≠0):chk ms=(ms.getD k dm).e:=by
 have h:=firstE_at ms k hk hz hne
 rw [chk,if_neg (by omega),h,if_neg hne]
theorem chk_r (ms:List Gwy) (hn:ms.length≤6) (hz:∀ j,j < ms.length→(ms.getD j dm).e=0):chk ms=if risesB ms=true then 0 else 4:=by
 rw [chk,if_neg (by omega),firstE_zero ms hz,if_pos rfl]
theorem chk_4 (ms:List Gwy) (k:Nat) (hn:ms.length≤6) (hz:∀ j,j < ms.length→(ms.getD j dm).e=0) (hk:k+1 < ms.length) (hl:¬ ord (ms.getD k dm) (ms.getD (k+1) dm) < 0):chk ms=4:=by
 rw [chk_r ms hn hz,if_neg]
 intro h
 exact hl (rises_getO ms h k hk)
theorem chk_0 (ms:List Gwy) (hn:ms.length≤6) (hz:∀ j,j < ms.length→(ms.getD j dm).e=0) (hl:∀ j,j+1 < ms.length→ord (ms.getD j dm) (ms.getD (j+1) dm) < 0):chk ms=0:=by
 rw [chk_r ms hn hz,if_pos (rises_allO ms hl)]
theorem chk_zero {ms:List Gwy} (h:chk ms=0):ms.length≤6∧Rise ms∧firstE ms=0:=by
 unfold chk at h
 split at h
 ·omega
 ·split at h
  ·rename_i h1 h2
   split at h
   ·rename_i h3
    exact ⟨by omega,RL.rise_of ord keyed ms h3,h2⟩
   ·omega
  ·rename_i h1 h2;exact absurd h h2
theorem chk_of {ms:List Gwy} (h1:ms.length≤6) (h2:Rise ms) (h3:∀ m∈ms,m.e=0):chk ms=0:=by
 rw [chk,if_neg (by omega),firstE_all ms h3,if_pos rfl,if_pos (RL.rises_of ord ms h2)]
def chkTwo (a b:List Gwy):Int:=if chk a=0 then chk b else chk a
def stg (a b:List Gwy) (k:Nat):List Gwy:=if k=0 then [] else if k=1 then a else joinL a b
def joinE (a b:List Gwy):Int:=if chkTwo a b=0 then (if 6 < (joinL a b).length then 2 else 0) else chkTwo a b
end Gw
namespace Gw
open Go.RowKit
set_option maxHeartbeats 400000 in
theorem order_any (a b:Gwy) (w:World) :
 Calls Tryz.prog 150 #[.agg #[.string a.centre,.int .i64 a.addr,.int .i64 a.version],.agg #[.string b.centre,.int .i64 b.addr,.int .i64 b.version]] w fun e w'=>e=.returned (.int .i64 (ord a b))∧Below w.heap.size w w':=by
 go_enter Tryz.func150,Tryz.ntmps150
 go_wp2_with (go_at_call 115;refine (compare_any _ _ _).mono ?_;rintro e w' ⟨rfl,rfl⟩)
 go_ret
 exact ⟨rfl,((Below.refl _ _).alloc (Nat.le_refl _) _).alloc (by simp) _⟩
set_option maxHeartbeats 800000 in
theorem newerE_any (a b:Gwy) (w:World) :
 Calls Tryz.prog 213 #[.agg #[.string a.centre,.int .i64 a.addr,.int .i64 a.version],.agg #[.string b.centre,.int .i64 b.addr,.int .i64 b.version]] w fun e w'=>e=.returned (.bool (newE a b))∧Below w.heap.size w w':=by
 have hd:∀ a b:Gwy,newE a b=if a.version=b.version then decide (b.addr < a.addr) else decide (b.version < a.version):=fun a b=>by
  simp only [newE,newC,RL.lex]
  by_cases h:a.version=b.version
  ·rw [if_pos (by omega),if_pos h];congr 1;apply propext;omega
  ·rw [if_neg (by omega),if_neg h];congr 1;apply propext;omega
 have HD:Hid (newE a b=if a.version=b.version then decide (b.addr < a.addr) else decide (b.version < a.version)):=hd a b
 clear hd
 obtain ⟨ca,aa,va⟩:=a
 obtain ⟨cb,ab,vb⟩:=b
 by_cases h1:va=vb
 ·subst h1
  go_enter Tryz.func213,Tryz.ntmps213
  go_wp2
  go_ret
  exact ⟨ret_bool (by rw [HD.out];simp),((Below.refl _ _).alloc (Nat.le_refl _) _).alloc (by simp) _⟩
 ·have h1':(va != vb)=true:=by simpa using h1
  go_enter Tryz.func213,Tryz.ntmps213
  go_wp2
  go_ret
  exact ⟨ret_bool (by rw [HD.out];simp [h1]),((Below.refl _ _).alloc (Nat.le_refl _) _).alloc (by simp) _⟩
end Gw
namespace Gw
open Go.RowKit
set_option maxHeartbeats 800000 in
set_option maxRecDepth 100000 in
theorem rises_row (ms:List Gwy) (b off cap:Nat) (w:World) (hr:Row w b off ms) (hb:b < w.heap.size) (hn:ms.length≤6) :
 Calls Tryz.prog 149 #[.slice (some ⟨b,off,none⟩) ms.length cap,.func (.func 150) #[] #[]] w fun e w'=>e=.returned (.bool (risesB ms))∧Below w.heap.size w w':=by
 have HR:Hid (Row w b off ms):=hr
 clear hr
 have H4:Hid (∀ k,k+1 < ms.length→0≤ord (ms.getD k dm) (ms.getD (k+1) dm)→risesB ms=false):=fun k hk hl=>by
  rcases h:risesB ms with _ | _
  ·rfl
  ·have:=rises_getO ms h k hk;omega
 have H0:Hid ((∀ j,j+1 < ms.length→ord (ms.getD j dm) (ms.getD (j+1) dm) < 0)→risesB ms=true):=rises_allO ms
 generalize hN:ms.length=n at *
 have HN:Hid (ms.length=n):=hN
 clear hN
 generalize hC:risesB ms=res at *
 have HC:Hid (risesB ms=res):=hC
 clear hC
 go_enter Tryz.func149,Tryz.ntmps149
 go_wp2_with fail
 go_loopw [5] (fun i w'=>∃ k:Nat,(k+1≤n∨k=0)∧i=.int .i64 (k+1)∧Below w.heap.size w w'∧Hid (∀ j,j < k→ord (ms.getD j dm) (ms.getD (j+1) dm) < 0)) (fun i _=>n - (intOf i).toNat)
 case atStart=>exact ⟨0,.inr rfl,rfl,Below.refl _ _,fun j h=>absurd h (Nat.not_lt_zero _)⟩
 case round=>
  obtain ⟨q,hq,rfl,hbl,hz⟩:=hrel
  obtain ⟨hbc,hbf⟩:=bcell hbl
  have hsz:=hbl.size
  by_cases hlt:q+1 < n
  ·obtain ⟨c0,c1,c2⟩:=HR.out q (by rw [HN.out];omega)
   obtain ⟨d0,d1,d2⟩:=HR.out (q+1) (by rw [HN.out];exact hlt)
   have HK:Hid (0≤ord (ms.getD q dm) (ms.getD (q+1) dm)→res=false):=fun h=>H4.out q hlt h
   have HZ:Hid (ord (ms.getD q dm) (ms.getD (q+1) dm) < 0→∀ j,j < q+1→ord (ms.getD j dm) (ms.getD (j+1) dm) < 0):=fun h j hj=>by
    rcases Nat.lt_succ_iff_lt_or_eq.1 hj with h2 | rfl
    ·exact hz.out j h2
    ·exact h
   generalize ms.getD q dm=m1 at *
   generalize ms.getD (q+1) dm=m2 at *
   have hN:∀ d os,Calls Tryz.prog 150 #[.agg #[.string m1.centre,.int .i64 m1.addr,.int .i64 m1.version],.agg #[.string m2.centre,.int .i64 m2.addr,.int .i64 m2.version]] (Go.Sort.grow (redrawn wr d) os) fun e w''=>e=.returned (.int .i64 (ord m1 m2))∧∃ p:Regrown,w''=Go.Sort.grow (redrawn wr p.d) p.os:=fun d os=>Calls.regrown_of (order_any m1 m2 _)
   have F0:∀ d os,(Go.Sort.grow (redrawn wr d) os).cell? ⟨b,off+q * 3,none⟩=some (.string m1.centre):=cell_regrown ((hbc _ _ hb).trans c0)
   have F1:∀ d os,(Go.Sort.grow (redrawn wr d) os).cell? ⟨b,off+q * 3+1,none⟩=some (.int .i64 m1.addr):=cell_regrown ((hbc _ _ hb).trans c1)
   have F2:∀ d os,(Go.Sort.grow (redrawn wr d) os).cell? ⟨b,off+q * 3+2,none⟩=some (.int .i64 m1.version):=cell_regrown ((hbc _ _ hb).trans c2)
   have G0:∀ d os,(Go.Sort.grow (redrawn wr d) os).cell? ⟨b,off+(q+1) * 3,none⟩=some (.string m2.centre):=cell_regrown ((hbc _ _ hb).trans d0)
   have G1:∀ d os,(Go.Sort.grow (redrawn wr d) os).cell? ⟨b,off+(q+1) * 3+1,none⟩=some (.int .i64 m2.addr):=cell_regrown ((hbc _ _ hb).trans d1)
   have G2:∀ d os,(Go.Sort.grow (redrawn wr d) os).cell? ⟨b,off+(q+1) * 3+2,none⟩=some (.int .i64 m2.version):=cell_regrown ((hbc _ _ hb).trans d2)
   clear c0 c1 c2 d0 d1 d2 hbc hbf
   generalize ord m1 m2=r at *
   have hwq:IntKind.i64.wrap (q:Int)=(q:Int):=by rw [IntKind.wrap_i64];omega
   have hqn:q < n:=by omega
   have hq1:(q:Int)+1 < (n:Int):=by omega
   have hq0:(0:Int)≤(q:Int)+1:=by omega
   have htn:((q:Int)+1).toNat=q+1:=by omega
   by_cases hl:r < 0
   ·have hl2:¬ (0≤r):=by omega
    go_wp2_with fail
    refine wp_region_quiet_below (by kernel_rfl) (by kernel_rfl) ?_
    repeat (quiet_step (exact hN _ _))
    refine wpQuiet_nil ?_
    intro _ hw'
    obtain ⟨⟨dq,osq⟩,hw''⟩:=hw'
    subst hw''
    have HBQ:Hid (Below wr.heap.size wr (Go.Sort.grow (redrawn wr dq) osq)):=below_regrown wr dq osq
    clear hN F0 F1 F2 G0 G1 G2
    go_wp2_with fail
    go_roundw
    case rel=>exact ⟨q+1,.inl (by omega),by go_num,hbl.trans (HBQ.out.mono hsz),HZ.out hl⟩
    case measure=>simp [intOf];omega
   ·have hl2:0≤r:=by omega
    have h4:Hid (res=false):=HK.out hl2
    go_wp2_with fail
    refine wp_region_quiet_below (by kernel_rfl) (by kernel_rfl) ?_
    repeat (quiet_step (exact hN _ _))
    refine wpQuiet_nil ?_
    intro _ hw'
    obtain ⟨⟨dq,osq⟩,hw''⟩:=hw'
    subst hw''
    have HBQ:Hid (Below wr.heap.size wr (Go.Sort.grow (redrawn wr dq) osq)):=below_regrown wr dq osq
    clear hN F0 F1 F2 G0 G1 G2
    go_wp2_with fail
    go_ret
    exact ⟨ret_bool h4.out.symm,hbl.trans (HBQ.out.mono hsz)⟩
  ·have h0:Hid (res=true):=H0.out fun j hj=>hz.out j (by omega)
   go_wp2_with fail
   go_ret
   exact ⟨ret_bool h0.out.symm,hbl⟩
set_option maxHeartbeats 400000 in
theorem rises_none (a:Option Addr) (cap:Nat) (fv:Value) (w:World) :
 Calls Tryz.prog 149 #[.slice a 0 cap,fv] w fun e w'=>e=.returned (.bool true)∧w'=w:=by
 go_enter Tryz.func149,Tryz.ntmps149
 go_wp2_with fail
 go_loop [5] (fun i=>i=.int .i64 1) (fun _=>0)
 case atStart=>rfl
 case round=>
  subst hrel
  go_wp2_with fail
  go_ret
  exact ⟨rfl,rfl⟩
set_option maxHeartbeats 800000 in
theorem search_row (ms:List Gwy) (b off cap:Nat) (lk:Gwy) (w:World) (hr:Row w b off ms) (hb:b < w.heap.size) (hn:ms.length≤12)
 (hmono:∀ i j,i≤j→j < ms.length→ord (ms.getD j dm) lk < 0→ord (ms.getD i dm) lk < 0) :
 Calls Tryz.prog 237 #[.slice (some ⟨b,off,none⟩) ms.length cap,.agg #[.string lk.centre,.int .i64 lk.addr,.int .i64 lk.version],.func (.func 150) #[] #[]] w fun e w'=>∃ (p:Nat) (f:Bool),e=.returned (.tuple #[.int .i64 p,.bool f])∧Below w.heap.size w w' ∧
  p≤ms.length∧(∀ j,j < p→ord (ms.getD j dm) lk < 0)∧(∀ j,p≤j→j < ms.length→0≤ord (ms.getD j dm) lk)∧(f=true↔p < ms.length∧ord (ms.getD p dm) lk=0):=by
 have HR:Hid (Row w b off ms):=hr
 clear hr
 have HM:Hid (∀ i j,i≤j→j < ms.length→ord (ms.getD j dm) lk < 0→ord (ms.getD i dm) lk < 0):=hmono
 clear hmono
 generalize hN:ms.length=n at *
 have HN:Hid (ms.length=n):=hN
 clear hN
 go_enter Tryz.func237,Tryz.ntmps237
 go_wp2_with fail
 obtain ⟨W0,hW0⟩:∃ W0,W0=w.alloc (.cells #[.string lk.centre,.int .i64 lk.addr,.int .i64 lk.version] 122):=⟨_,rfl⟩
 have hb0:Below w.heap.size w W0:=by rw [hW0];exact (Below.refl _ _).alloc (Nat.le_refl _) _
 have hg0:W0.heap[w.heap.size]?=some (.cells #[.string lk.centre,.int .i64 lk.addr,.int .i64 lk.version] 122 (0,0)):=by rw [hW0];exact heap_alloc_new w _
 have hs0:W0.heap.size=w.heap.size+1:=by rw [hW0];simp
 have HR0:Hid (Row W0 b off ms):=HR.out.later hb0 hb
 have hT:∀ o,W0.cell? ⟨w.heap.size,o,none⟩=#[.string lk.centre,.int .i64 lk.addr,.int .i64 lk.version][o]?:=fun o=>cellsAt hg0 o
 have HT:Hid (∀ o,W0.cell? ⟨w.heap.size,o,none⟩=#[.string lk.centre,.int .i64 lk.addr,.int .i64 lk.version][o]?):=hT
 have HB0:Hid (Below w.heap.size w W0):=hb0
 have HW0:Hid (W0=w.alloc (.cells #[.string lk.centre,.int .i64 lk.addr,.int .i64 lk.version] 122)):=hW0
 clear hT hg0 hb0 HR hW0
 have hb':b < w.heap.size+1:=by omega
 go_loopw [9,10] (fun i j w'=>∃ k l:Nat,k≤l∧l≤n∧i=.int .i64 k∧j=.int .i64 l∧Below (w.heap.size+1) W0 w'∧Hid (∀ j,j < k→ord (ms.getD j dm) lk < 0)∧Hid (∀ j,l≤j→j < n→0≤ord (ms.getD j dm) lk)) (fun i j _=>(intOf j).toNat - (intOf i).toNat)
 case atStart=>exact ⟨0,n,Nat.zero_le _,Nat.le_refl _,rfl,rfl,by rw [HW0.out];exact Below.refl _ _,fun j h=>absurd h (Nat.not_lt_zero _),fun j h1 h2=>by omega⟩
 case round=>
  obtain ⟨k,l,hkl,hln,rfl,rfl,hbl,hlo,hhi⟩:=hrel
  have hsz:=hbl.size
  have hbc:∀ b o,b < w.heap.size+1→wr.cell? ⟨b,o,none⟩=W0.cell? ⟨b,o,none⟩:=fun b o h=>hbl.cell (p:=⟨b,o,none⟩) h
  have G0:∀ d os,(Go.Sort.grow (redrawn wr d) os).cell? ⟨w.heap.size,0,none⟩=some (.string lk.centre):=cell_regrown ((hbc _ _ (by omega)).trans (HT.out 0))
  have G1:∀ d os,(Go.Sort.grow (redrawn wr d) os).cell? ⟨w.heap.size,1,none⟩=some (.int .i64 lk.addr):=cell_regrown ((hbc _ _ (by omega)).trans (HT.out 1))
  have G2:∀ d os,(Go.Sort.grow (redrawn wr d) os).cell? ⟨w.heap.size,2,none⟩=some (.int .i64 lk.version):=cell_regrown ((hbc _ _ (by omega)).trans (HT.out 2))
  by_cases hlt:k < l
  ·obtain ⟨h,hh,h1,h2⟩:∃ h:Nat,((k:Int)+(l:Int)) / 2=(h:Int)∧k≤h∧h < l:=⟨(k+l) / 2,by omega,by omega,by omega⟩
   obtain ⟨c0,c1,c2⟩:=HR0.out h (by rw [HN.out];omega)
   have hm1:=HM.out
   have HK:Hid (ord (ms.getD h dm) lk < 0→∀ j,j < h+1→ord (ms.getD j dm) lk < 0):=fun hx j hj=>hm1 j h (by omega) (by omega) hx
   have HL:Hid (0≤ord (ms.getD h dm) lk→∀ j,h≤j→j < n→0≤ord (ms.getD j dm) lk):=fun hx j hj hjn=>by
    apply Int.not_lt.1
    intro hq
    have:=hm1 h j hj hjn hq
    omega
   clear hm1
   have hhn:h < n:=by omega
   generalize ms.getD h dm=m at *
   have hO:∀ d os,Calls Tryz.prog 150 #[.agg #[.string m.centre,.int .i64 m.addr,.int .i64 m.version],.agg #[.string lk.centre,.int .i64 lk.addr,.int .i64 lk.version]] (Go.Sort.grow (redrawn wr d) os) fun e w''=>e=.returned (.int .i64 (ord m lk))∧∃ p:Regrown,w''=Go.Sort.grow (redrawn wr p.d) p.os:=fun d os=>Calls.regrown_of (order_any m lk _)
   have F0:∀ d os,(Go.Sort.grow (redrawn wr d) os).cell? ⟨b,off+h * 3,none⟩=some (.string m.centre):=cell_regrown ((hbc _ _ hb').trans c0)
   have F1:∀ d os,(Go.Sort.grow (redrawn wr d) os).cell? ⟨b,off+h * 3+1,none⟩=some (.int .i64 m.addr):=cell_regrown ((hbc _ _ hb').trans c1)
   have F2:∀ d os,(Go.Sort.grow (redrawn wr d) os).cell? ⟨b,off+h * 3+2,none⟩=some (.int .i64 m.version):=cell_regrown ((hbc _ _ hb').trans c2)
   clear c0 c1 c2 hbc
   generalize ord m lk=r at *
   by_cases hlt2:r < 0
   ·go_wp2_with fail
    refine wp_region_quiet_below (by kernel_rfl) (by kernel_rfl) ?_
    repeat (quiet_step (exact hO _ _))
    refine wpQuiet_nil ?_
    intro _ hw'
    obtain ⟨⟨dq,osq⟩,hw''⟩:=hw'
    subst hw''
    have HBQ:Hid (Below wr.heap.size wr (Go.Sort.grow (redrawn wr dq) osq)):=below_regrown wr dq osq
    clear hO F0 F1 F2 G0 G1 G2
    go_wp2_with fail
    exact ⟨⟨h+1,l,by omega,by omega,by go_num,rfl,hbl.trans (HBQ.out.mono (by omega)),HK.out hlt2,hhi⟩,by simp [intOf];omega⟩
   ·have hlt3:0≤r:=by omega
    go_wp2_with fail
    refine wp_region_quiet_below (by kernel_rfl) (by kernel_rfl) ?_
    repeat (quiet_step (exact hO _ _))
    refine wpQuiet_nil ?_
    intro _ hw'
    obtain ⟨⟨dq,osq⟩,hw''⟩:=hw'
    subst hw''
    have HBQ:Hid (Below wr.heap.size wr (Go.Sort.grow (redrawn wr dq) osq)):=below_regrown wr dq osq
    clear hO F0 F1 F2 G0 G1 G2
    go_wp2_with fail
    exact ⟨⟨k,h,by omega,by omega,rfl,rfl,hbl.trans (HBQ.out.mono (by omega)),hlo,HL.out hlt3⟩,by simp [intOf];omega⟩
  ·have hkl':l=k:=by omega
   subst hkl'
   by_cases hkn:l < n
   ·obtain ⟨c0,c1,c2⟩:=HR0.out l (by rw [HN.out];omega)
    generalize hm:ms.getD l dm=m at *
    have Hm:Hid (ms.getD l dm=m):=hm
    clear hm
    have hO:∀ d os,Calls Tryz.prog 150 #[.agg #[.string m.centre,.int .i64 m.addr,.int .i64 m.version],.agg #[.string lk.centre,.int .i64 lk.addr,.int .i64 lk.version]] (Go.Sort.grow (redrawn wr d) os) fun e w''=>e=.returned (.int .i64 (ord m lk))∧∃ p:Regrown,w''=Go.Sort.grow (redrawn wr p.d) p.os:=fun d os=>Calls.regrown_of (order_any m lk _)
    have F0:∀ d os,(Go.Sort.grow (redrawn wr d) os).cell? ⟨b,off+l * 3,none⟩=some (.string m.centre):=cell_regrown ((hbc _ _ hb').trans c0)
    have F1:∀ d os,(Go.Sort.grow (redrawn wr d) os).cell? ⟨b,off+l * 3+1,none⟩=some (.int .i64 m.addr):=cell_regrown ((hbc _ _ hb').trans c1)
    have F2:∀ d os,(Go.Sort.grow (redrawn wr d) os).cell? ⟨b,off+l * 3+2,none⟩=some (.int .i64 m.version):=cell_regrown ((hbc _ _ hb').trans c2)
    clear c0 c1 c2 hbc
    generalize hrr:ord m lk=r at *
    have Hr:Hid (ord m lk=r):=hrr
    clear hrr
    go_wp2_with fail
    refine wp_region_quiet_below (by kernel_rfl) (by kernel_rfl) ?_
    repeat (quiet_step (exact hO _ _))
    refine wpQuiet_nil ?_
    intro _ hw'
    obtain ⟨⟨dq,osq⟩,hw''⟩:=hw'
    subst hw''
    have HBQ:Hid (Below wr.heap.size wr (Go.Sort.grow (redrawn wr dq) osq)):=below_regrown wr dq osq
    clear hO F0 F1 F2 G0 G1 G2
    go_wp2_with fail
    go_ret2
    refine ⟨l,_,rfl,HB0.out.trans ((hbl.trans (HBQ.out.mono (by omega))).mono (by omega)),by omega,hlo.out,hhi.out,?_⟩
    rw [Hm.out,Hr.out]
    simp [hkn]
   ·clear G0 G1 G2
    have hkd:decide ((l:Int) < (n:Int))=false:=by simp;omega
    go_wp2_with fail
    go_quiet (fail)
    go_wp2_with fail
    go_ret2
    refine ⟨l,_,rfl,HB0.out.trans ((below_drewN hbl _).mono (by omega)),by omega,hlo.out,hhi.out,?_⟩
    simp [hkn]
set_option maxHeartbeats 800000 in
theorem search_none (a:Option Addr) (cap:Nat) (lk:Gwy) (fv:Value) (w:World) :
 Calls Tryz.prog 237 #[.slice a 0 cap,.agg #[.string lk.centre,.int .i64 lk.addr,.int .i64 lk.version],fv] w fun e w'=>e=.returned (.tuple #[.int .i64 0,.bool false])∧Below w.heap.size w w':=by
 go_enter Tryz.func237,Tryz.ntmps237
 go_wp2_with fail
 go_loop [9,10] (fun i j=>i=.int .i64 0∧j=.int .i64 0) (fun _ _=>0)
 case atStart=>exact ⟨rfl,rfl⟩
 case round=>
  obtain ⟨rfl,rfl⟩:=hrel
  go_wp2_with fail
  go_quiet (fail)
  go_wp2_with fail
  go_ret2
  exact ⟨rfl,below_drewN ((Below.refl _ _).alloc (Nat.le_refl _) _) _⟩
theorem bsearch_any (ms:List Gwy) (v:Value) (lk:Gwy) (w:World) (h:Sl w v ms) (hn:ms.length≤12)
 (hmono:∀ i j,i≤j→j < ms.length→ord (ms.getD j dm) lk < 0→ord (ms.getD i dm) lk < 0) :
 Calls Tryz.prog 237 #[v,.agg #[.string lk.centre,.int .i64 lk.addr,.int .i64 lk.version],.func (.func 150) #[] #[]] w fun e w'=>∃ (p:Nat) (f:Bool),e=.returned (.tuple #[.int .i64 p,.bool f])∧Below w.heap.size w w'∧At ms lk p f:=by
 obtain ⟨a,cap,rfl,hs,h⟩:=h
 rcases h with rfl | ⟨b,off,rfl,hb,hr⟩
 ·refine (search_none a cap lk _ w).mono ?_
  rintro e w' ⟨rfl,hb⟩
  exact ⟨0,false,rfl,hb,⟨by simp,fun j h=>by omega,fun j h h2=>by simp at h2,by simp⟩⟩
 ·refine (search_row ms b off cap lk w hr hb hn hmono).mono ?_
  rintro e w' ⟨p,f,rfl,hbl,g1,g2,g3,g4⟩
  exact ⟨p,f,rfl,hbl,⟨g1,g2,g3,g4⟩⟩
set_option maxHeartbeats 400000 in
theorem find_any (ms:List Gwy) (v:Value) (lk:Gwy) (w:World) (h:Sl w v ms) (hn:ms.length≤12) (hr:Rise ms) :
 Calls Tryz.prog 220 #[v,.agg #[.string lk.centre,.int .i64 lk.addr,.int .i64 lk.version],.func (.func 150) #[] #[]] w fun e w'=>∃ (p:Nat) (f:Bool),e=.returned (.tuple #[.int .i64 p,.bool f])∧Below w.heap.size w w'∧At ms lk p f:=by
 have HC:Hid (∀ w',Below w.heap.size w w'→Calls Tryz.prog 237 #[v,.agg #[.string lk.centre,.int .i64 lk.addr,.int .i64 lk.version],.func (.func 150) #[] #[]] w' fun e w''=>∃ (p:Nat) (f:Bool),e=.returned (.tuple #[.int .i64 p,.bool f])∧Below w'.heap.size w' w''∧At ms lk p f):=
  fun w' hb=>bsearch_any ms v lk w' (h.below hb) hn (rise_mono hr lk)
 clear h hn hr
 go_enter Tryz.func220,Tryz.ntmps220
 go_wp2_with (go_at_call 237;refine (HC.out _ ?hb).mono ?_)
 case hb=>exact (Below.refl _ _).alloc (Nat.le_refl _) _
 rintro e w' ⟨p,f,rfl,hbl,hat⟩
 have HAT:Hid (At ms lk p f):=hat
 clear hat
 go_wp2_with fail
 go_ret2
 exact ⟨p,f,rfl,((Below.refl _ _).alloc (Nat.le_refl _) _).trans (hbl.mono (by simp)),HAT.out⟩
end Gw
namespace Gw
open Go.RowKit
set_option maxHeartbeats 800000 in
theorem clone_any (ms:List Gwy) (v:Value) (w:World) (h:Sl w v ms) (hn:ms.length≤1000) :
 Calls Tryz.prog 119 #[v] w fun e w'=>∃ v',e=.returned v'∧Own w.heap.size w' v' ms∧Below w.heap.size w w':=by
 obtain ⟨a,cap,rfl,hs,h⟩:=h
 obtain ⟨i0,hi0,hz0,hzs,hzb⟩:=info_parts Tryz.info122
 cases a with
 | none=>
   have he:ms=[]:=by
    rcases h with h | ⟨b,off,h,_⟩
    ·exact h
    ·cases h
   subst he
   clear h hs
   have hnil:=fun (w:World)=>Lib.run_eql_slice_nil (P:=Tryz.prog) w 25 122 none 0 cap 0 0 Tryz.underlying25
   simp only [List.length_nil,Option.isNone_none] at hnil ⊢
   go_enter Tryz.func119,Tryz.ntmps119
   go_wp2_with fail
   go_ret
   exact ⟨_,rfl,own_nil _ _,Below.refl _ _⟩
 | some a=>
   have hnil:=fun (w:World)=>Lib.run_eql_slice_nil (P:=Tryz.prog) w 25 122 (some a) ms.length cap 0 0 Tryz.underlying25
   simp only [Option.isNone_some] at hnil
   have hnews:Hid (∀ j u,(fl ms)[j]?=some u→(w.alloc (.cells #[] 122)).cell? (a.add j)=some u):=by
    intro j u hj
    rcases h with h | ⟨b,off,h,hb,hr⟩
    ·subst h;simp [fl] at hj
    ·cases h
     have hjl:j < ms.length * 3:=by rw [← fl_len];exact (List.getElem?_eq_some_iff.1 hj).1
     have h1:=fl_get ms (j / 3) (by omega) (j%3) (by omega)
     rw [show j / 3 * 3+j%3=j by omega,hj] at h1
     rw [Addr.add_lit,World.cell?_alloc_past (w:=w) _ b _ hb]
     obtain ⟨c0,c1,c2⟩:=hr (j / 3) (by omega)
     have hcs:j%3=0∨j%3=1∨j%3=2:=by omega
     rcases hcs with e | e | e
     ·rw [show off+j=off+j / 3 * 3 by omega,c0];rw [e] at h1;simpa [Gwy.cs] using h1.symm
     ·rw [show off+j=off+j / 3 * 3+1 by omega,c1];rw [e] at h1;simpa [Gwy.cs] using h1.symm
     ·rw [show off+j=off+j / 3 * 3+2 by omega,c2];rw [e] at h1;simpa [Gwy.cs] using h1.symm
   have HO:Hid ((w.alloc (.cells #[] 122)).ownsRow w.heap.size 122 3 (.slice (some ⟨w.heap.size,0,none⟩) 0 0) 0 []):=World.ownsRow_made w #[] 0 (Nat.le_refl _) (by unfold maxLen;omega) rfl
   clear h hs
   go_enter Tryz.func119,Tryz.ntmps119
   go_wp2_with (at_builtin;refine wpList_append_own _ rfl _ _ 25 rfl w.heap.size 122 i0 _ 3 32 Tryz.underlying25 hi0 hz0 hzs hzb rfl (by omega) _ 0 [] rfl HO.out a ms.length cap (fl ms) rfl (fl_len ms) hnews.out (fl_one ms) (by unfold maxLen;omega) (by omega) (by simp) ?_)
   intro v' w' r1 r2 r3
   go_wp2_with fail
   go_ret
   refine ⟨v',rfl,?_,?_⟩
   ·simpa using r1
   ·exact ((Below.refl _ _).alloc (Nat.le_refl _) _).grown r2 (by simp) (fun k hk=>by simp [Value.ownBlock] at hk;omega)
end Gw
namespace Gw
open Go.ChangeShapes Go.WideShapes Go.ChangeAt Go.RowKit
section
variable {H:Type} {enc:TypeId × Value→H} {w:World} {base:Nat} {spare:Nat→Bool} {held:Bool}
theorem Tryz.kcT:Tryz.prog.cellsOf 122=3:=by kernel_rfl
theorem Tryz.kc9:Tryz.prog.cellsOf 9=1:=by kernel_rfl
theorem Tryz.kc3:Tryz.prog.cellsOf 3=1:=by kernel_rfl
theorem Tryz.kc4:Tryz.prog.cellsOf 4=1:=by kernel_rfl
set_option maxRecDepth 100000 in
theorem elT_of_trod {fuel:Nat} {cs:List Value} {x:DataW H × List MemPlace} (h:DataW.trod enc Tryz.prog w base spare held fuel 122 cs=some x) :
 ∃ m:Gwy,cs=[.string m.centre,.int .i64 m.addr,.int .i64 m.version]∧(m).ok:=by
 obtain ⟨xs,n,_,_,hl,hlen,hf⟩:=DataW.trod_struct Tryz.underlying122 h
 rw [Tryz.kcT] at hl
 match cs,hl with
 | [c0,c1,c2],_=>
   match xs,hlen with
   | [y0,y1,y2],_=>
     have h0:=hf 0 _ rfl
     have h1:=hf 1 _ rfl
     have h2:=hf 2 _ rfl
     simp [Tryz.kc9] at h0
     simp [Tryz.kc3] at h1
     simp [Tryz.kc3] at h2
     obtain ⟨z0,e0,_,g0⟩:=DataW.trod_string Tryz.underlying9 h0
     obtain ⟨z1,e1,_⟩:=DataW.trod_int Tryz.underlying3 h1
     obtain ⟨z2,e2,_⟩:=DataW.trod_int Tryz.underlying3 h2
     simp only [List.cons.injEq,and_true] at e0 e1 e2
     subst e0 e1 e2
     exact ⟨⟨z0,z1,z2⟩,rfl,g0⟩
set_option maxRecDepth 100000 in
theorem elsT_of_trod {fuel:Nat} {cs:List Value} {x:DataW H × List MemPlace} (h:DataW.trod enc Tryz.prog w base spare held fuel 25 cs=some x) :
 ∃ (p:Option Addr) (n c:Nat) (ms:List Gwy),cs=[.slice p n c]∧Sl w (.slice p n c) ms∧ms.length≤maxLen:=by
 rcases Go.Deep.open_slice Tryz.underlying25 h with ⟨hcs,_⟩ | ⟨x,len,cap,m,n,D,Pl,hcs,hb,hl,hm,hmm,_,hx⟩
 ·exact ⟨none,0,0,[],hcs,⟨none,0,rfl,ns_get (by simp),.inl rfl⟩,by simp⟩
 ·have hlm:len≤m:=by rw [hmm];split<;>omega
  have hall:∀ i,i < len→∃ q:Gwy,(∀ t,t < 3→w.cell? (x.add (i * 3+t))=q.cs[t]?)∧(q).ok:=fun i hi=>by
   obtain ⟨cs',h1,h2⟩:=hx i (by omega)
   obtain ⟨q,hq,hs⟩:=elT_of_trod h2
   rw [Tryz.kcT] at h1
   obtain ⟨_,_,h3⟩:=World.cells?_some h1
   refine ⟨q,fun t ht=>?_,hs⟩
   rw [← Go.Deep.add_add,h3 t ht,hq]
   rfl
  have hinh:Inhabited Gwy:=⟨dm⟩
  obtain ⟨F,hF⟩:=Go.Deep.choose_lt (α:=Gwy) (p:=fun i q=>(∀ t,t < 3→w.cell? (x.add (i * 3+t))=q.cs[t]?)∧(q).ok) hall
  have hget:∀ j,j < len→((List.range len).map F).getD j dm=F j:=fun j hj=>by simp [List.getD,hj]
  refine ⟨some x,len,cap,(List.range len).map F,hcs,⟨some x,cap,by simp,ns_get (fun q hq=>?_),?_⟩,by simp;omega⟩
  ·obtain ⟨j,hj,rfl⟩:=List.mem_map.1 hq
   exact (hF j (List.mem_range.1 hj)).2
  ·by_cases h0:len=0
   ·left;simp [h0]
   ·right
    obtain ⟨b,off,spot⟩:=x
    have hc0:=(hF 0 (by omega)).1 0 (by omega)
    have hspot:spot=none:=by simpa [Addr.add] using World.cell?_spot hc0
    subst hspot
    have hcell:∀ j,j < len→∀ t,t < 3→w.cell? ⟨b,off+j * 3+t,none⟩=(F j).cs[t]?:=fun j hj t ht=>by
     have:=(hF j hj).1 t ht
     rwa [Go.WideShapes.add_plain,← Nat.add_assoc] at this
    refine ⟨b,off,rfl,World.block_lt_of_cell? w ⟨b,off+0 * 3+0,none⟩ (hcell 0 (by omega) 0 (by omega)),fun j hj=>?_⟩
    have hj':j < len:=by simpa using hj
    rw [hget j hj']
    exact ⟨hcell j hj' 0 (by omega),hcell j hj' 1 (by omega),hcell j hj' 2 (by omega)⟩
end
end Gw
end Go.Proofs.YtikgjgmgbfjcgaaGreat
