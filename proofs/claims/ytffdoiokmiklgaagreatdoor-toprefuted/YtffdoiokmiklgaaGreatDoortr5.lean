import Derived.Test.YtffdoiokmiklgaaGreatDoortr1
namespace Go.Proofs.YtffdoiokmiklgaaGreatDoor
open Go.RowKit
structure Mem where
 name:ByteArray
 state:Int
 life:Int
 addr:Int
 server:Bool
def dm:Mem:=⟨ByteArray.empty,0,0,0,false⟩
def Row (w:World) (b off:Nat) (ms:List Mem):Prop:=∀ j,j < ms.length →
 w.cell? ⟨b,off+j * 5,none⟩=some (.string (ms.getD j dm).name)∧w.cell? ⟨b,off+j * 5+1,none⟩=some (.int .i64 (ms.getD j dm).state)∧w.cell? ⟨b,off+j * 5+2,none⟩=some (.int .i64 (ms.getD j dm).life)∧w.cell? ⟨b,off+j * 5+3,none⟩=some (.int .i64 (ms.getD j dm).addr)∧w.cell? ⟨b,off+j * 5+4,none⟩=some (.bool (ms.getD j dm).server)
def Sl (w:World) (v:Value) (ms:List Mem):Prop:=
 ∃ (a:Option Addr) (cap:Nat),v=.slice a ms.length cap∧(∀ j,(ms.getD j dm).name.size≤maxLen) ∧
  (ms=[]∨∃ b off,a=some ⟨b,off,none⟩∧b < w.heap.size∧Row w b off ms)
def Mem.cs (m:Mem):List Value:=[.string m.name,.int .i64 m.state,.int .i64 m.life,.int .i64 m.addr,.bool m.server]
def fl (ms:List Mem):List Value:=ms.flatMap Mem.cs
theorem cs_len (m:Mem):m.cs.length=5:=rfl
theorem fl_cons (m:Mem) (r:List Mem):fl (m :: r)=m.cs++fl r:=by simp [fl]
theorem fl_append (a b:List Mem):fl (a++b)=fl a++fl b:=by simp [fl]
theorem fl_len:∀ ms:List Mem,(fl ms).length=ms.length * 5
 | []=>rfl
 | m :: r=>by rw [fl_cons,List.length_append,fl_len r,cs_len,List.length_cons];omega
theorem fl_take:∀ (ms:List Mem) (i:Nat),(fl ms).take (i * 5)=fl (ms.take i)
 | [],i=>by simp [fl]
 | m :: r,0=>by simp [fl]
 | m :: r,i+1=>by
   rw [fl_cons,List.take_succ_cons,fl_cons,show (i+1) * 5=m.cs.length+i * 5 by rw [cs_len];omega,List.take_length_add_append,fl_take r i]
theorem fl_drop:∀ (ms:List Mem) (i:Nat),(fl ms).drop (i * 5)=fl (ms.drop i)
 | [],i=>by simp [fl]
 | m :: r,0=>by simp
 | m :: r,i+1=>by
   rw [fl_cons,List.drop_succ_cons,show (i+1) * 5=m.cs.length+i * 5 by rw [cs_len];omega,List.drop_length_add_append,fl_drop r i]
theorem cs_one (m:Mem):∀ v∈m.cs,v.oneCell'=true:=by
 intro v hv;simp [Mem.cs] at hv;rcases hv with rfl | rfl | rfl | rfl | rfl<;>rfl
theorem fl_one (ms:List Mem):∀ v∈fl ms,v.oneCell'=true:=by
 intro v hv
 obtain ⟨m,_,h⟩:=List.mem_flatMap.1 hv
 exact cs_one m v h
theorem fl_get (ms:List Mem) (j:Nat) (hj:j < ms.length) (t:Nat) (ht:t < 5):(fl ms)[j * 5+t]?=(ms.getD j dm).cs[t]?:=by
 induction ms generalizing j with
 | nil=>simp at hj
 | cons m r ih=>
   rw [fl_cons]
   cases j with
   | zero=>rw [List.getElem?_append_left (by rw [cs_len];omega)];simp
   | succ j=>
     rw [List.getElem?_append_right (by rw [cs_len];omega),cs_len,show (j+1) * 5+t - 5=j * 5+t by omega,ih j (by simpa using hj)]
     simp
theorem fl_set (ms:List Mem) (p:Nat) (hp:p < ms.length) (m:Mem):((((((fl ms).set (p * 5) (.string m.name)).set (p * 5+1) (.int .i64 m.state)).set (p * 5+2) (.int .i64 m.life)).set (p * 5+3) (.int .i64 m.addr)).set (p * 5+4) (.bool m.server))=fl (ms.set p m):=by
 induction ms generalizing p with
 | nil=>simp at hp
 | cons x r ih=>
   cases p with
   | zero=>simp [fl,Mem.cs]
   | succ p=>
     have ih':=ih p (by simpa using hp)
     rw [List.set_cons_succ,fl_cons,fl_cons,← ih']
     simp only [Nat.add_mul,Nat.one_mul]
     have e:∀ (l:List Value) (k:Nat) (v:Value),(x.cs++l).set (k+5) v=x.cs++l.set k v:=fun l k v=>by
      rw [List.set_append,if_neg (by rw [cs_len];omega),cs_len,Nat.add_sub_cancel]
     have c:∀ i:Nat,p * 5+5+i=(p * 5+i)+5:=fun i=>by omega
     simp only [c]
     rw [e,e,e,e,e]
abbrev Own (base:Nat) (w:World) (v:Value) (ms:List Mem):Prop:=w.ownsRow base 56 5 v ms.length (fl ms)
theorem own_of {base g G:Nat} {w:World} {cur:Array Value} {ms:List Mem} (hb:base≤g) (hg:w.heap[g]?=some (.cells cur 56 (0,0))) (hs:cur.size=G * 5) (hn:ms.length≤G) (hG:G≤maxLen) (ht:cur.toList.take (ms.length * 5)=fl ms) :
 Own base w (.slice (some ⟨g,0,none⟩) ms.length G) ms:=⟨fl_len ms,.inr ⟨g,G,cur,rfl,hb,hg,hn,hG,hs,ht⟩⟩
theorem Own.sl {base:Nat} {w:World} {v:Value} {ms:List Mem} (h:Own base w v ms) (hs:∀ j,(ms.getD j dm).name.size≤maxLen):Sl w v ms:=by
 rcases h.2 with ⟨rfl,h0⟩ | ⟨g,c,cur,rfl,hbg,hg,hnc,hcm,hcs,htake⟩
 ·exact ⟨none,0,by rw [h0],hs,.inl (List.eq_nil_of_length_eq_zero h0)⟩
 ·refine ⟨_,c,rfl,hs,.inr ⟨g,0,rfl,(Array.getElem?_eq_some_iff.1 hg).1,fun j hj=>?_⟩⟩
  have hc:∀ t,t < 5→w.cell? ⟨g,0+j * 5+t,none⟩=(ms.getD j dm).cs[t]?:=fun t ht=>by
   rw [cellsAt hg,← fl_get ms j hj t ht,← htake,List.getElem?_take_of_lt (by omega)];simp
  exact ⟨hc 0 (by omega),hc 1 (by omega),hc 2 (by omega),hc 3 (by omega),hc 4 (by omega)⟩
theorem Own.below {base:Nat} {w w':World} {v:Value} {ms:List Mem} (h:Own base w v ms) (hb:Below w.heap.size w w'):Own base w' v ms:=by
 rcases h.2 with ⟨rfl,h0⟩ | ⟨g,c,cur,rfl,hbg,hg,hnc,hcm,hcs,htake⟩
 ·exact ⟨h.1,.inl ⟨rfl,h0⟩⟩
 ·have hlt:g < w.heap.size:=(Array.getElem?_eq_some_iff.1 hg).1
  exact ⟨h.1,.inr ⟨g,c,cur,rfl,hbg,(hb.block g hlt).trans hg,hnc,hcm,hcs,htake⟩⟩
theorem Own.lt {base:Nat} {w:World} {v:Value} {ms:List Mem} (h:Own base w v ms) (k:Nat) (hk:v.ownBlock=some k):base≤k∧k < w.heap.size:=World.ownsRow.lt h k hk
theorem below_grown {base:Nat} {w w1 w2:World} {v:Value} {ms:List Mem} (hb:Below base w w1) (h:Own base w1 v ms) (hg:w1.grownBy w2 v.ownBlock) (hbase:base≤w1.heap.size):Below base w w2:=
 hb.grown hg hbase (fun k hk=>(h.lt k hk).1)
theorem own_cells {base g c:Nat} {w:World} {ms:List Mem} (h:Own base w (.slice (some ⟨g,0,none⟩) ms.length c) ms) (j:Nat) (hj:j < ms.length) :
 w.cell? ⟨g,j * 5,none⟩=some (.string (ms.getD j dm).name)∧w.cell? ⟨g,j * 5+1,none⟩=some (.int .i64 (ms.getD j dm).state)∧w.cell? ⟨g,j * 5+2,none⟩=some (.int .i64 (ms.getD j dm).life)∧w.cell? ⟨g,j * 5+3,none⟩=some (.int .i64 (ms.getD j dm).addr)∧w.cell? ⟨g,j * 5+4,none⟩=some (.bool (ms.getD j dm).server):=by
 rcases h.2 with ⟨h1,_⟩ | ⟨g',c',cur,h1,hbg,hg,hnc,hcm,hcs,htake⟩
 ·cases h1
 ·simp only [Value.slice.injEq,Option.some.injEq,Addr.mk.injEq] at h1
  obtain ⟨⟨rfl,_,_⟩,_,_⟩:=h1
  have hc:∀ t,t < 5→w.cell? ⟨g,j * 5+t,none⟩=(ms.getD j dm).cs[t]?:=fun t ht=>by
   rw [cellsAt hg,← fl_get ms j hj t ht,← htake,List.getElem?_take_of_lt (by omega)];simp
  exact ⟨hc 0 (by omega),hc 1 (by omega),hc 2 (by omega),hc 3 (by omega),hc 4 (by omega)⟩
theorem own_form {base:Nat} {w:World} {v:Value} {ms:List Mem} (h:Own base w v ms) (p:Nat) (hp:p < ms.length):∃ g c,v=.slice (some ⟨g,0,none⟩) ms.length c:=by
 rcases h.2 with ⟨_,h0⟩ | ⟨g,c,cur,h1,_⟩
 ·omega
 ·exact ⟨g,c,h1⟩
theorem own_set {base g c p:Nat} {W:World} {ms:List Mem} (h:Own base W (.slice (some ⟨g,0,none⟩) ms.length c) ms) (hp:p < ms.length) (m:Mem) :
 Own base (((((W.setCell ⟨g,p * 5,none⟩ (.string m.name)).setCell ⟨g,p * 5+1,none⟩ (.int .i64 m.state)).setCell ⟨g,p * 5+2,none⟩ (.int .i64 m.life)).setCell ⟨g,p * 5+3,none⟩ (.int .i64 m.addr)).setCell ⟨g,p * 5+4,none⟩ (.bool m.server)) (.slice (some ⟨g,0,none⟩) ms.length c) (ms.set p m):=by
 have h1:=World.ownsRow.stored h (p * 5) (.string m.name)
 have h2:=World.ownsRow.stored h1.1 (p * 5+1) (.int .i64 m.state)
 have h3:=World.ownsRow.stored h2.1 (p * 5+2) (.int .i64 m.life)
 have h4:=World.ownsRow.stored h3.1 (p * 5+3) (.int .i64 m.addr)
 have h5:=World.ownsRow.stored h4.1 (p * 5+4) (.bool m.server)
 have e:=h5.1
 rw [fl_set ms p hp m] at e
 show World.ownsRow _ _ _ _ _ (ms.set p m).length _
 rw [List.length_set]
 exact e
theorem Sl.below {w w':World} {v:Value} {ms:List Mem} (h:Sl w v ms) (hb:Below w.heap.size w w'):Sl w' v ms:=by
 obtain ⟨a,cap,rfl,hs,h⟩:=h
 refine ⟨a,cap,rfl,hs,?_⟩
 rcases h with h | ⟨b,off,rfl,hlt,hr⟩
 ·exact .inl h
 ·refine .inr ⟨b,off,rfl,Nat.lt_of_lt_of_le hlt hb.size,fun j hj=>?_⟩
  obtain ⟨hc,_⟩:=bcell hb
  obtain ⟨c0,c1,c2,c3,c4⟩:=hr j hj
  exact ⟨(hc _ _ hlt).trans c0,(hc _ _ hlt).trans c1,(hc _ _ hlt).trans c2,(hc _ _ hlt).trans c3,(hc _ _ hlt).trans c4⟩
theorem Row.later {w w':World} {b off:Nat} {ms:List Mem} (hr:Row w b off ms) (hb:Below w.heap.size w w') (hlt:b < w.heap.size):Row w' b off ms:=fun j hj=>by
 obtain ⟨hc,_⟩:=bcell hb
 obtain ⟨c0,c1,c2,c3,c4⟩:=hr j hj
 exact ⟨(hc _ _ hlt).trans c0,(hc _ _ hlt).trans c1,(hc _ _ hlt).trans c2,(hc _ _ hlt).trans c3,(hc _ _ hlt).trans c4⟩
theorem Own.mono {base base':Nat} {w:World} {v:Value} {ms:List Mem} (h:Own base w v ms) (hb:base'≤base):Own base' w v ms:=by
 rcases h.2 with ⟨rfl,h0⟩ | ⟨g,c,cur,rfl,hbg,hg,hnc,hcm,hcs,htake⟩
 ·exact ⟨h.1,.inl ⟨rfl,h0⟩⟩
 ·exact ⟨h.1,.inr ⟨g,c,cur,rfl,Nat.le_trans hb hbg,hg,hnc,hcm,hcs,htake⟩⟩
theorem own_nil (base:Nat) (w:World):Own base w (.slice none 0 0) []:=World.ownsRow_nil w base 56 5
theorem ns_mem {ms:List Mem} (h:∀ j,(ms.getD j dm).name.size≤maxLen):∀ m∈ms,(m).name.size≤maxLen:=by
 intro m hm
 obtain ⟨j,hj,rfl⟩:=List.getElem_of_mem hm
 have:=h j
 simpa [List.getD,List.getElem?_eq_getElem hj] using this
theorem ns_get {ms:List Mem} (h:∀ m∈ms,(m).name.size≤maxLen):∀ j,(ms.getD j dm).name.size≤maxLen:=by
 intro j
 by_cases hj:j < ms.length
 ·have:=h ms[j] (List.getElem_mem hj)
  simpa [List.getD,List.getElem?_eq_getElem hj] using this
 ·simp [List.getD,List.getElem?_eq_none (Nat.le_of_not_lt hj),dm]
theorem own_names {base:Nat} {w:World} {v:Value} {ms:List Mem} (h:Own base w v ms) (hs:∀ m∈ms,(m).name.size≤maxLen):Sl w v ms:=h.sl (ns_get hs)
theorem sl_one (w:World) (b cap:Nat) (m:Mem) (hm:(m).name.size≤maxLen) (hg:w.heap[b]?=some (.cells #[.string m.name,.int .i64 m.state,.int .i64 m.life,.int .i64 m.addr,.bool m.server] 56 (0,0))):Sl w (.slice (some ⟨b,0,none⟩) 1 cap) [m]:=by
 refine ⟨_,cap,rfl,ns_get (fun x hx=>by simp at hx;subst hx;exact hm),.inr ⟨b,0,rfl,(Array.getElem?_eq_some_iff.1 hg).1,fun j hj=>?_⟩⟩
 have:j=0:=by simpa using hj
 subst this
 exact ⟨cellsAt hg (0+0 * 5),cellsAt hg (0+0 * 5+1),cellsAt hg (0+0 * 5+2),cellsAt hg (0+0 * 5+3),cellsAt hg (0+0 * 5+4)⟩
theorem own_snoc {base:Nat} {w:World} {v:Value} {L:List Mem} {m:Mem} (h:w.ownsRow base 56 5 v (L.length+1) (fl L++m.cs)):Own base w v (L++[m]):=by
 have e:fl (L++[m])=fl L++m.cs:=by rw [fl_append,fl_cons];simp [fl]
 show w.ownsRow base 56 5 v (L++[m]).length (fl (L++[m]))
 rw [e,List.length_append]
 exact h
theorem Tryz.info56:(Tryz.prog.info? 56).map (fun i=>(i.zero,i.size,i.bytes))=some (some (.agg #[.string ⟨#[]⟩,.int .i64 0,.int .i64 0,.int .i64 0,.bool false]),5,48):=by kernel_rfl
theorem size56:(Tryz.prog.info? 56).map (·.size)=some 5:=by
 obtain ⟨i,hi,h1,h2,h3⟩:=info_parts Tryz.info56
 rw [hi];simp [h2]
theorem sizeOf56 (w:World):(Go.sizeOf 56).run Tryz.prog w=.ok 5 w:=by
 obtain ⟨i,hi,h1,h2,h3⟩:=info_parts Tryz.info56
 simp [Go.sizeOf,typeInfo,hi,h2]
theorem overlaps_run (w:World) (g vb o lb cb:Nat) (cur vs:Array Value) (hg:w.heap[g]?=some (.cells cur 56 (0,0))) (hv:w.heap[vb]?=some (.cells vs 56 (0,0))) (hne:vb≠g) (hk:cur.size≠0) :
 (callFunc 305 #[.slice (some ⟨vb,0,none⟩) 1 1,.slice (some ⟨g,o,none⟩) lb cb]).run Tryz.prog w=.ok (.value (.bool false)) w:=by
 rw [run_callFunc_extern Tryz.func305 (by kernel_rfl) (by kernel_rfl) (by kernel_rfl) (e:=Extern.SlicesOverlaps.overlaps #[45,45] #[4]) (by kernel_rfl),
  Lib.run_overlaps_apart w 45 4 56 Tryz.underlying45 5 sizeOf56 ⟨vb,0,none⟩ ⟨g,o,none⟩ 1 1 lb cb hne 56 56 vs.size cur.size (by simp [World.shape?,hv]) (by simp [World.shape?,hg]) hk (by simp [World.frozen?,hv]) (by simp [World.frozen?,hv])]
 rfl
set_option maxHeartbeats 1000000 in
set_option maxRecDepth 100000 in
theorem insert_room (g n c i vb:Nat) (cur:Array Value) (vs:List Value) (w:World) (hg:w.heap[g]?=some (.cells cur 56 (0,0))) (hcs:cur.size=c * 5) (hi:i < n) (hroom:n+1≤c) (hc63:c≤9223372036854775807)
 (hvb:vb≠g) (hv:w.heap[vb]?=some (.cells vs.toArray 56 (0,0))) (hvl:vs.length=5) (h1c:∀ v∈cur.toList.take (n * 5),v.oneCell'=true) (h1v:∀ v∈vs,v.oneCell'=true) :
 Calls Tryz.prog 267 #[.slice (some ⟨g,0,none⟩) n c,.int .i64 i,.slice (some ⟨vb,0,none⟩) 1 1] w fun e w'=>e=.returned (.slice (some ⟨g,0,none⟩) (n+1) c) ∧
  ∃ cur':Array Value,w'.heap[g]?=some (.cells cur' 56 (0,0))∧cur'.size=c * 5∧cur'.toList.take ((n+1) * 5)=cur.toList.take (i * 5)++vs++(cur.toList.take (n * 5)).drop (i * 5)∧w.grownBy w' (some g):=by
 have hov:=fun o lb cb=>overlaps_run w g vb o lb cb cur vs.toArray hg hv hvb (by omega)
 have hz2:¬ ((i:Int)=(n:Int)):=by omega
 have hb2:¬ (c=i+1):=by omega
 have hb4:¬ (c=i):=by omega
 have hb3:(i:Int)≤(n:Int)+1:=by omega
 have hXl:((cur.toList.take (n * 5)).drop (i * 5)).length=(n - i) * 5:=by
  simp only [List.length_drop,List.length_take,Array.length_toList];omega
 have hX1:∀ v∈(cur.toList.take (n * 5)).drop (i * 5),v.oneCell'=true:=fun v hv=>h1c v (List.mem_of_mem_drop hv)
 have hXs:∀ j v,((cur.toList.take (n * 5)).drop (i * 5))[j]?=some v→w.drew.cell? ((⟨g,i * 5,none⟩:Addr).add j)=some v:=fun j v hj=>by
  have e:w.drew.cell? ((⟨g,i * 5,none⟩:Addr).add j)=cur[i * 5+j]?:=by rw [Addr.add_lit];exact cellsAt hg _
  rw [e]
  rw [List.getElem?_drop,List.getElem?_take] at hj
  split at hj
  ·simpa using hj
  ·cases hj
 generalize hX:(cur.toList.take (n * 5)).drop (i * 5)=X at *
 have hcp1:∀ ty dc sc,(Builtin.copy_ #[45,45] ty #[.slice (some ⟨g,(i+1) * 5,none⟩) (n - i) dc,.slice (some ⟨g,i * 5,none⟩) (n+1 - i) sc]).run Tryz.prog w.drew=.ok (goInt (Nat.min (n+1 - i) (n - i))) (w.drew.setRow g (cur.toList.take ((i+1) * 5)++X++cur.toList.drop ((i+1) * 5+X.length)).toArray):=fun ty dc sc=>
  run_copy_k w.drew 45 45 ty 56 g ((i+1) * 5) (n - i) dc ⟨g,i * 5,none⟩ (n+1 - i) sc 5 cur 56 X Tryz.underlying45 size56 hg (by rw [hXl];congr 1;simp only [Nat.min_def];split<;>omega) hXs (by rw [hXl,hcs];omega) hX1
 obtain ⟨C1,hC1⟩:∃ C1:Array Value,C1=(cur.toList.take ((i+1) * 5)++X++cur.toList.drop ((i+1) * 5+X.length)).toArray:=⟨_,rfl⟩
 obtain ⟨W1,hW1⟩:∃ W1,W1=w.drew.setRow g C1:=⟨_,rfl⟩
 rw [← hC1,← hW1] at hcp1
 have hg1:W1.heap[g]?=some (.cells C1 56 (0,0)):=by rw [hW1];exact setRow_heap w.drew g cur C1 56 (0,0) hg
 have ho1:∀ k,k≠g→W1.heap[k]?=w.heap[k]?:=fun k hk=>by rw [hW1,setRow_other w.drew g k C1 hk];rfl
 have hv1:W1.heap[vb]?=some (.cells vs.toArray 56 (0,0)):=by rw [ho1 vb hvb];exact hv
 have hs1:C1.size=c * 5:=by
  rw [hC1];simp only [List.size_toArray,List.length_append,List.length_take,List.length_drop,Array.length_toList,hXl,hcs];omega
 have hcp2:∀ ty dc,(Builtin.copy_ #[45,45] ty #[.slice (some ⟨g,i * 5,none⟩) (n+1 - i) dc,.slice (some ⟨vb,0,none⟩) 1 1]).run Tryz.prog W1=.ok (goInt (Nat.min 1 (n+1 - i))) (W1.setRow g (C1.toList.take (i * 5)++vs++C1.toList.drop (i * 5+vs.length)).toArray):=fun ty dc=>
  run_copy_k W1 45 45 ty 56 g (i * 5) (n+1 - i) dc ⟨vb,0,none⟩ 1 1 5 C1 56 vs Tryz.underlying45 size56 hg1 (by rw [hvl];simp only [Nat.min_def];split<;>omega) (fun j v hj=>by rw [Addr.add_lit,cellsAt hv1];simpa using hj) (by rw [hvl,hs1];omega) h1v
 obtain ⟨C2,hC2⟩:∃ C2:Array Value,C2=(C1.toList.take (i * 5)++vs++C1.toList.drop (i * 5+vs.length)).toArray:=⟨_,rfl⟩
 obtain ⟨W2,hW2⟩:∃ W2,W2=W1.setRow g C2:=⟨_,rfl⟩
 rw [← hC2,← hW2] at hcp2
 have hg2:W2.heap[g]?=some (.cells C2 56 (0,0)):=by rw [hW2];exact setRow_heap W1 g C1 C2 56 (0,0) hg1
 have hgr:w.grownBy W2 (some g):=⟨by rw [hW2,hW1];rfl,by rw [hW2,hW1];rfl,by rw [hW2,hW1];rfl,by rw [hW2,hW1];simp [World.setRow],fun k _ hk=>by
  have hk':k≠g:=fun e=>hk (by rw [e])
  rw [hW2,setRow_other W1 g k C2 hk',ho1 k hk']⟩
 have hs2:C2.size=c * 5:=by
  rw [hC2];simp only [List.size_toArray,List.length_append,List.length_take,List.length_drop,Array.length_toList,hvl,hs1];omega
 have hl2:C2.toList.take ((n+1) * 5)=cur.toList.take (i * 5)++vs++X:=by
  have e1:C1.toList.take (i * 5)=cur.toList.take (i * 5):=by
   rw [hC1]
   simp only [List.append_assoc]
   rw [List.take_append_of_le_length (by simp only [List.length_take,Array.length_toList,hcs];omega),List.take_take]
   congr 1;omega
  have e2:C1.toList.drop (i * 5+vs.length)=X++cur.toList.drop ((i+1) * 5+X.length):=by
   rw [hC1]
   simp only [List.append_assoc]
   rw [List.drop_append_of_le_length (by simp only [List.length_take,Array.length_toList,hcs];omega),List.drop_of_length_le (by simp only [List.length_take,Array.length_toList,hcs];omega),List.nil_append]
  rw [hC2,e1,e2]
  simp only [List.append_assoc]
  rw [← List.append_assoc vs,← List.append_assoc (List.take (i * 5) cur.toList)]
  exact List.take_left' (by simp only [List.length_append,List.length_take,Array.length_toList,hcs,hvl,hXl];omega)
 clear hW1 hW2 hC1 hC2 ho1 hXs hX1 h1c h1v hX hXl
 have HF:Hid (∃ cur':Array Value,W2.heap[g]?=some (.cells cur' 56 (0,0))∧cur'.size=c * 5∧cur'.toList.take ((n+1) * 5)=cur.toList.take (i * 5)++vs++X∧w.grownBy W2 (some g)):=⟨C2,hg2,hs2,by rw [hl2],hgr⟩
 clear hg2 hs2 hl2 hgr hg1 hv1 hs1 hg hv
 have hw1:IntKind.i64.wrap ((i:Int)+1)=(i:Int)+1:=by rw [IntKind.wrap_i64];omega
 have hb1:(0:Int)≤(i:Int)+1:=by omega
 have hin:i≤n:=by omega
 have htn:((i:Int)+1).toNat=i+1:=by omega
 go_enter Tryz.func267,Tryz.ntmps267
 go_wp2_with (simp only [hov])
 go_region_law (refine step_copy_runM rfl _ _ 45 45 rfl _ _ (by simp [Act.eval,Act.put]) (by simp [Act.eval,Act.put]) (hcp1 _ _ _) ?_)
 go_wp2_with fail
 go_ret
 exact ⟨rfl,HF.out⟩
set_option maxHeartbeats 1000000 in
set_option maxRecDepth 100000 in
theorem insert_grow (g n c i vb:Nat) (cur:Array Value) (vs:List Value) (w:World) (hg:w.heap[g]?=some (.cells cur 56 (0,0))) (hcs:cur.size=c * 5) (hi:i < n) (hnc:n≤c) (hroom:c < n+1) (hc63:n≤1000)
 (hv:w.heap[vb]?=some (.cells vs.toArray 56 (0,0))) (hvl:vs.length=5) (h1c:∀ v∈cur.toList.take (n * 5),v.oneCell'=true) (h1v:∀ v∈vs,v.oneCell'=true) :
 Calls Tryz.prog 267 #[.slice (some ⟨g,0,none⟩) n c,.int .i64 i,.slice (some ⟨vb,0,none⟩) 1 1] w fun e w'=>∃ G,e=.returned (.slice (some ⟨w.heap.size,0,none⟩) (n+1) G)∧n+1≤G∧G≤maxLen ∧
  ∃ cur':Array Value,w'.heap[w.heap.size]?=some (.cells cur' 56 (0,0))∧cur'.size=G * 5∧cur'.toList.take ((n+1) * 5)=cur.toList.take (i * 5)++vs++(cur.toList.take (n * 5)).drop (i * 5)∧w.grownBy w' none:=by
 obtain ⟨i0,hi0,hz0,hzs,hzb⟩:=info_parts Tryz.info56
 have hcn:c=n:=by omega
 subst hcn
 have hgw:g < w.heap.size:=(Array.getElem?_eq_some_iff.1 hg).1
 have hvw:vb < w.heap.size:=(Array.getElem?_eq_some_iff.1 hv).1
 have hz2:¬ ((i:Int)=(c:Int)):=by omega
 have hz3:(c:Int) < (c:Int)+1:=by omega
 have hkk:(c:Int)+1 - (i:Int)=((c+1 - i:Nat):Int):=by omega
 have hik:i+(c+1 - i)=c+1:=by omega
 have hold:(Builtin.firstCells i0.size i (.slice (some ⟨g,0,none⟩) i c)).run Tryz.prog w.drew=.ok (cur.toList.take (i * 5)).toArray w.drew:=by
  rw [hzs]
  exact run_firstCells_some w.drew 5 i ⟨g,0,none⟩ i c (cur.toList.take (i * 5)) (by rw [List.length_take,Array.length_toList];omega) (fun j v hj=>by
   have e:w.drew.cell? ((⟨g,0,none⟩:Addr).add j)=cur[j]?:=by rw [Addr.add_lit,Nat.zero_add];exact cellsAt hg _
   rw [e]
   rw [List.getElem?_take] at hj
   split at hj
   ·simpa using hj
   ·cases hj)
 have hrz:∀ ty,∃ G ROW,c+1≤G∧G≤maxLen∧ROW.size=G * 5∧ROW.toList.take (i * 5)=cur.toList.take (i * 5)∧(Builtin.append_ #[45,3] ty #[.slice (some ⟨g,0,none⟩) i c,.int .i64 ((c:Int)+1 - (i:Int))]).run Tryz.prog w =
  .ok (.slice (some ⟨w.heap.size,0,none⟩) (c+1) G) (w.drew.alloc (.cells ROW 56)):=fun ty=>by
  have h:=Lib.run_append_grow_zeros w 45 3 ty 56 i0 _ .i64 .i64 Tryz.underlying45 Tryz.underlying3 hi0 hz0 (some ⟨g,0,none⟩) i c (cur.toList.take (i * 5)) hold (c+1 - i) (by omega) (by omega) (by omega) (by omega) (by rw [hzb];omega) (by rw [hzb,hik];exact growslice_fits hroom (by omega))
  rw [hik] at h
  rw [hkk]
  have h1:=grownCap_ge w (c+1) c 56
  refine ⟨_,_,h1,grownCap_le_maxLen w (c+1) c 56 (by unfold maxLen;omega),?_,?_,h⟩
  ·simp only [Array.size_append,List.size_toArray,size_zeroCells,List.length_take,Array.length_toList,hcs,Value.cells]
   simp
   omega
  ·simp only [Array.toList_append,List.append_assoc]
   exact List.take_left' (by simp only [List.length_take,Array.length_toList,hcs];omega)
 obtain ⟨G,ROW,hG1,hG2,hRs,hRt,hrz⟩:=hrz 45
 have hG63:G≤9223372036854775807:=by unfold maxLen at hG2;omega
 obtain ⟨W1,hW1⟩:∃ W1,W1=(w.alloc (.cells ROW 56)).drew:=⟨_,rfl⟩
 have hwd:w.drew.alloc (.cells ROW 56)=W1:=by rw [hW1];rfl
 rw [hwd] at hrz
 have hg1:W1.heap[w.heap.size]?=some (.cells ROW 56 (0,0)):=by rw [hW1];exact heap_alloc_new w _
 have ho1:∀ k,k < w.heap.size→W1.heap[k]?=w.heap[k]?:=fun k hk=>by rw [hW1];exact Below.heap_alloc w _ k hk
 have hv1:W1.heap[vb]?=some (.cells vs.toArray 56 (0,0)):=by rw [ho1 vb hvw];exact hv
 have hcp1:∀ ty dc,(Builtin.copy_ #[45,45] ty #[.slice (some ⟨w.heap.size,i * 5,none⟩) (c+1 - i) dc,.slice (some ⟨vb,0,none⟩) 1 1]).run Tryz.prog W1=.ok (goInt (Nat.min 1 (c+1 - i))) (W1.setRow w.heap.size (ROW.toList.take (i * 5)++vs++ROW.toList.drop (i * 5+vs.length)).toArray):=fun ty dc=>
  run_copy_k W1 45 45 ty 56 w.heap.size (i * 5) (c+1 - i) dc ⟨vb,0,none⟩ 1 1 5 ROW 56 vs Tryz.underlying45 size56 hg1 (by rw [hvl];simp only [Nat.min_def];split<;>omega) (fun j v hj=>by rw [Addr.add_lit,cellsAt hv1];simpa using hj) (by rw [hvl,hRs];omega) h1v
 obtain ⟨C1,hC1⟩:∃ C1:Array Value,C1=(ROW.toList.take (i * 5)++vs++ROW.toList.drop (i * 5+vs.length)).toArray:=⟨_,rfl⟩
 obtain ⟨W2,hW2⟩:∃ W2,W2=W1.setRow w.heap.size C1:=⟨_,rfl⟩
 rw [← hC1,← hW2] at hcp1
 have hg2:W2.drew.heap[w.heap.size]?=some (.cells C1 56 (0,0)):=by rw [hW2];exact setRow_heap W1 w.heap.size ROW C1 56 (0,0) hg1
 have ho2:∀ k,k < w.heap.size→W2.drew.heap[k]?=w.heap[k]?:=fun k hk=>by
  have:=setRow_other W1 w.heap.size k C1 (by omega)
  rw [← hW2] at this
  exact this.trans (ho1 k hk)
 have hs1:C1.size=G * 5:=by
  rw [hC1];simp only [List.size_toArray,List.length_append,List.length_take,List.length_drop,Array.length_toList,hvl,hRs];omega
 have hXl:((cur.toList.take (c * 5)).drop (i * 5)).length=(c - i) * 5:=by
  simp only [List.length_drop,List.length_take,Array.length_toList];omega
 have hX1:∀ v∈(cur.toList.take (c * 5)).drop (i * 5),v.oneCell'=true:=fun v hv=>h1c v (List.mem_of_mem_drop hv)
 have hXs:∀ j v,((cur.toList.take (c * 5)).drop (i * 5))[j]?=some v→W2.drew.cell? ((⟨g,i * 5,none⟩:Addr).add j)=some v:=fun j v hj=>by
  have e:W2.drew.cell? ((⟨g,i * 5,none⟩:Addr).add j)=cur[i * 5+j]?:=by rw [Addr.add_lit];exact cellsAt ((ho2 g hgw).trans hg) _
  rw [e]
  rw [List.getElem?_drop,List.getElem?_take] at hj
  split at hj
  ·simpa using hj
  ·cases hj
 generalize hX:(cur.toList.take (c * 5)).drop (i * 5)=X at *
 have hcp2:∀ ty dc sc,(Builtin.copy_ #[45,45] ty #[.slice (some ⟨w.heap.size,(i+1) * 5,none⟩) (c - i) dc,.slice (some ⟨g,i * 5,none⟩) (c - i) sc]).run Tryz.prog W2.drew=.ok (goInt (Nat.min (c - i) (c - i))) (W2.drew.setRow w.heap.size (C1.toList.take ((i+1) * 5)++X++C1.toList.drop ((i+1) * 5+X.length)).toArray):=fun ty dc sc=>
  run_copy_k W2.drew 45 45 ty 56 w.heap.size ((i+1) * 5) (c - i) dc ⟨g,i * 5,none⟩ (c - i) sc 5 C1 56 X Tryz.underlying45 size56 hg2 (by rw [hXl];congr 1;simp only [Nat.min_def];split<;>omega) hXs (by rw [hXl,hs1];omega) hX1
 obtain ⟨C2,hC2⟩:∃ C2:Array Value,C2=(C1.toList.take ((i+1) * 5)++X++C1.toList.drop ((i+1) * 5+X.length)).toArray:=⟨_,rfl⟩
 obtain ⟨W3,hW3⟩:∃ W3,W3=W2.drew.setRow w.heap.size C2:=⟨_,rfl⟩
 rw [← hC2,← hW3] at hcp2
 have hg3:W3.heap[w.heap.size]?=some (.cells C2 56 (0,0)):=by rw [hW3];exact setRow_heap W2.drew w.heap.size C1 C2 56 (0,0) hg2
 have hgr:w.grownBy W3 none:=⟨by rw [hW3,hW2,hW1];rfl,by rw [hW3,hW2,hW1];rfl,by rw [hW3,hW2,hW1];rfl,by rw [hW3,hW2,hW1];simp [World.setRow],fun k hk _=>by
  rw [hW3,setRow_other W2.drew w.heap.size k C2 (by omega),ho2 k hk]⟩
 have hs2:C2.size=G * 5:=by
  rw [hC2];simp only [List.size_toArray,List.length_append,List.length_take,List.length_drop,Array.length_toList,hXl,hs1];omega
 have hl2:C2.toList.take ((c+1) * 5)=cur.toList.take (i * 5)++vs++X:=by
  have e1:C1.toList.take ((i+1) * 5)=cur.toList.take (i * 5)++vs:=by
   rw [hC1,hRt]
   exact List.take_left' (by simp only [List.length_append,List.length_take,Array.length_toList,hcs,hvl];omega)
  rw [hC2,e1]
  exact List.take_left' (by simp only [List.length_append,List.length_take,Array.length_toList,hcs,hvl,hXl];omega)
 have HF:Hid (∃ cur':Array Value,W3.heap[w.heap.size]?=some (.cells cur' 56 (0,0))∧cur'.size=G * 5∧cur'.toList.take ((c+1) * 5)=cur.toList.take (i * 5)++vs++X∧w.grownBy W3 none):=⟨C2,hg3,hs2,hl2,hgr⟩
 have hw1:IntKind.i64.wrap ((i:Int)+1)=(i:Int)+1:=by rw [IntKind.wrap_i64];omega
 have hb1:(0:Int)≤(i:Int)+1:=by omega
 have hin:i≤c:=by omega
 have htn:((i:Int)+1).toNat=i+1:=by omega
 have hGi:¬ (G=i):=by omega
 have hGim:¬ (G=i+1):=by omega
 have hci:¬ (c=i):=by omega
 clear hW1 hW2 hW3 hC1 hC2 ho1 ho2 hXs hX1 h1c h1v hX hXl hg1 hg2 hg3 hgr hs1 hs2 hl2 hv1 hwd hRs hRt hkk hik hold hg hv hi0 hz0 hzs hzb
 go_enter Tryz.func267,Tryz.ntmps267
 go_wp2_with (at_builtin;refine Lib.wpList_append_run _ rfl _ _ _ _ rfl _ _ rfl rfl _ _ hrz ?_)
 go_region_law (refine step_copy_runM rfl _ _ 45 45 rfl _ _ (by simp [Act.eval,Act.put]) (by simp [Act.eval,Act.put]) (hcp2 _ _ _) ?_)
 go_wp2_with fail
 go_ret
 exact ⟨G,rfl,hG1,hG2,HF.out⟩
set_option maxHeartbeats 1000000 in
set_option maxRecDepth 100000 in
theorem insert_end (base n vb:Nat) (v:Value) (xs vs:List Value) (w:World) (hown:w.ownsRow base 56 5 v n xs) (hn:n≤1000) (hbase:base≤w.heap.size)
 (hv:w.heap[vb]?=some (.cells vs.toArray 56 (0,0))) (hvl:vs.length=5) (h1v:∀ v∈vs,v.oneCell'=true) :
 Calls Tryz.prog 267 #[v,.int .i64 n,.slice (some ⟨vb,0,none⟩) 1 1] w fun e w'=>∃ v',e=.returned v'∧w'.ownsRow base 56 5 v' (n+1) (xs++vs)∧w.grownBy w' v.ownBlock:=by
 obtain ⟨i0,hi0,hz0,hzs,hzb⟩:=info_parts Tryz.info56
 have hnews:∀ j u,vs[j]?=some u→w.cell? ((⟨vb,0,none⟩:Addr).add j)=some u:=fun j v hj=>by rw [Addr.add_lit,cellsAt hv];simpa using hj
 have HO:=hown
 rcases hown.2 with ⟨rfl,rfl⟩ | ⟨g,c,cur,rfl,hbg,hg,hnc,hcm,hcs,htake⟩
 ·have HO':Hid (w.ownsRow base 56 5 (.slice none 0 0) 0 xs):=HO
  clear hown HO hn
  go_enter Tryz.func267,Tryz.ntmps267
  go_wp2_with (at_builtin;refine wpList_append_own _ rfl _ _ 45 rfl base 56 i0 _ 5 48 Tryz.underlying45 hi0 hz0 hzs hzb rfl (by omega) _ 0 xs rfl HO'.out ⟨vb,0,none⟩ 1 1 vs rfl (by omega) hnews h1v (by unfold maxLen;omega) (by omega) hbase ?_)
  intro v' w' r1 r2 r3
  go_wp2_with fail
  go_ret
  exact ⟨v',rfl,r1,r2⟩
 ·have HO':Hid (w.ownsRow base 56 5 (.slice (some ⟨g,0,none⟩) n c) n xs):=HO
  clear hown HO hg htake hcs
  unfold maxLen at hcm
  by_cases hcn:c=n
  ·subst hcn
   go_enter Tryz.func267,Tryz.ntmps267
   go_wp2_with (at_builtin;refine wpList_append_own _ rfl _ _ 45 rfl base 56 i0 _ 5 48 Tryz.underlying45 hi0 hz0 hzs hzb rfl (by omega) _ c xs rfl HO'.out ⟨vb,0,none⟩ 1 1 vs rfl (by omega) hnews h1v (by unfold maxLen;omega) (by omega) hbase ?_)
   intro v' w' r1 r2 r3
   go_wp2_with fail
   go_ret
   exact ⟨v',rfl,r1,r2⟩
  ·go_enter Tryz.func267,Tryz.ntmps267
   go_wp2_with (at_builtin;refine wpList_append_own _ rfl _ _ 45 rfl base 56 i0 _ 5 48 Tryz.underlying45 hi0 hz0 hzs hzb rfl (by omega) _ n xs rfl HO'.out ⟨vb,0,none⟩ 1 1 vs rfl (by omega) hnews h1v (by unfold maxLen;omega) (by omega) hbase ?_)
   intro v' w' r1 r2 r3
   go_wp2_with fail
   go_ret
   exact ⟨v',rfl,r1,r2⟩
theorem insert_any (base i vb:Nat) (v:Value) (ms:List Mem) (m:Mem) (w:World) (hown:Own base w v ms) (hi:i≤ms.length) (hn:ms.length≤1000) (hbase:base≤w.heap.size)
 (hv:w.heap[vb]?=some (.cells m.cs.toArray 56 (0,0))) (hne:v.ownBlock≠some vb) :
 Calls Tryz.prog 267 #[v,.int .i64 i,.slice (some ⟨vb,0,none⟩) 1 1] w fun e w'=>∃ v',e=.returned v'∧Own base w' v' (ms.take i++m :: ms.drop i)∧w.grownBy w' v.ownBlock:=by
 have hlen:(ms.take i++m :: ms.drop i).length=ms.length+1:=by simp;omega
 have hfl:fl (ms.take i++m :: ms.drop i)=(fl ms).take (i * 5)++m.cs++(fl ms).drop (i * 5):=by rw [fl_append,fl_cons,fl_take,fl_drop,List.append_assoc]
 by_cases hin:i=ms.length
 ·subst hin
  refine (insert_end base ms.length vb v (fl ms) m.cs w hown hn hbase hv rfl (cs_one m)).mono ?_
  rintro e w' ⟨v',rfl,h1,h2⟩
  refine ⟨v',rfl,?_,h2⟩
  have e1:ms.take ms.length++m :: ms.drop ms.length=ms++[m]:=by simp
  have e2:fl (ms++[m])=fl ms++m.cs:=by rw [fl_append,fl_cons];simp [fl]
  rw [e1]
  show w'.ownsRow base 56 5 v' (ms++[m]).length (fl (ms++[m]))
  rw [e2,show (ms++[m]).length=ms.length+1 by simp]
  exact h1
 ·rcases hown.2 with ⟨_,h0⟩ | ⟨g,c,cur,rfl,hbg,hg,hnc,hcm,hcs,htake⟩
  ·omega
  ·have hvb:vb≠g:=fun e=>hne (by simp [Value.ownBlock,e])
   have h1c:∀ v∈cur.toList.take (ms.length * 5),v.oneCell'=true:=by rw [htake];exact fl_one ms
   have hti:cur.toList.take (i * 5)=(fl ms).take (i * 5):=by rw [← htake,List.take_take];congr 1;omega
   have key:∀ l:List Value,l=cur.toList.take (i * 5)++m.cs++(cur.toList.take (ms.length * 5)).drop (i * 5)→l=fl (ms.take i++m :: ms.drop i):=fun l hl=>by rw [hl,hfl,htake,hti]
   by_cases hroom:ms.length+1≤c
   ·refine (insert_room g ms.length c i vb cur m.cs w hg hcs (by omega) hroom (by unfold maxLen at hcm;omega) hvb hv rfl h1c (cs_one m)).mono ?_
    rintro e w' ⟨rfl,cur',h1,h2,h3,h4⟩
    refine ⟨_,rfl,?_,h4⟩
    rw [← hlen]
    exact own_of hbg h1 h2 (by omega) hcm (key _ (by rw [hlen];exact h3))
   ·refine (insert_grow g ms.length c i vb cur m.cs w hg hcs (by omega) hnc (by omega) hn hv rfl h1c (cs_one m)).mono ?_
    rintro e w' ⟨G,rfl,hG1,hG2,cur',h1,h2,h3,h4⟩
    refine ⟨_,rfl,?_,grown_any h4 _⟩
    rw [← hlen]
    exact own_of hbase h1 h2 (by omega) hG2 (key _ (by rw [hlen];exact h3))
def oneE (nm:ByteArray) (st lf ad:Int):Int:=
 if labB nm=true then (if within st 1 4=true then (if within lf 1 1000000=true then (if within ad 0 4294967295=true then 0 else 3) else 3) else 7) else 1
def newB (sa la aa:Int) (va:Bool) (sb lb ab:Int) (vb:Bool):Bool:=
 if la=lb then (if sa=sb then (if aa=ab then (va && !vb) else decide (ab < aa)) else decide (sb < sa)) else decide (lb < la)
set_option maxHeartbeats 800000 in
theorem checkOne_any (nm:ByteArray) (st lf ad:Int) (sv:Bool) (w:World) (hs:nm.size≤maxLen) :
 Calls Tryz.prog 177 #[.agg #[.string nm,.int .i64 st,.int .i64 lf,.int .i64 ad,.bool sv]] w fun e w'=>e=.returned (.int .i64 (oneE nm st lf ad))∧w'=w.alloc (.cells #[.string nm,.int .i64 st,.int .i64 lf,.int .i64 ad,.bool sv] 56):=by
 rcases h1:labB nm with _ | _
 ·go_enter Tryz.func177,Tryz.ntmps177
  go_wp2_with (go_at_call 75;refine (label_any _ _ hs).mono ?_;rintro e w' ⟨rfl,rfl⟩;rw [h1])
  go_ret
  exact ⟨ret_int (by simp [oneE,h1]),rfl⟩
 ·rcases h2:within st 1 4 with _ | _
  ·go_enter Tryz.func177,Tryz.ntmps177
   go_wp2_with (first | (go_at_call 75;refine (label_any _ _ hs).mono ?_;rintro e w' ⟨rfl,rfl⟩;rw [h1]) | (go_at_call 76;refine (within_any _ _ _ _).mono ?_;rintro e w' ⟨rfl,rfl⟩;rw [h2]))
   go_ret
   exact ⟨ret_int (by simp [oneE,h1,h2]),rfl⟩
  ·rcases h3:within lf 1 1000000 with _ | _
   ·go_enter Tryz.func177,Tryz.ntmps177
    go_wp2_with (first | (go_at_call 75;refine (label_any _ _ hs).mono ?_;rintro e w' ⟨rfl,rfl⟩;rw [h1]) | (go_at_call 76;refine (within_any _ _ _ _).mono ?_;rintro e w' ⟨rfl,rfl⟩;first | rw [h2] | rw [h3]))
    go_ret
    exact ⟨ret_int (by simp [oneE,h1,h2,h3]),rfl⟩
   ·rcases h4:within ad 0 4294967295 with _ | _
    all_goals
     go_enter Tryz.func177,Tryz.ntmps177
     go_wp2_with (first | (go_at_call 75;refine (label_any _ _ hs).mono ?_;rintro e w' ⟨rfl,rfl⟩;rw [h1]) | (go_at_call 76;refine (within_any _ _ _ _).mono ?_;rintro e w' ⟨rfl,rfl⟩;first | rw [h2] | rw [h3]) | (go_at_call 39;refine (address_any _ _).mono ?_;rintro e w' ⟨rfl,rfl⟩;rw [h4]))
     go_ret
     exact ⟨ret_int (by simp [oneE,h1,h2,h3,h4]),rfl⟩
set_option maxHeartbeats 800000 in
theorem newer_any (na nb:ByteArray) (sa la aa:Int) (va:Bool) (sb lb ab:Int) (vb:Bool) (w:World) :
 Calls Tryz.prog 234 #[.agg #[.string na,.int .i64 sa,.int .i64 la,.int .i64 aa,.bool va],.agg #[.string nb,.int .i64 sb,.int .i64 lb,.int .i64 ab,.bool vb]] w fun e w'=>e=.returned (.bool (newB sa la aa va sb lb ab vb))∧w'=(w.alloc (.cells #[.string na,.int .i64 sa,.int .i64 la,.int .i64 aa,.bool va] 56)).alloc (.cells #[.string nb,.int .i64 sb,.int .i64 lb,.int .i64 ab,.bool vb] 56):=by
 by_cases h1:la=lb
 ·subst h1
  by_cases h2:sa=sb
  ·subst h2
   by_cases h3:aa=ab
   ·subst h3
    cases va
    all_goals
     go_enter Tryz.func234,Tryz.ntmps234
     go_wp2
     go_ret
     exact ⟨ret_bool (by simp [newB]),rfl⟩
   ·have h3':(aa != ab)=true:=by simpa using h3
    go_enter Tryz.func234,Tryz.ntmps234
    go_wp2
    go_ret
    exact ⟨ret_bool (by simp [newB,h3]),rfl⟩
  ·have h2':(sa != sb)=true:=by simpa using h2
   go_enter Tryz.func234,Tryz.ntmps234
   go_wp2
   go_ret
   exact ⟨ret_bool (by simp [newB,h2]),rfl⟩
 ·have h1':(la != lb)=true:=by simpa using h1
  go_enter Tryz.func234,Tryz.ntmps234
  go_wp2
  go_ret
  exact ⟨ret_bool (by simp [newB,h1]),rfl⟩
def Mem.e (m:Mem):Int:=oneE m.name m.state m.life m.addr
def firstE:List Mem→Int
 | []=>0
 | m :: r=>if m.e=0 then firstE r else m.e
theorem firstE_zero:∀ (ms:List Mem),(∀ j,j < ms.length→(ms.getD j dm).e=0)→firstE ms=0
 | [],_=>rfl
 | m :: r,h=>by
   have h0:=h 0 (by simp)
   simp only [List.getD_cons_zero] at h0
   rw [firstE,if_pos h0]
   exact firstE_zero r fun j hj=>by have:=h (j+1) (by simpa using hj);simpa using this
theorem firstE_at:∀ (ms:List Mem) (k:Nat),k < ms.length→(∀ j,j < k→(ms.getD j dm).e=0)→(ms.getD k dm).e≠0→firstE ms=(ms.getD k dm).e
 | [],k,h,_,_=>by simp at h
 | m :: r,0,_,_,hne=>by
   simp only [List.getD_cons_zero] at hne ⊢
   rw [firstE,if_neg hne]
 | m :: r,k+1,h,hz,hne=>by
   have h0:=hz 0 (by omega)
   simp only [List.getD_cons_zero] at h0
   rw [firstE,if_pos h0,List.getD_cons_succ]
   rw [List.getD_cons_succ] at hne
   exact firstE_at r k (by simpa using h) (fun j hj=>by have:=hz (j+1) (by omega);simpa using this) hne
def risesB:List Mem→Bool
 | a :: b :: r=>less a.name b.name && risesB (b :: r)
 | _=>true
theorem rises_all:∀ (ms:List Mem),(∀ j,j+1 < ms.length→less (ms.getD j dm).name (ms.getD (j+1) dm).name=true)→risesB ms=true
 | [],_=>rfl
 | [_],_=>rfl
 | a :: b :: r,h=>by
   have h0:=h 0 (by simp)
   simp only [List.getD_cons_zero,List.getD_cons_succ] at h0
   rw [risesB,h0,Bool.true_and]
   exact rises_all (b :: r) fun j hj=>by have:=h (j+1) (by simpa using hj);simpa using this
theorem rises_get:∀ (ms:List Mem),risesB ms=true→∀ j,j+1 < ms.length→less (ms.getD j dm).name (ms.getD (j+1) dm).name=true
 | [],_,j,h=>by simp at h
 | [_],_,j,h=>by simp at h
 | a :: b :: r,hr,0,_=>by
   rw [risesB,Bool.and_eq_true] at hr
   simpa using hr.1
 | a :: b :: r,hr,j+1,h=>by
   rw [risesB,Bool.and_eq_true] at hr
   have:=rises_get (b :: r) hr.2 j (by simpa using h)
   simpa using this
def chk (ms:List Mem):Int:=if 20 < ms.length then 2 else if firstE ms=0 then (if risesB ms=true then 0 else 4) else firstE ms
theorem chk_e (ms:List Mem) (k:Nat) (hn:ms.length≤20) (hk:k < ms.length) (hz:∀ j,j < k→(ms.getD j dm).e=0) (hne:(ms.getD k dm).e≠0):chk ms=(ms.getD k dm).e:=by
 have h:=firstE_at ms k hk hz hne
 rw [chk,if_neg (by omega),h,if_neg hne]
theorem chk_0 (ms:List Mem) (hn:ms.length≤20) (hz:∀ j,j < ms.length→(ms.getD j dm).e=0) (hl:∀ j,j+1 < ms.length→less (ms.getD j dm).name (ms.getD (j+1) dm).name=true):chk ms=0:=by
 rw [chk,if_neg (by omega),firstE_zero ms hz,if_pos rfl,if_pos (rises_all ms hl)]
structure At (ms:List Mem) (t:ByteArray) (p:Nat) (f:Bool):Prop where
 le:p≤ms.length
 lo:∀ j,j < p→cmpI (ms.getD j dm).name t < 0
 hi:∀ j,p≤j→j < ms.length→0≤cmpI (ms.getD j dm).name t
 is:f=true↔p < ms.length∧cmpI (ms.getD p dm).name t=0
def newM (a b:Mem):Bool:=newB a.state a.life a.addr a.server b.state b.life b.addr b.server
def hearL:List Mem→Mem→List Mem
 | [],m=>[m]
 | x :: r,m=>if cmpI x.name m.name < 0 then x :: hearL r m else if cmpI x.name m.name=0 then (if newM m x=true then m :: r else x :: r) else m :: x :: r
abbrev Rise (ms:List Mem):Prop:=ms.Pairwise fun a b=>less a.name b.name=true
theorem rise_of:∀ ms:List Mem,risesB ms=true→Rise ms
 | [],_=>.nil
 | [x],_=>by simp [Rise]
 | a :: b :: r,h=>by
   rw [risesB,Bool.and_eq_true] at h
   have ih:=rise_of (b :: r) h.2
   refine List.pairwise_cons.2 ⟨fun c hc=>?_,ih⟩
   rcases List.mem_cons.1 hc with rfl | hc
   ·exact h.1
   ·exact less_trans h.1 (List.rel_of_pairwise_cons ih hc)
theorem rises_of:∀ ms:List Mem,Rise ms→risesB ms=true
 | [],_=>rfl
 | [x],_=>rfl
 | a :: b :: r,h=>by
   rw [risesB,List.rel_of_pairwise_cons h (by simp),Bool.true_and]
   exact rises_of (b :: r) (List.Pairwise.of_cons h)
theorem rise_mono {ms:List Mem} (h:Rise ms) (t:ByteArray):∀ i j,i≤j→j < ms.length→cmpI (ms.getD j dm).name t < 0→cmpI (ms.getD i dm).name t < 0:=by
 intro i j hij hj hlt
 rcases Nat.lt_or_eq_of_le hij with hlt' | rfl
 ·have hp:=List.pairwise_iff_getElem.1 h i j (by omega) hj hlt'
  rw [cmpI_lt] at hlt ⊢
  have e1:ms.getD i dm=ms[i]:=by simp [List.getD,List.getElem?_eq_getElem (show i < ms.length by omega)]
  have e2:ms.getD j dm=ms[j]:=by simp [List.getD,List.getElem?_eq_getElem hj]
  rw [e1];rw [e2] at hlt
  exact less_trans hp hlt
 ·exact hlt
theorem hearL_at:∀ (ms:List Mem) (m:Mem) (p:Nat) (f:Bool),At ms m.name p f →
 hearL ms m=if f=true then (if newM m (ms.getD p dm)=true then ms.set p m else ms) else ms.take p++m :: ms.drop p
 | [],m,p,f,h=>by
   have hp:p=0:=by have:=h.le;simpa using this
   subst hp
   have hf:f=false:=by
    cases f
    ·rfl
    ·have:=h.is.1 rfl;simp at this
   subst hf
   simp [hearL]
 | x :: r,m,0,f,h=>by
   have h0:=h.hi 0 (Nat.le_refl _) (by simp)
   simp only [List.getD_cons_zero] at h0
   rw [hearL,if_neg (by omega)]
   cases f
   ·have hne:¬ cmpI x.name m.name=0:=fun e=>by have:=h.is.2 ⟨by simp,by simpa using e⟩;cases this
    rw [if_neg hne];simp
   ·have he:=(h.is.1 rfl).2
    simp only [List.getD_cons_zero] at he
    rw [if_pos he]
    simp only [List.getD_cons_zero,List.set_cons_zero,if_pos]
 | x :: r,m,p+1,f,h=>by
   have h0:=h.lo 0 (by omega)
   simp only [List.getD_cons_zero] at h0
   have hr:At r m.name p f:=⟨by have:=h.le;simpa using this,fun j hj=>by have:=h.lo (j+1) (by omega);simpa using this,
    fun j hj hl=>by have:=h.hi (j+1) (by omega) (by simpa using hl);simpa using this,by have:=h.is;simpa using this⟩
   rw [hearL,if_pos h0,hearL_at r m p f hr]
   cases f
   ·simp
   ·simp only [if_pos,List.getD_cons_succ,List.set_cons_succ]
    split<;>rfl
theorem hearL_mem:∀ (ms:List Mem) (m x:Mem),x∈hearL ms m→x=m∨x∈ms
 | [],m,x,h=>by simp [hearL] at h;exact .inl h
 | y :: r,m,x,h=>by
   rw [hearL] at h
   split at h
   ·rcases List.mem_cons.1 h with rfl | h
    ·exact .inr (by simp)
    ·rcases hearL_mem r m x h with h | h
     ·exact .inl h
     ·exact .inr (by simp [h])
   ·split at h
    ·split at h
     ·rcases List.mem_cons.1 h with h | h
      ·exact .inl h
      ·exact .inr (by simp [h])
     ·exact .inr h
    ·rcases List.mem_cons.1 h with h | h
     ·exact .inl h
     ·exact .inr h
theorem hearL_rise:∀ (ms:List Mem) (m:Mem),Rise ms→Rise (hearL ms m)
 | [],m,_=>by simp [hearL]
 | x :: r,m,h=>by
   have hx:=List.pairwise_cons.1 h
   rw [hearL]
   split
   ·rename_i hlt
    refine List.pairwise_cons.2 ⟨fun y hy=>?_,hearL_rise r m hx.2⟩
    rcases hearL_mem r m y hy with rfl | hy
    ·exact (cmpI_lt _ _).1 hlt
    ·exact hx.1 y hy
   ·rename_i hlt
    split
    ·rename_i he
     have hn:x.name=m.name:=(cmpI_eq _ _).1 he
     split
     ·exact List.pairwise_cons.2 ⟨fun y hy=>by rw [← hn];exact hx.1 y hy,hx.2⟩
     ·exact h
    ·rename_i he
     have hg:less m.name x.name=true:=(cmpI_gt _ _).1 (by omega)
     refine List.pairwise_cons.2 ⟨fun y hy=>?_,h⟩
     rcases List.mem_cons.1 hy with rfl | hy
     ·exact hg
     ·exact less_trans hg (hx.1 y hy)
theorem hearL_len:∀ (ms:List Mem) (m:Mem),ms.length≤(hearL ms m).length∧(hearL ms m).length≤ms.length+1
 | [],m=>by simp [hearL]
 | x :: r,m=>by
   have:=hearL_len r m
   rw [hearL]
   split
   ·simp;omega
   ·split
    ·split<;>simp
    ·simp
def joinL (a b:List Mem):List Mem:=b.foldl hearL a
theorem joinL_rise:∀ (b a:List Mem),Rise a→Rise (joinL a b)
 | [],_,h=>h
 | m :: r,a,h=>joinL_rise r (hearL a m) (hearL_rise a m h)
theorem joinL_len:∀ (b a:List Mem),(joinL a b).length≤a.length+b.length
 | [],_=>by simp [joinL]
 | m :: r,a=>by
   have h1:=joinL_len r (hearL a m)
   have h2:=hearL_len a m
   simp only [joinL,List.foldl_cons,List.length_cons] at *
   omega
theorem at_uniq {ms:List Mem} {nm:ByteArray} {p q:Nat} {f e:Bool} (h:At ms nm p f) (k:At ms nm q e):p=q∧f=e:=by
 have hpq:p=q:=by
  rcases Nat.lt_trichotomy p q with hlt | rfl | hlt
  ·have h1:=k.lo p hlt
   have h2:=h.hi p (Nat.le_refl _) (by have:=k.le;omega)
   omega
  ·rfl
  ·have h1:=h.lo q hlt
   have h2:=k.hi q (Nat.le_refl _) (by have:=h.le;omega)
   omega
 subst hpq
 refine ⟨rfl,?_⟩
 rw [Bool.eq_iff_iff,h.is,k.is]
theorem ns_hear {ms:List Mem} {m:Mem} (h:∀ m∈ms,m.name.size≤maxLen) (hm:m.name.size≤maxLen):∀ x∈hearL ms m,x.name.size≤maxLen:=by
 intro x hx
 rcases hearL_mem ms m x hx with rfl | hx
 ·exact hm
 ·exact h x hx
theorem ns_join:∀ (b a:List Mem),(∀ m∈a,m.name.size≤maxLen)→(∀ m∈b,m.name.size≤maxLen)→∀ x∈joinL a b,x.name.size≤maxLen
 | [],_,ha,_=>ha
 | m :: r,a,ha,hb=>ns_join r (hearL a m) (ns_hear ha (hb m (by simp))) (fun x hx=>hb x (by simp [hx]))
theorem joinL_take (a b:List Mem) (j:Nat) (hj:j < b.length):joinL a (b.take (j+1))=hearL (joinL a (b.take j)) (b.getD j dm):=by
 have e:b.getD j dm=b[j]:=by simp [List.getD,List.getElem?_eq_getElem hj]
 rw [e,List.take_succ_eq_append_getElem hj,joinL,List.foldl_append,joinL]
 rfl
theorem hearL_last:∀ (a:List Mem) (m:Mem),(∀ x∈a,less x.name m.name=true)→hearL a m=a++[m]
 | [],_,_=>rfl
 | x :: r,m,h=>by
   rw [hearL,if_pos ((cmpI_lt _ _).2 (h x (by simp))),hearL_last r m (fun y hy=>h y (by simp [hy]))]
   rfl
theorem joinL_app:∀ (b a:List Mem),Rise (a++b)→joinL a b=a++b
 | [],a,_=>by simp [joinL]
 | m :: r,a,h=>by
   have h1:hearL a m=a++[m]:=hearL_last a m fun x hx=>(List.pairwise_append.1 h).2.2 x hx m (by simp)
   have h2:=joinL_app r (a++[m]) (by simpa using h)
   simp only [joinL,List.foldl_cons,h1] at h2 ⊢
   rw [h2];simp
theorem joinL_nil (b:List Mem) (h:Rise b):joinL [] b=b:=joinL_app b [] h
theorem chk_zero {ms:List Mem} (h:chk ms=0):ms.length≤20∧Rise ms∧firstE ms=0:=by
 unfold chk at h
 split at h
 ·omega
 ·split at h
  ·rename_i h1 h2
   split at h
   ·rename_i h3
    exact ⟨by omega,rise_of ms h3,h2⟩
   ·omega
  ·rename_i h1 h2;exact absurd h h2
def chkTwo (a b:List Mem):Int:=if chk a=0 then chk b else chk a
def stg (a b:List Mem) (k:Nat):List Mem:=if k=0 then [] else if k=1 then a else joinL a b
def joinE (a b:List Mem):Int:=if chkTwo a b=0 then (if 20 < (joinL a b).length then 2 else 0) else chkTwo a b
theorem rises_allO (ms:List Mem) (h:∀ j,j+1 < ms.length→cmpI (ms.getD j dm).name (ms.getD (j+1) dm).name < 0):risesB ms=true:=rises_all ms fun j hj=>(cmpI_lt _ _).1 (h j hj)
theorem rises_getO (ms:List Mem) (h:risesB ms=true):∀ j,j+1 < ms.length→cmpI (ms.getD j dm).name (ms.getD (j+1) dm).name < 0:=fun j hj=>(cmpI_lt _ _).2 (rises_get ms h j hj)
theorem chk_r (ms:List Mem) (hn:ms.length≤20) (hz:∀ j,j < ms.length→(ms.getD j dm).e=0):chk ms=if risesB ms=true then 0 else 4:=by
 rw [chk,if_neg (by omega),firstE_zero ms hz,if_pos rfl]
set_option maxHeartbeats 400000 in
theorem order_any (a b:Mem) (w:World) :
 Calls Tryz.prog 179 #[.agg #[.string a.name,.int .i64 a.state,.int .i64 a.life,.int .i64 a.addr,.bool a.server],.agg #[.string b.name,.int .i64 b.state,.int .i64 b.life,.int .i64 b.addr,.bool b.server]] w fun e w'=>e=.returned (.int .i64 (cmpI a.name b.name))∧Below w.heap.size w w':=by
 go_enter Tryz.func179,Tryz.ntmps179
 go_wp2_with (go_at_call 99;refine (compare_any _ _ _).mono ?_;rintro e w' ⟨rfl,rfl⟩)
 go_ret
 exact ⟨rfl,((Below.refl _ _).alloc (Nat.le_refl _) _).alloc (by simp) _⟩
theorem newerE_any (a b:Mem) (w:World) :
 Calls Tryz.prog 234 #[.agg #[.string a.name,.int .i64 a.state,.int .i64 a.life,.int .i64 a.addr,.bool a.server],.agg #[.string b.name,.int .i64 b.state,.int .i64 b.life,.int .i64 b.addr,.bool b.server]] w fun e w'=>e=.returned (.bool (newM a b))∧Below w.heap.size w w':=by
 refine (newer_any a.name b.name a.state a.life a.addr a.server b.state b.life b.addr b.server w).mono ?_
 rintro e w' ⟨rfl,rfl⟩
 exact ⟨rfl,((Below.refl _ _).alloc (Nat.le_refl _) _).alloc (by simp) _⟩
end Go.Proofs.YtffdoiokmiklgaaGreatDoor
