import Derived.Test.YtignmeaeibaejaaGreatDoorV4
import Derived.Test.YtignmeaeibaejaaGreatDoorV2
import Derived.Laws.AppendOwnNone
import Derived.Deep.RegionHeld3
import Derived.Deep.AppendLies
import Derived.OwnWalk
import Derived.StillTactics
namespace Go.Proofs.YtignmeaeibaejaaGreatDoor
open Go.RowKit
theorem Tryz.infoPl:(Tryz.prog.info? 25).map (fun i=>(i.zero,i.size,i.bytes))=some (some (.agg #[.int .i64 0,.int .i64 0,.int .i64 0,.int .i64 0,.int .i64 0]),5,40):=by kernel_rfl
def plc (m:Wh.Whe):Pc.Ple:=⟨m.x,m.y,m.z,m.h,m.s⟩
def plcs (ms:List Wh.Whe):List Pc.Ple:=ms.map plc
theorem plcs_snoc {ms:List Wh.Whe} {k:Nat} (hk:k < ms.length):plcs (ms.take (k+1))=plcs (ms.take k)++[plc (ms.getD k Wh.dm)]:=by
 rw [plcs,plcs,List.take_succ_eq_append_getElem hk,List.map_append]
 simp [List.getD,List.getElem?_eq_getElem hk]
theorem plcs_len (ms:List Wh.Whe):(plcs ms).length=ms.length:=by simp [plcs]
set_option maxHeartbeats 1600000 in
set_option maxRecDepth 100000 in
theorem places_any (ms:List Wh.Whe) (v:Value) (w:World) (hv:Wh.Sl w v ms) (hn:ms.length≤100) :
 Calls Tryz.prog 149 #[v] w fun e w'=>∃ v',e=.returned v'∧Pc.Own w.heap.size w' v' (plcs ms)∧Below w.heap.size w w':=by
 obtain ⟨i0,hi0,hz0,hzs,hzb⟩:=info_parts Tryz.infoPl
 obtain ⟨pa,ca,rfl,_,ha⟩:=hv
 have HA:Hid (ms=[]∨∃ b off,pa=some ⟨b,off,none⟩∧b < w.heap.size∧Wh.Row w b off ms):=ha
 clear ha
 generalize hna:ms.length=n at *
 have HN:Hid (ms.length=n):=hna
 clear hna
 go_enter Tryz.func149,Tryz.ntmps149
 go_wp2_with fail
 go_loopw [3,8] (fun o i w'=>∃ k:Nat,k≤n∧i=.int .i64 k∧Below w.heap.size w w'∧Hid (Pc.Own w.heap.size w' o (plcs (ms.take k)))) (fun _ i _=>n - (intOf i).toNat)
 case atStart=>exact ⟨0,Nat.zero_le _,rfl,Below.refl _ _,Pc.own_nil _ _⟩
 case round=>
  obtain ⟨k,hk,rfl,hbl,HO⟩:=hrel
  have hsz:=hbl.size
  have hll:(plcs (ms.take k)).length≤100:=by rw [plcs_len];have h2:(ms.take k).length≤k:=List.length_take_le _ _;omega
  by_cases hlt:k < n
  ·obtain ⟨b1,o1,hp1,hl1,hr1⟩:∃ b off,pa=some ⟨b,off,none⟩∧b < w.heap.size∧Wh.Row w b off ms:=by
    rcases HA.out with h | h
    ·have:=HN.out;rw [h] at this;simp at this;omega
    ·exact h
   subst hp1
   obtain ⟨hbc,hbf⟩:=bcell hbl
   obtain ⟨c0,c1,c2,c3,c4,c5⟩:=hr1 k (by rw [HN.out];exact hlt)
   have HST:Hid (plcs (ms.take (k+1))=plcs (ms.take k)++[plc (ms.getD k Wh.dm)]):=plcs_snoc (by rw [HN.out];exact hlt)
   clear hr1
   generalize hL2:plcs (ms.take (k+1))=L2 at *
   have HL2:Hid (plcs (ms.take (k+1))=L2):=hL2
   clear hL2
   generalize plcs (ms.take k)=L at *
   generalize ms.getD k Wh.dm=m at *
   obtain ⟨nd,x,y,z,h,s⟩:=m
   simp only [plc] at *
   go_wp2_with (at_builtin;refine wpList_append_own _ rfl _ _ 177 rfl w.heap.size 25 i0 _ 5 40 Tryz.underlying177 hi0 hz0 hzs hzb rfl (by omega) _ L.length (Pc.fl L) rfl ?hown ⟨wr.heap.size+1,0,none⟩ 1 1 (Pc.Ple.mk x y z h s).cs rfl rfl ?hnews (Pc.cs_one _) ?h63 ?hbytes ?hbase ?_)
   case hown=>exact HO.out.below (((Below.refl _ _).alloc (Nat.le_refl _) _).alloc (by simp) _)
   case hnews=>(intro j u hj;rw [Addr.add_lit];exact (cell_topL (by simp)).trans (by simpa [Pc.Ple.cs] using hj))
   case h63=>(unfold maxLen;omega)
   case hbytes=>omega
   case hbase=>(simp;omega)
   intro v' w2 r1 r2 r3
   have HBX:Hid (Below w.heap.size w w2):=((hbl.alloc hsz _).alloc (by simp;omega) _).grown r2 (by simp;omega) (fun j hj=>(HO.out.lt j hj).1)
   have HOX:Hid (Pc.Own w.heap.size w2 v' (L++[⟨x,y,z,h,s⟩])):=Pc.own_snoc r1
   clear r1 r2 r3
   go_wp2_with fail
   exact ⟨⟨k+1,by omega,by go_num,HBX.out,by rw [HL2.out,HST.out];exact HOX.out⟩,by simp [intOf];omega⟩
  ·have hkn:k=n:=by omega
   subst hkn
   have HFO:Hid (Pc.Own w.heap.size wr u3 (plcs ms)):=by
    have h:=HO.out
    rw [List.take_of_length_le (by rw [HN.out];exact Nat.le_refl _)] at h
    exact h
   go_wp2_with fail
   go_ret
   exact ⟨u3,rfl,HFO.out,hbl⟩
def toPl (m:Pc.Ple):Pl:=⟨m.x,m.y,m.z,m.h,m.s⟩
theorem prow_of {w:World} {b off:Nat} {ms:List Pc.Ple} (h:Pc.Row w b off ms):PRow w b off (ms.map toPl):=fun k hk=>by
 have hk':k < ms.length:=by simpa using hk
 have e:(ms.map toPl).getD k dp=toPl (ms.getD k Pc.dm):=by simp [List.getD,List.getElem?_eq_getElem hk']
 obtain ⟨h0,h1,h2,h3,h4⟩:=h k hk'
 rw [e]
 exact ⟨h0,h1,h2,h3,h4⟩
set_option maxHeartbeats 1600000 in
set_option maxRecDepth 100000 in
theorem sort_many (p:Pl) (a1 a2:Option Addr) (n m c1 c2:Nat) (w:World) (h:100 < n∨100 < m) :
 Calls Tryz.prog 134 #[.agg #[.int .i64 p.x,.int .i64 p.y,.int .i64 p.z,.int .i64 p.h,.int .i64 p.s],.slice a1 n c1,.slice a2 m c2] w fun e w'=>e=.returned (.tuple #[.slice none 0 0,.int .i64 2])∧Below w.heap.size w w':=by
 have hc:decide (100 < (n:Int))=true∨(decide (100 < (n:Int))=false∧decide (100 < (m:Int))=true):=by
  simp only [decide_eq_true_eq,decide_eq_false_iff_not];omega
 clear h
 rcases hc with h1 | ⟨h1,h2⟩
 all_goals
  go_enter Tryz.func134,Tryz.ntmps134
  go_wp2_with fail
  go_ret2
  exact ⟨rfl,(Below.refl _ _).alloc (Nat.le_refl _) _⟩
abbrev Pl.v5 (p:Pl):List Value:=[.int .i64 p.x,.int .i64 p.y,.int .i64 p.z,.int .i64 p.h,.int .i64 p.s]
theorem own_prow {base g c n:Nat} {w:World} {p:Pl} {ms:List Pc.Ple} (hn:ms.length=n) (h:w.ownsRow base 25 5 (.slice (some ⟨g,0,none⟩) (1+n) c) (1+n) (p.v5++Pc.fl ms)):PRow w g 0 (p :: ms.map toPl):=by
 have e:p.v5++Pc.fl ms=Pc.fl (⟨p.x,p.y,p.z,p.h,p.s⟩ :: ms):=by rw [Pc.fl_cons];rfl
 rw [e] at h
 have h2:Pc.Own base w (.slice (some ⟨g,0,none⟩) (Pc.Ple.mk p.x p.y p.z p.h p.s :: ms).length c) (⟨p.x,p.y,p.z,p.h,p.s⟩ :: ms):=by
  show World.ownsRow _ _ _ _ _ _ _
  rw [show (Pc.Ple.mk p.x p.y p.z p.h p.s :: ms).length=1+n by rw [List.length_cons,hn];omega]
  exact h
 have h3:Pc.Row w g 0 (⟨p.x,p.y,p.z,p.h,p.s⟩ :: ms):=fun j hj=>by
  have:=Pc.own_cells h2 j hj
  simpa only [Nat.zero_add] using this
 have h4:=prow_of h3
 exact h4
theorem own_from {X:World} {p:Pl} {b base:Nat} (hX:X.heap[b]?=some (.cells #[.int .i64 p.x,.int .i64 p.y,.int .i64 p.z,.int .i64 p.h,.int .i64 p.s] 25 (0,0))) (hb:base≤b):X.ownsRow base 25 5 (.slice (some ⟨b,0,none⟩) 1 1) 1 p.v5:=
 ⟨rfl,.inr ⟨b,1,_,rfl,hb,hX,Nat.le_refl _,by decide,rfl,rfl⟩⟩
theorem own_news {base g n c m s:Nat} {e:TypeId} {w:World} {xs:List Value} (h:w.ownsRow base e s (.slice (some ⟨g,0,none⟩) n c) m xs):∀ j u,xs[j]?=some u→w.cell? (Addr.add ⟨g,0,none⟩ j)=some u:=fun j u hj=>by
 have hl:j < xs.length:=(List.getElem?_eq_some_iff.1 hj).1
 rw [Addr.add_lit,Nat.zero_add]
 rcases h.2 with ⟨h1,_⟩ | ⟨g',c',cur,h1,hbg,hg,hnc,hcm,hcs,htake⟩
 ·cases h1
 ·simp only [Value.slice.injEq,Option.some.injEq,Addr.mk.injEq] at h1
  obtain ⟨⟨rfl,_,_⟩,_,_⟩:=h1
  rw [cellsAt hg,← hj,← htake,List.getElem?_take_of_lt (by rw [← h.1];exact hl)]
  simp
theorem from_way1 {W w3:World} {p:Pl} {H:Nat} (hs:W.heap.size=H) (h:Below (W.alloc (.cells #[.int .i64 p.x,.int .i64 p.y,.int .i64 p.z,.int .i64 p.h,.int .i64 p.s] 25)).drew.heap.size (W.alloc (.cells #[.int .i64 p.x,.int .i64 p.y,.int .i64 p.z,.int .i64 p.h,.int .i64 p.s] 25)).drew w3) :
 w3.heap[H]?=some (.cells #[.int .i64 p.x,.int .i64 p.y,.int .i64 p.z,.int .i64 p.h,.int .i64 p.s] 25 (0,0)):=by
 rw [h.block H (by simp;omega),← hs]
 exact heap_alloc_new W _
set_option maxHeartbeats 6400000 in
set_option maxRecDepth 100000 in
theorem sort_bad1 (p:Pl) (ms:List Wh.Whe) (v:Value) (a2:Option Addr) (m c2:Nat) (w:World) (hv:Wh.Sl w v ms) (hn:ms.length≤100) (hpos:0 < ms.length) (hm:m≤100) (hb:chkPs (p :: (plcs ms).map toPl)=3) :
 Calls Tryz.prog 134 #[.agg #[.int .i64 p.x,.int .i64 p.y,.int .i64 p.z,.int .i64 p.h,.int .i64 p.s],v,.slice a2 m c2] w fun e w'=>e=.returned (.tuple #[.slice none 0 0,.int .i64 3])∧Below w.heap.size w w':=by
 obtain ⟨i0,hi0,hz0,hzs,hzb⟩:=info_parts Tryz.infoPl
 have HV:Hid (Wh.Sl w v ms):=hv
 have hpl:(plcs ms).length=ms.length:=plcs_len ms
 have HP:Hid (∀ W,Wh.Sl W v ms→Calls Tryz.prog 149 #[v] W fun e w'=>∃ g c,e=.returned (.slice (some ⟨g,0,none⟩) ms.length c)∧Pc.Own W.heap.size w' (.slice (some ⟨g,0,none⟩) ms.length c) (plcs ms)∧Below W.heap.size W w'):=fun W h=>by
  refine (places_any ms v W h hn).mono ?_
  rintro e w' ⟨v',rfl,ho,hbl⟩
  obtain ⟨g,c,hvv⟩:=Pc.own_form ho 0 (by omega)
  subst hvv
  rw [hpl] at ho
  exact ⟨g,c,by rw [hpl],ho,hbl⟩
 have HK:Hid (∀ g c W,PRow W g 0 (p :: (plcs ms).map toPl)→Calls Tryz.prog 148 #[.slice (some ⟨g,0,none⟩) (1+ms.length) c] W fun e w'=>e=.returned (.int .i64 3)∧Below W.heap.size W w'):=fun g c W h=>by
  have h2:=checkAllP_any (p :: (plcs ms).map toPl) g 0 (1+ms.length) c W (by simp [hpl];omega) h (by omega)
  rw [hb] at h2
  exact h2
 obtain ⟨pa,ca,hvv,_,_⟩:=hv
 subst hvv
 have h1:decide (100 < (ms.length:Int))=false:=by simp;omega
 have h2:decide (100 < (m:Int))=false:=by simp;omega
 clear hb
 generalize hna:ms.length=n at *
 have HN:Hid (ms.length=n):=hna
 clear hna
 have HPL:Hid ((plcs ms).length=n):=hpl
 clear hpl
 go_enter Tryz.func134,Tryz.ntmps134
 go_wp2_with fail
 obtain ⟨W,hW⟩:∃ W,W=w.alloc (.cells #[.int .i64 p.x,.int .i64 p.y,.int .i64 p.z,.int .i64 p.h,.int .i64 p.s] 25):=⟨_,rfl⟩
 rw [← hW]
 have hbW:Below w.heap.size w W:=by rw [hW];exact (Below.refl _ _).alloc (Nat.le_refl _) _
 have hga:W.heap[w.heap.size]?=some (.cells #[.int .i64 p.x,.int .i64 p.y,.int .i64 p.z,.int .i64 p.h,.int .i64 p.s] 25 (0,0)):=by rw [hW];exact heap_alloc_new w _
 have hsW:W.heap.size=w.heap.size+1:=by rw [hW];simp
 have n0:W.cell? ⟨w.heap.size,0,none⟩=some (.int .i64 p.x):=cellsAt hga 0
 have n1:W.cell? ⟨w.heap.size,1,none⟩=some (.int .i64 p.y):=cellsAt hga 1
 have n2:W.cell? ⟨w.heap.size,2,none⟩=some (.int .i64 p.z):=cellsAt hga 2
 have n3:W.cell? ⟨w.heap.size,3,none⟩=some (.int .i64 p.h):=cellsAt hga 3
 have n4:W.cell? ⟨w.heap.size,4,none⟩=some (.int .i64 p.s):=cellsAt hga 4
 have HVW:Hid (∀ W',Below W.heap.size W W'→Wh.Sl W' (.slice pa n ca) ms):=fun W' h=>(HV.out.below hbW).below h
 have HBW:Hid (Below w.heap.size w W):=hbW
 have e0:=World.new_ne W _ n0
 have e1:=World.new_ne W _ n1
 have e2:=World.new_ne W _ n2
 have e3:=World.new_ne W _ n3
 have e4:=World.new_ne W _ n4
 clear hga hW hbW
 have h63:1+n≤maxLen:=by unfold maxLen;omega
 have hbt:(1+n) * 40≤140737488355328:=by omega
 have hfl:(Pc.fl (plcs ms)).length=n * 5:=by rw [Pc.fl_len,HPL.out]
 have hav:(Value.slice (some ⟨w.heap.size+1,0,none⟩) 1 1).ownBlock≠some w.heap.size:=fun h=>by simp [Value.ownBlock] at h
 go_region_held3 (fun w'=>w'.cell? ⟨w.heap.size,0,none⟩=some (.int .i64 p.x)∧w'.cell? ⟨w.heap.size,1,none⟩=some (.int .i64 p.y)∧w'.cell? ⟨w.heap.size,2,none⟩=some (.int .i64 p.z)∧w'.cell? ⟨w.heap.size,3,none⟩=some (.int .i64 p.h)∧w'.cell? ⟨w.heap.size,4,none⟩=some (.int .i64 p.s))
  (first
    | go_keep
    | (go_split_ands
       refine ⟨?_,?_,?_,?_,?_⟩
       all_goals ((rw [hb6.cell (by show w.heap.size < _;have h8:=hgrow.size;have h9:=hb3.size;simp at h8 h9;omega)];assumption)))
    | (go_split_ands
       refine ⟨?_,?_,?_,?_,?_⟩
       all_goals ((rw [hgrow.cell_far _ (by show w.heap.size < _;have:=hb3.size;simp at this ⊢;omega) (Ne.symm hav)];assumption)))
    | (go_split_ands
       refine ⟨?_,?_,?_,?_,?_⟩
       all_goals ((rw [hgrow.cell_far _ (by show w.heap.size < _;have:=hb3.size;simp at this ⊢;omega) (by simp [Value.ownBlock];have:=hb3.size;simp at this;omega)];assumption)))
    | (go_split_ands
       refine ⟨?_,?_,?_,?_,?_⟩
       all_goals ((rw [hb3.cell (by simp;omega)];first | assumption | simp [*])))
    )
  (first
    | (go_at_call 149;refine (HP.out _ (HVW.out _ ?_)).mono ?_;(focus (repeat (first | exact Below.refl _ _ | refine Below.drew ?_ | refine Below.alloc ?_ (by simp) _)));rintro e w3 ⟨g,c,rfl,ho3,hb3⟩)
    | (go_at_call 148;refine (HK.out _ _ _ (own_prow HPL.out hown1)).mono ?_;rintro e w6 ⟨rfl,hb6⟩)
    | (refine step_append_lies _ (by rfl) _ _ _ (by rfl) w.heap.size 25 i0 _ 5 40 Tryz.underlying177 hi0 hz0 hzs hzb rfl (by omega) (.slice (some ⟨w.heap.size+1,0,none⟩) 1 1) 1 p.v5 (by rfl) (own_from (from_way1 hsW hb3) (by omega)) ⟨g,0,none⟩ n c (Pc.fl (plcs ms)) (by rfl) hfl (own_news ho3) (Pc.fl_one _) hpos h63 hbt (by have:=hb3.size;simp at this;omega) _ rfl ?_
       intro gg cap w5 hown1 hgrow hat hlt)
    | (refine step_append_lies _ (by rfl) _ _ _ (by rfl) w.heap.size 25 i0 _ 5 40 Tryz.underlying177 hi0 hz0 hzs hzb rfl (by omega) (.slice (some ⟨w3.heap.size,0,none⟩) 1 1) 1 p.v5 (by rfl) (own_from (heap_alloc_new w3 _) (by have:=hb3.size;simp at this;omega)) ⟨g,0,none⟩ n c (Pc.fl (plcs ms)) (by rfl) hfl (own_news (ho3.below ((Below.refl _ _).alloc (Nat.le_refl _) _))) (Pc.fl_one _) hpos h63 hbt (by have:=hb3.size;simp at this ⊢;omega) _ rfl ?_
       intro gg cap w5 hown1 hgrow hat hlt))
 all_goals
  have HB6:Hid (Below w.heap.size w w6):=by
   first
    | exact ((((HBW.out.alloc (by omega) _).drew.trans (hb3.mono (by simp;omega))).grown hgrow (by have:=hb3.size;simp at this;omega) (fun j hj=>by simp [Value.ownBlock] at hj;omega))).trans (hb6.mono (by have h8:=hgrow.size;have h9:=hb3.size;simp at h8 h9;omega))
    | exact (((HBW.out.drew.trans (hb3.mono (by simp;omega))).alloc (by have:=hb3.size;simp at this;omega) _).grown hgrow (by have:=hb3.size;simp at this ⊢;omega) (fun j hj=>by simp [Value.ownBlock] at hj;have:=hb3.size;simp at this;omega)).trans (hb6.mono (by have h8:=hgrow.size;have h9:=hb3.size;simp at h8 h9;omega))
  clear hb6 hgrow hown1 hat hlt hb3 ho3 hav
  go_wp2_with fail
  go_ret2
  exact ⟨rfl,HB6.out⟩
set_option maxHeartbeats 400000 in
theorem places_none (a:Option Addr) (c:Nat) (w:World) :
 Calls Tryz.prog 149 #[.slice a 0 c] w fun e w'=>e=.returned (.slice none 0 0)∧w'=w:=by
 go_enter Tryz.func149,Tryz.ntmps149
 go_wp2_with fail
 go_loopw [3,8] (fun o i w'=>o=.slice none 0 0∧i=.int .i64 0∧w'=w) (fun _ _ _=>0)
 case atStart=>exact ⟨rfl,rfl,rfl⟩
 case round=>
  obtain ⟨rfl,rfl,hw⟩:=hrel
  subst hw
  go_wp2_with fail
  go_ret
  exact ⟨rfl,rfl⟩
theorem prow_from {X:World} {p:Pl} {b:Nat} (hX:X.heap[b]?=some (.cells #[.int .i64 p.x,.int .i64 p.y,.int .i64 p.z,.int .i64 p.h,.int .i64 p.s] 25 (0,0))):PRow X b 0 [p]:=fun k hk=>by
 have:k=0:=by simpa using hk
 subst this
 exact ⟨cellsAt hX 0,cellsAt hX 1,cellsAt hX 2,cellsAt hX 3,cellsAt hX 4⟩
set_option maxHeartbeats 6400000 in
set_option maxRecDepth 100000 in
theorem sort_bad0 (p:Pl) (a1 a2:Option Addr) (m c1 c2:Nat) (w:World) (hm:m≤100) (hb:chkPs [p]=3) :
 Calls Tryz.prog 134 #[.agg #[.int .i64 p.x,.int .i64 p.y,.int .i64 p.z,.int .i64 p.h,.int .i64 p.s],.slice a1 0 c1,.slice a2 m c2] w fun e w'=>e=.returned (.tuple #[.slice none 0 0,.int .i64 3])∧Below w.heap.size w w':=by
 have HP:Hid (∀ W,Calls Tryz.prog 149 #[.slice a1 0 c1] W fun e w'=>e=.returned (.slice none 0 0)∧Below W.heap.size W w'):=fun W=>by
  refine (places_none a1 c1 W).mono ?_
  rintro e w' ⟨rfl,rfl⟩
  exact ⟨rfl,Below.refl _ _⟩
 have HK:Hid (∀ g W,PRow W g 0 [p]→Calls Tryz.prog 148 #[.slice (some ⟨g,0,none⟩) 1 1] W fun e w'=>e=.returned (.int .i64 3)∧Below W.heap.size W w'):=fun g W h=>by
  have h2:=checkAllP_any [p] g 0 1 1 W rfl h (by omega)
  rw [hb] at h2
  exact h2
 have h2:decide (100 < (m:Int))=false:=by simp;omega
 clear hb
 go_enter Tryz.func134,Tryz.ntmps134
 go_wp2_with fail
 obtain ⟨W,hW⟩:∃ W,W=w.alloc (.cells #[.int .i64 p.x,.int .i64 p.y,.int .i64 p.z,.int .i64 p.h,.int .i64 p.s] 25):=⟨_,rfl⟩
 rw [← hW]
 have hbW:Below w.heap.size w W:=by rw [hW];exact (Below.refl _ _).alloc (Nat.le_refl _) _
 have hga:W.heap[w.heap.size]?=some (.cells #[.int .i64 p.x,.int .i64 p.y,.int .i64 p.z,.int .i64 p.h,.int .i64 p.s] 25 (0,0)):=by rw [hW];exact heap_alloc_new w _
 have hsW:W.heap.size=w.heap.size+1:=by rw [hW];simp
 have n0:W.cell? ⟨w.heap.size,0,none⟩=some (.int .i64 p.x):=cellsAt hga 0
 have n1:W.cell? ⟨w.heap.size,1,none⟩=some (.int .i64 p.y):=cellsAt hga 1
 have n2:W.cell? ⟨w.heap.size,2,none⟩=some (.int .i64 p.z):=cellsAt hga 2
 have n3:W.cell? ⟨w.heap.size,3,none⟩=some (.int .i64 p.h):=cellsAt hga 3
 have n4:W.cell? ⟨w.heap.size,4,none⟩=some (.int .i64 p.s):=cellsAt hga 4
 have HBW:Hid (Below w.heap.size w W):=hbW
 have e0:=World.new_ne W _ n0
 have e1:=World.new_ne W _ n1
 have e2:=World.new_ne W _ n2
 have e3:=World.new_ne W _ n3
 have e4:=World.new_ne W _ n4
 clear hga hW hbW
 go_region_held3 (fun w'=>w'.cell? ⟨w.heap.size,0,none⟩=some (.int .i64 p.x)∧w'.cell? ⟨w.heap.size,1,none⟩=some (.int .i64 p.y)∧w'.cell? ⟨w.heap.size,2,none⟩=some (.int .i64 p.z)∧w'.cell? ⟨w.heap.size,3,none⟩=some (.int .i64 p.h)∧w'.cell? ⟨w.heap.size,4,none⟩=some (.int .i64 p.s))
  (first
    | go_keep
    | (go_split_ands
       refine ⟨?_,?_,?_,?_,?_⟩
       all_goals ((rw [hb6.cell (by show w.heap.size < _;have h9:=hb3.size;simp at h9 ⊢;omega)];first | assumption | simp [*])))
    | (go_split_ands
       refine ⟨?_,?_,?_,?_,?_⟩
       all_goals ((rw [hb3.cell (by simp;omega)];first | assumption | simp [*])))
    )
  (first
    | (go_at_call 149;refine (HP.out _).mono ?_;rintro e w3 ⟨rfl,hb3⟩)
    | (go_at_call 148;refine (HK.out _ _ (prow_from (from_way1 hsW hb3))).mono ?_;rintro e w6 ⟨rfl,hb6⟩)
    | (go_at_call 148;refine (HK.out _ _ (prow_from (heap_alloc_new w3 _))).mono ?_;rintro e w6 ⟨rfl,hb6⟩))
 all_goals
  have HB6:Hid (Below w.heap.size w w6):=by
   first
    | exact ((HBW.out.alloc (by omega) _).drew.trans (hb3.mono (by simp;omega))).trans (hb6.mono (by have h9:=hb3.size;simp at h9;omega))
    | exact ((HBW.out.drew.trans (hb3.mono (by simp;omega))).alloc (by have:=hb3.size;simp at this;omega) _).trans (hb6.mono (by have h9:=hb3.size;simp at h9 ⊢;omega))
  clear hb6 hb3
  go_wp2_with fail
  go_ret2
  exact ⟨rfl,HB6.out⟩
end Go.Proofs.YtignmeaeibaejaaGreatDoor
