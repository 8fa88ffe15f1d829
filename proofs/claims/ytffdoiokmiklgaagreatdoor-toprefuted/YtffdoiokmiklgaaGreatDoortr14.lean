import Derived.Test.YtffdoiokmiklgaaGreatDoortr12
import Derived.Test.YtffdoiokmiklgaaGreatDoortr7
import Derived.Lib.ItoaNum
import Derived.Deep.RegionHeld3
namespace Go.Proofs.YtffdoiokmiklgaaGreatDoor
open Go.RowKit
set_option maxHeartbeats 800000 in
theorem times_any (m:Int) (w:World) (h:within m 0 20=true) :
 Calls Tryz.prog 95 #[.int .i64 m] w fun e w'=>e=.returned (.tuple #[.int .i64 (3 * (Lib.bitLen m.toNat:Nat)),.int .i64 0])∧w'=w:=by
 have hm:0≤m∧m≤20:=by simp [within] at h;omega
 have hl:(Lib.bitLen m.toNat:Int)≤64:=by have:=Lib.bitLen_le m.toNat 64 (by omega) (by omega);omega
 go_enter Tryz.func95,Tryz.ntmps95
 go_wp2_with (first | (go_at_call 76;refine (within_any _ _ _ _).mono ?_;rintro e w' ⟨rfl,rfl⟩;rw [h]) | (go_at_call 144;refine (Tryz.bits_Len _ _ (by omega) (by omega)).mono ?_;rintro e w' ⟨rfl,rfl⟩))
 go_ret2
 exact ⟨rfl,rfl⟩
def cmpZ (a b:Int):Int:=if a < b then -1 else if b < a then 1 else 0
set_option maxHeartbeats 800000 in
theorem compareZ_any (a b:Int) (w:World) :
 Calls Tryz.prog 211 #[.int .i64 a,.int .i64 b] w fun e w'=>e=.returned (.int .i64 (cmpZ a b))∧w'=w:=by
 go_enter Tryz.func211,Tryz.ntmps211
 go_wp2
 all_goals
  go_ret
  exact ⟨ret_int (by unfold cmpZ;(repeat' split)<;>omega),rfl⟩
def orZ (a b:Int):Int:=if a=0 then b else a
set_option maxHeartbeats 800000 in
theorem or_any (a b:Int) (g:Nat) (c:Nat) (w:World) (h0:w.cell? ⟨g,0,none⟩=some (.int .i64 a)) (h1:w.cell? ⟨g,1,none⟩=some (.int .i64 b)) :
 Calls Tryz.prog 210 #[.slice (some ⟨g,0,none⟩) 2 c] w fun e w'=>e=.returned (.int .i64 (orZ a b))∧w'=w:=by
 by_cases ha:a=0
 ·subst ha
  by_cases hb:b=0
  ·subst hb
   go_enter Tryz.func210,Tryz.ntmps210
   go_wp2_with fail
   refine wp_loop_rounds 3 ?_
   rw [rounds_succ]
   go_wp2_with fail
   rw [rounds_succ]
   go_wp2_with fail
   rw [rounds_succ]
   go_wp2_with fail
   go_ret
   exact ⟨rfl,rfl⟩
  ·have hb':(b != 0)=true:=by simpa using hb
   go_enter Tryz.func210,Tryz.ntmps210
   go_wp2_with fail
   refine wp_loop_rounds 3 ?_
   rw [rounds_succ]
   go_wp2_with fail
   rw [rounds_succ]
   go_wp2_with fail
   go_ret
   exact ⟨rfl,rfl⟩
 ·have ha':(a != 0)=true:=by simpa using ha
  go_enter Tryz.func210,Tryz.ntmps210
  go_wp2_with fail
  refine wp_loop_rounds 3 ?_
  rw [rounds_succ]
  go_wp2_with fail
  go_ret
  exact ⟨ret_int (by unfold orZ;rw [if_neg ha]),rfl⟩
def cfR (rs:List Rum) (i k:Nat):Int:=orZ (cmpZ (rs.getD i dr).told (rs.getD k dr).told) (cmpZ k i)
set_option maxHeartbeats 1600000 in
theorem turnF_any (ti tk:Int) (lb b off n ca i k:Nat) (w:World) (hl:w.cell? ⟨lb,0,none⟩=some (.slice (some ⟨b,off,none⟩) n ca)) (hi:i < n) (hk:k < n) (hti:w.cell? ⟨b,off+i * 6+5,none⟩=some (.int .i64 ti)) (htk:w.cell? ⟨b,off+k * 6+5,none⟩=some (.int .i64 tk)) :
 Calls Tryz.prog 209 #[.int .i64 i,.int .i64 k,.pointer (some ⟨lb,0,none⟩)] w fun e w'=>e=.returned (.int .i64 (orZ (cmpZ ti tk) (cmpZ k i)))∧w'=(w.alloc (.cells #[.int .i64 (cmpZ ti tk),.int .i64 (cmpZ k i)] 3)).drew:=by
 have hi0:(0:Int)≤(i:Int):=Int.natCast_nonneg _
 have hi1:(i:Int) < (n:Int):=by omega
 have hk0:(0:Int)≤(k:Int):=Int.natCast_nonneg _
 have hk1:(k:Int) < (n:Int):=by omega
 have h1:=World.new_ne w _ hl
 have h2:=World.new_ne w _ hti
 have h3:=World.new_ne w _ htk
 go_enter Tryz.func209,Tryz.ntmps209
 go_wp2_with fail
 go_region_held3 (fun w'=>w'.cell? ⟨lb,0,none⟩=some (.slice (some ⟨b,off,none⟩) n ca)∧w'.cell? ⟨b,off+i * 6+5,none⟩=some (.int .i64 ti)∧w'.cell? ⟨b,off+k * 6+5,none⟩=some (.int .i64 tk)) (go_keep) (first | (go_at_call 211;refine (compareZ_any _ _ _).mono ?_;rintro e w' ⟨rfl,rfl⟩) | (go_at_call 210;refine (or_any (cmpZ ti tk) (cmpZ k i) _ _ _ (cell_top' rfl) (cell_top' rfl)).mono ?_;rintro e w' ⟨rfl,rfl⟩))
 go_wp2_with fail
 go_ret
 exact ⟨rfl,rfl⟩
theorem flR_wrs {rs:List Rum} {p:Nat} (hp:p < rs.length) (r:Rum):wrs (flR rs) (p * 6) r.cs=flR (rs.set p r):=by
 apply List.ext_getElem?
 intro k
 by_cases hk:k < rs.length * 6
 ·have h2:=flR_get (rs.set p r) (k / 6) (by rw [List.length_set];omega) (k%6) (by omega)
  rw [show k / 6 * 6+k%6=k by omega] at h2
  rw [h2]
  by_cases hkp:k / 6=p
  ·rw [show (rs.set p r).getD (k / 6) dr=r by rw [hkp];simp [List.getD,List.getElem?_set_self hp]]
   have h3:=wrs_in r.cs (flR rs) (p * 6) (k%6) (by rw [rcs_len];omega) (by rw [rcs_len,flR_len];omega)
   rw [show p * 6+k%6=k by omega] at h3
   exact h3
  ·rw [show (rs.set p r).getD (k / 6) dr=rs.getD (k / 6) dr by simp [List.getD,List.getElem?_set_ne (Ne.symm hkp)]]
   rw [wrs_out _ _ _ _ (by rw [rcs_len];omega)]
   have h4:=flR_get rs (k / 6) (by omega) (k%6) (by omega)
   rw [show k / 6 * 6+k%6=k by omega] at h4
   exact h4
 ·rw [List.getElem?_eq_none (by rw [wrs_len,flR_len];omega),List.getElem?_eq_none (by rw [flR_len,List.length_set];omega)]
def keepR (times:Int) (r:Rum):Bool:=decide (r.told < times)
set_option maxHeartbeats 800000 in
theorem takeF_all (r:Rum) (tb:Nat) (times:Int) (w:World) (ht:w.cell? ⟨tb,0,none⟩=some (.int .i64 times)) :
 Calls Tryz.prog 147 #[.agg #[.string r.m.name,.int .i64 r.m.state,.int .i64 r.m.life,.int .i64 r.m.addr,.bool r.m.server,.int .i64 r.told],.pointer (some ⟨tb,0,none⟩)] w fun e w'=>e=.returned (.bool (!keepR times r))∧w'=w.alloc (.cells #[.string r.m.name,.int .i64 r.m.state,.int .i64 r.m.life,.int .i64 r.m.addr,.bool r.m.server,.int .i64 r.told] 98):=by
 have hb:tb < w.heap.size:=World.block_lt_of_cell? w _ ht
 have ht2:∀ ob,(w.alloc ob).cell? ⟨tb,0,none⟩=some (.int .i64 times):=fun ob=>by
  rw [((Below.refl w.heap.size w).alloc (Nat.le_refl _) ob).cell (p:=⟨tb,0,none⟩) hb];exact ht
 go_enter Tryz.func147,Tryz.ntmps147
 go_wp2_with fail
 go_ret
 refine ⟨ret_bool ?_,rfl⟩
 unfold keepR
 by_cases h:r.told < times
 ·rw [decide_eq_true h];simp;omega
 ·rw [decide_eq_false h];simp;omega
set_option maxHeartbeats 1600000 in
theorem indexFunc_any (rs:List Rum) (n b off c tb:Nat) (times:Int) (w:World) (hn:rs.length=n) (hsm:n≤1000) (hr:RRow w b off rs) (hb:n≠0→b < w.heap.size) (ht:w.cell? ⟨tb,0,none⟩=some (.int .i64 times)) :
 Calls Tryz.prog 189 #[.slice (some ⟨b,off,none⟩) n c,.func (.func 147) #[] #[.pointer (some ⟨tb,0,none⟩)]] w fun e w'=>
  ((e=.returned (.int .i64 (-1))∧∀ j,j < n→keepR times (rs.getD j dr)=true)∨(∃ i:Nat,i < n∧e=.returned (.int .i64 i)∧(∀ j,j < i→keepR times (rs.getD j dr)=true)∧keepR times (rs.getD i dr)=false))∧Below w.heap.size w w':=by
 have HR:Hid (RRow w b off rs):=hr
 have HN:Hid (rs.length=n):=hn
 have HT:Hid (w.cell? ⟨tb,0,none⟩=some (.int .i64 times)):=ht
 have htb:tb < w.heap.size:=World.block_lt_of_cell? w _ ht
 have HBB:Hid (n≠0→b < w.heap.size):=hb
 clear hr hn ht hb
 go_enter Tryz.func189,Tryz.ntmps189
 go_wp2_with fail
 go_loopw [8] (fun i wr=>∃ k:Nat,k≤n∧i=.int .i64 k∧Hid (∀ j,j < k→keepR times (rs.getD j dr)=true)∧Hid (Below w.heap.size w wr)) (fun i _=>n - (intOf i).toNat)
 case atStart=>exact ⟨0,Nat.zero_le _,rfl,fun j hj=>by omega,Below.refl _ _⟩
 case round=>
  obtain ⟨k,hk,rfl,HZ,HB⟩:=hrel
  by_cases hlt:k < n
  ·obtain ⟨c0,c1,c2,c3,c4,c5⟩:=HR.out.below HB.out (HBB.out (by omega)) k (by rw [HN.out];exact hlt)
   have ht2:wr.cell? ⟨tb,0,none⟩=some (.int .i64 times):=by rw [HB.out.cell (p:=⟨tb,0,none⟩) htb];exact HT.out
   have HZ2:Hid (keepR times (rs.getD k dr)=true→∀ j,j < k+1→keepR times (rs.getD j dr)=true):=fun h j hj=>by
    by_cases e:j=k
    ·subst e;exact h
    ·exact HZ.out j (by omega)
   have hF:=fun w h=>takeF_all (rs.getD k dr) tb times w h
   rcases hkp:keepR times (rs.getD k dr) with _ | _
   ·rw [hkp] at hF
    have HKP:Hid (keepR times (rs.getD k dr)=false):=hkp
    clear hkp HZ2
    generalize hrk:rs.getD k dr=rk at *
    have HRK:Hid (rs.getD k dr=rk):=hrk
    clear hrk
    obtain ⟨⟨nm,st,lf,ad,sv⟩,td⟩:=rk
    simp only at c0 c1 c2 c3 c4 c5 hF
    go_wp2_with fail
    refine (hF _ ht2).mono ?_
    rintro e w1 ⟨rfl,rfl⟩
    go_wp2_with fail
    go_ret
    exact ⟨.inr ⟨k,hlt,rfl,HZ.out,by rw [HRK.out];exact HKP.out⟩,HB.out.alloc HB.out.size _⟩
   ·rw [hkp] at hF
    have HZ3:Hid (∀ j,j < k+1→keepR times (rs.getD j dr)=true):=HZ2.out hkp
    clear hkp HZ2 HZ
    generalize (rs.getD k dr)=rk at *
    obtain ⟨⟨nm,st,lf,ad,sv⟩,td⟩:=rk
    simp only at c0 c1 c2 c3 c4 c5 hF
    go_wp2_with fail
    refine (hF _ ht2).mono ?_
    rintro e w1 ⟨rfl,rfl⟩
    go_wp2_with fail
    go_roundw
    case rel=>exact ⟨k+1,by omega,by go_num,HZ3,HB.out.alloc HB.out.size _⟩
    case measure=>simp [intOf];omega
  ·have HZ3:Hid (∀ j,j < n→keepR times (rs.getD j dr)=true):=fun j hj=>HZ.out j (by omega)
   clear HZ
   go_wp2_with fail
   go_ret
   exact ⟨.inl ⟨rfl,HZ3.out⟩,HB.out⟩
def zsR (m:Nat):List Value:=(Builtin.zeroCells #[.string ⟨#[]⟩,.int .i64 0,.int .i64 0,.int .i64 0,.bool false,.int .i64 0] m).toList
theorem zsR_len (m:Nat):(zsR m).length=m * 6:=by simp [zsR,Builtin.zeroCells]
theorem zsR_one (m:Nat):∀ v∈zsR m,v.oneCell'=true:=by
 intro v hv
 simp only [zsR,Builtin.zeroCells,Array.toList_map,List.mem_map] at hv
 obtain ⟨i,_,rfl⟩:=hv
 have h:i%6 < 6:=Nat.mod_lt _ (by decide)
 show Value.oneCell' (#[Value.string ⟨#[]⟩,.int .i64 0,.int .i64 0,.int .i64 0,.bool false,.int .i64 0][i%6]!)=true
 generalize i%6=k at h
 match k,h with
 | 0,_=>rfl
 | 1,_=>rfl
 | 2,_=>rfl
 | 3,_=>rfl
 | 4,_=>rfl
 | 5,_=>rfl
theorem run_clear_many (w:World) (ty:TypeId) (b o m c:Nat) (hm:0 < m) (hc:∀ j,j < m * 6→(w.cell? ⟨b,o+j,none⟩).isSome=true) (hf:∀ j,j < m * 6→w.frozen? ⟨b,o+j,none⟩=false) :
 (Builtin.clear_ #[46] ty #[.slice (some ⟨b,o,none⟩) m c]).run Tryz.prog w=.ok (.tuple #[]) (w.setCells b o (zsR m)):=by
 have hst:=run_storeCells_cells (P:=Tryz.prog) b o (zsR m) 0 w (fun j hj=>by simpa using hc j (by rw [zsR_len] at hj;exact hj)) (fun j hj=>by simpa using hf j (by rw [zsR_len] at hj;exact hj)) (zsR_one m)
 simp only [Nat.add_zero] at hst
 have hzc:(Builtin.zeroCells (Value.agg #[.string ⟨#[]⟩,.int .i64 0,.int .i64 0,.int .i64 0,.bool false,.int .i64 0]).cells m).toList=zsR m:=rfl
 obtain ⟨k,rfl⟩:∃ k,m=k+1:=⟨m - 1,by omega⟩
 simp [Builtin.clear_,run_underlying Tryz.underlying46,hzc,hst]
theorem filter_yes {times:Int} {r:Rum} (h:keepR times r=true):[r].filter (keepR times)=[r]:=by simp [h]
theorem filter_no {times:Int} {r:Rum} (h:keepR times r=false):[r].filter (keepR times)=[]:=by simp [h]
structure Cur (rs cur:List Rum) (times:Int) (i j:Nat):Prop where
 len:cur.length=rs.length
 head:cur.take i=(rs.take j).filter (keepR times)
 tail:cur.drop j=rs.drop j
theorem Cur.keep {rs cur:List Rum} {times:Int} {i j:Nat} (h:Cur rs cur times i j) (hij:i < j) (hj:j < rs.length) (hk:keepR times (rs.getD j dr)=true):Cur rs (cur.set i (rs.getD j dr)) times (i+1) (j+1):=by
 have hs:rs.take (j+1)=rs.take j++[rs.getD j dr]:=by rw [List.take_succ_eq_append_getElem hj];simp [List.getD,List.getElem?_eq_getElem hj]
 have hi:i < cur.length:=by rw [h.len];omega
 refine ⟨by rw [List.length_set];exact h.len,?_,?_⟩
 ·rw [hs,List.filter_append,← h.head,List.take_succ_eq_append_getElem (by rw [List.length_set];exact hi),List.getElem_set_self,List.take_set,List.set_eq_of_length_le (by rw [List.length_take];omega),filter_yes hk]
 ·rw [List.drop_set_of_lt (by omega)]
  have:=congrArg (List.drop 1) h.tail
  rwa [List.drop_drop,List.drop_drop] at this
theorem Cur.skip {rs cur:List Rum} {times:Int} {i j:Nat} (h:Cur rs cur times i j) (hj:j < rs.length) (hk:keepR times (rs.getD j dr)=false):Cur rs cur times i (j+1):=by
 have hs:rs.take (j+1)=rs.take j++[rs.getD j dr]:=by rw [List.take_succ_eq_append_getElem hj];simp [List.getD,List.getElem?_eq_getElem hj]
 refine ⟨h.len,?_,?_⟩
 ·rw [hs,List.filter_append,← h.head,filter_no hk,List.append_nil]
 ·have:=congrArg (List.drop 1) h.tail
  rwa [List.drop_drop,List.drop_drop] at this
theorem Cur.get {rs cur:List Rum} {times:Int} {i j:Nat} (h:Cur rs cur times i j):cur.getD j dr=rs.getD j dr:=by
 have:=congrArg (fun l:List Rum=>l[0]?.getD dr) h.tail
 simpa [List.getD,List.getElem?_drop] using this
theorem filter_all {times:Int} {rs:List Rum} (h:∀ j,j < rs.length→keepR times (rs.getD j dr)=true):rs.filter (keepR times)=rs:=by
 rw [List.filter_eq_self]
 intro r hr
 obtain ⟨j,hj,rfl⟩:=List.getElem_of_mem hr
 have:=h j hj
 rwa [show rs.getD j dr=rs[j] by simp [List.getD,List.getElem?_eq_getElem hj]] at this
theorem Cur.start {rs:List Rum} {times:Int} {i:Nat} (hi:i < rs.length) (h1:∀ j,j < i→keepR times (rs.getD j dr)=true) (h2:keepR times (rs.getD i dr)=false):Cur rs rs times i (i+1):=by
 have hs:rs.take (i+1)=rs.take i++[rs.getD i dr]:=by rw [List.take_succ_eq_append_getElem hi];simp [List.getD,List.getElem?_eq_getElem hi]
 refine ⟨rfl,?_,rfl⟩
 rw [hs,List.filter_append,filter_all (rs:=rs.take i) (fun j hj=>by
  have hji:j < i:=by rw [List.length_take] at hj;omega
  have:=h1 j hji
  rwa [show (rs.take i).getD j dr=rs.getD j dr by simp [List.getD,List.getElem?_take_of_lt hji]]),filter_no h2,List.append_nil]
def Far (g:Nat) (w w':World):Prop:=w.heap.size≤w'.heap.size∧∀ k,k < w.heap.size→k≠g→w'.heap[k]?=w.heap[k]?
theorem Far.trans {g:Nat} {a b c:World} (h:Far g a b) (k:Far g b c):Far g a c:=⟨Nat.le_trans h.1 k.1,fun j hj hg=>(k.2 j (Nat.lt_of_lt_of_le hj h.1) hg).trans (h.2 j hj hg)⟩
theorem Far.of {g:Nat} {w w':World} (h:Below w.heap.size w w'):Far g w w':=⟨h.size,fun k hk _=>h.block k hk⟩
theorem Far.setCell {g:Nat} {w w':World} (h:Far g w w') (o:Nat) (v:Value):Far g w (w'.setCell ⟨g,o,none⟩ v):=by
 refine ⟨by simpa using h.1,fun k hk hg=>?_⟩
 have e:(w'.setCell ⟨g,o,none⟩ v).heap[k]?=w'.heap[k]?:=by
  simp only [World.setCell,Array.getElem?_modify]
  rw [if_neg (Ne.symm hg)]
 rw [e];exact h.2 k hk hg
theorem Far.setCells {g:Nat}:∀ (vs:List Value) (o:Nat) (w w':World),Far g w w'→Far g w (w'.setCells g o vs)
 | [],_,_,_,h=>h
 | v :: r,o,w,_,h=>Far.setCells r (o+1) w _ (h.setCell o v)
set_option maxHeartbeats 6400000 in
set_option maxRecDepth 100000 in
theorem deleteFunc_any (rs:List Rum) (n g c tb base:Nat) (times:Int) (w:World) (hn:rs.length=n) (hsm:n≤1000) (ho:ROwn base w (.slice (some ⟨g,0,none⟩) n c) rs) (hbase:base≤w.heap.size) (htb:tb < base) (ht:w.cell? ⟨tb,0,none⟩=some (.int .i64 times)) :
 Calls Tryz.prog 146 #[.slice (some ⟨g,0,none⟩) n c,.func (.func 147) #[] #[.pointer (some ⟨tb,0,none⟩)]] w fun e w'=>∃ m,e=.returned (.slice (some ⟨g,0,none⟩) m c)∧ROwn base w' (.slice (some ⟨g,0,none⟩) m c) (rs.filter (keepR times))∧Below base w w'∧Far g w w':=by
 have HO:Hid (ROwn base w (.slice (some ⟨g,0,none⟩) n c) rs):=ho
 have HN:Hid (rs.length=n):=hn
 have HT:Hid (w.cell? ⟨tb,0,none⟩=some (.int .i64 times)):=ht
 obtain ⟨hgl,hgh⟩:=HO.out.lt g rfl
 obtain ⟨hnc,hcm⟩:n≤c∧c≤maxLen:=by
  rcases HO.out.2 with ⟨hv,_⟩ | ⟨g',c',cur,hv,hbg,hg,hnc,hcm,hcs,htake⟩
  ·cases hv
  ·simp only [Value.slice.injEq,Option.some.injEq,Addr.mk.injEq,and_true] at hv
   obtain ⟨rfl,rfl,rfl⟩:=hv
   exact ⟨by omega,hcm⟩
 unfold maxLen at hcm
 clear ho hn ht
 go_enter Tryz.func146,Tryz.ntmps146
 go_wp2_with fail
 refine (indexFunc_any rs n g 0 c tb times _ HN.out hsm (rown_row HO.out) (fun _=>hgh) HT.out).mono ?_
 rintro e w1 ⟨⟨rfl,hall⟩ | ⟨i0,hi0,rfl,hlo,hhi⟩,hb1⟩
 ·have HF:Hid (rs.filter (keepR times)=rs):=filter_all (fun j hj=>hall j (by rw [HN.out] at hj;exact hj))
  have HO1:Hid (ROwn base w1 (.slice (some ⟨g,0,none⟩) n c) rs):=HO.out.below hb1
  have HB1:Hid (Below base w w1):=hb1.mono hbase
  have HFA:Hid (Far g w w1):=Far.of hb1
  clear hall hb1
  go_wp2_with fail
  go_ret
  exact ⟨n,rfl,by rw [HF.out];exact HO1.out,HB1.out,HFA.out⟩
 ·have HO1:Hid (ROwn base w1 (.slice (some ⟨g,0,none⟩) n c) rs):=HO.out.below hb1
  have HB1:Hid (Below base w w1):=hb1.mono hbase
  have HC1:Hid (Cur rs rs times i0 (i0+1)):=Cur.start (by rw [HN.out];exact hi0) hlo hhi
  have HFA:Hid (Far g w w1):=Far.of hb1
  clear hlo hhi hb1
  go_wp2_with fail
  go_loopw [5,6] (fun x y wr=>∃ (i j:Nat) (cur:List Rum),i < j∧j≤n∧x=.int .i64 i∧y=.int .i64 j∧Hid (Cur rs cur times i j)∧Hid (ROwn base wr (.slice (some ⟨g,0,none⟩) n c) cur)∧Hid (Below base w wr)∧Hid (Far g w wr)) (fun _ y _=>n - (intOf y).toNat)
  case atStart=>exact ⟨i0,i0+1,rs,by omega,by omega,rfl,by go_num,HC1,HO1,HB1,HFA⟩
  case round=>
   clear HO1 HB1 HC1 HFA
   obtain ⟨i,j,cur,hij,hj,rfl,rfl,HC,HOW,HB,HFA⟩:=hrel
   have hsz:base≤wr.heap.size:=by have:=HB.out.size;omega
   have hgw:g < wr.heap.size:=(HOW.out.lt g rfl).2
   have hcl:cur.length=n:=by rw [HC.out.len,HN.out]
   by_cases hlt:j < n
   ·obtain ⟨c0,c1,c2,c3,c4,c5⟩:=rown_row HOW.out j (by rw [hcl];exact hlt)
    rw [HC.out.get] at c0 c1 c2 c3 c4 c5
    have ht2:∀ ob,(wr.alloc ob).cell? ⟨tb,0,none⟩=some (.int .i64 times):=fun ob=>by
     rw [((Below.refl wr.heap.size wr).alloc (Nat.le_refl _) ob).cell (p:=⟨tb,0,none⟩) (by simp only;omega),HB.out.cell (p:=⟨tb,0,none⟩) htb];exact HT.out
    have hF:=fun w h=>takeF_all (rs.getD j dr) tb times w h
    simp only [Nat.zero_add] at c0 c1 c2 c3 c4 c5
    rcases hkp:keepR times (rs.getD j dr) with _ | _
    ·have HC2:Hid (Cur rs cur times i (j+1)):=HC.out.skip (by rw [HN.out];exact hlt) hkp
     rw [hkp] at hF
     clear hkp HC
     generalize (rs.getD j dr)=rk at *
     obtain ⟨⟨nm,st,lf,ad,sv⟩,td⟩:=rk
     simp only at c0 c1 c2 c3 c4 c5 hF
     go_wp2_with fail
     refine (hF _ (ht2 _)).mono ?_
     rintro e w2 ⟨rfl,rfl⟩
     have hb2:Below wr.heap.size wr ((wr.alloc (.cells #[.string nm,.int .i64 st,.int .i64 lf,.int .i64 ad,.bool sv,.int .i64 td] 98)).alloc (.cells #[.string nm,.int .i64 st,.int .i64 lf,.int .i64 ad,.bool sv,.int .i64 td] 98)):=((Below.refl _ _).alloc (Nat.le_refl _) _).alloc (by simp) _
     have HO2:=HOW.out.below hb2
     have HO3:Hid (ROwn base ((wr.alloc (.cells #[.string nm,.int .i64 st,.int .i64 lf,.int .i64 ad,.bool sv,.int .i64 td] 98)).alloc (.cells #[.string nm,.int .i64 st,.int .i64 lf,.int .i64 ad,.bool sv,.int .i64 td] 98)) (.slice (some ⟨g,0,none⟩) n c) cur):=HO2
     have HB3:Hid (Below base w ((wr.alloc (.cells #[.string nm,.int .i64 st,.int .i64 lf,.int .i64 ad,.bool sv,.int .i64 td] 98)).alloc (.cells #[.string nm,.int .i64 st,.int .i64 lf,.int .i64 ad,.bool sv,.int .i64 td] 98))):=HB.out.trans (hb2.mono hsz)
     have HF3:Hid (Far g w ((wr.alloc (.cells #[.string nm,.int .i64 st,.int .i64 lf,.int .i64 ad,.bool sv,.int .i64 td] 98)).alloc (.cells #[.string nm,.int .i64 st,.int .i64 lf,.int .i64 ad,.bool sv,.int .i64 td] 98))):=HFA.out.trans (Far.of hb2)
     clear hb2 HO2
     go_wp2_with fail
     refine ⟨⟨_,_,_,_,_,_,_,_,_,_,_,_,_,_,_,_,_,_,_,_,_,_,_,⟨i,j+1,cur,by omega,by omega,rfl,by go_num,HC2,HO3,HB3,HF3⟩,rfl⟩,?_⟩
     simp [intOf];omega
    ·have HC2:Hid (Cur rs (cur.set i (rs.getD j dr)) times (i+1) (j+1)):=HC.out.keep hij (by rw [HN.out];exact hlt) hkp
     rw [hkp] at hF
     have hfz:∀ o,wr.frozen? ⟨g,o,none⟩=false:=fun o=>World.ownsRow.frozenAt (n:=n) (xs:=flR cur) (by have h:=HOW.out;have h2:wr.ownsRow base 98 6 (.slice (some ⟨g,0,none⟩) n c) cur.length (flR cur):=h;rw [hcl] at h2;exact h2) o
     obtain ⟨d0,d1,d2,d3,d4,d5⟩:=rown_row HOW.out i (by rw [hcl];omega)
     simp only [Nat.zero_add] at d0 d1 d2 d3 d4 d5
     clear hkp HC
     generalize (rs.getD j dr)=rk at *
     obtain ⟨⟨nm,st,lf,ad,sv⟩,td⟩:=rk
     simp only at c0 c1 c2 c3 c4 c5 hF
     have hOS:(wr.setCells g (i * 6) (Rum.mk ⟨nm,st,lf,ad,sv⟩ td).cs).ownsRow base 98 6 (.slice (some ⟨g,0,none⟩) n c) n (flR (cur.set i ⟨⟨nm,st,lf,ad,sv⟩,td⟩)):=by
      have h2:wr.ownsRow base 98 6 (.slice (some ⟨g,0,none⟩) n c) cur.length (flR cur):=HOW.out
      rw [hcl] at h2
      have h3:=stored_all (Rum.mk ⟨nm,st,lf,ad,sv⟩ td).cs _ (i * 6) _ h2
      rwa [flR_wrs (by rw [hcl];omega)] at h3
     have HOS:Hid (ROwn base (wr.setCells g (i * 6) (Rum.mk ⟨nm,st,lf,ad,sv⟩ td).cs) (.slice (some ⟨g,0,none⟩) n c) (cur.set i ⟨⟨nm,st,lf,ad,sv⟩,td⟩)):=(show World.ownsRow _ _ _ _ _ (cur.set i ⟨⟨nm,st,lf,ad,sv⟩,td⟩).length _ by rw [List.length_set,hcl];exact hOS)
     have HFS:Hid (Far g w (wr.setCells g (i * 6) (Rum.mk ⟨nm,st,lf,ad,sv⟩ td).cs)):=Far.setCells _ _ _ _ HFA.out
     have HBS:Hid (Below base w (wr.setCells g (i * 6) (Rum.mk ⟨nm,st,lf,ad,sv⟩ td).cs)):=below_setCells hgl _ _ _ _ HB.out
     clear hOS
     go_wp2_with fail
     refine (hF _ (ht2 _)).mono ?_
     rintro e w2 ⟨rfl,rfl⟩
     go_wp2_with fail
     have hbz:Below (wr.setCells g (i * 6) (Rum.mk ⟨nm,st,lf,ad,sv⟩ td).cs).heap.size (wr.setCells g (i * 6) (Rum.mk ⟨nm,st,lf,ad,sv⟩ td).cs) (((wr.setCells g (i * 6) (Rum.mk ⟨nm,st,lf,ad,sv⟩ td).cs).alloc (.cells #[.string nm,.int .i64 st,.int .i64 lf,.int .i64 ad,.bool sv,.int .i64 td] 98)).alloc (.cells #[.string nm,.int .i64 st,.int .i64 lf,.int .i64 ad,.bool sv,.int .i64 td] 98)):=((Below.refl _ _).alloc (Nat.le_refl _) _).alloc (by simp) _
     refine ⟨⟨_,_,_,_,_,_,_,_,_,_,_,_,_,_,_,_,_,_,_,_,_,_,_,⟨i+1,j+1,cur.set i ⟨⟨nm,st,lf,ad,sv⟩,td⟩,by omega,by omega,by go_num,by go_num,HC2,HOS.out.below hbz,HBS.out.trans (hbz.mono (by have:=HBS.out.size;omega)),HFS.out.trans (Far.of hbz)⟩,rfl⟩,?_⟩
     simp [intOf];omega
   ·have hjn:j=n:=by omega
    subst hjn
    have HR:Hid (cur.take i=rs.filter (keepR times)):=by
     have h:=HC.out.head
     rw [show rs.take j=rs by rw [← HN.out];exact List.take_length] at h
     exact h
    have hOW:wr.ownsRow base 98 6 (.slice (some ⟨g,0,none⟩) j c) j (flR cur):=by
     have h2:wr.ownsRow base 98 6 (.slice (some ⟨g,0,none⟩) j c) cur.length (flR cur):=HOW.out
     rw [hcl] at h2;exact h2
    have hclear:∀ ty,(Builtin.clear_ #[46] ty #[.slice (some ⟨g,i * 6,none⟩) (j - i) (c - i)]).run Tryz.prog wr=.ok (.tuple #[]) (wr.setCells g (i * 6) (zsR (j - i))):=fun ty=>
     run_clear_many _ ty g _ _ _ (by omega) (fun k hk=>by rw [World.ownsRow.cellAt hOW _ (by omega),List.getElem?_eq_getElem (by rw [flR_len,hcl];omega)];rfl) (fun k _=>World.ownsRow.frozenAt hOW _)
    have HF:Hid ((wr.setCells g (i * 6) (zsR (j - i))).ownsRow base 98 6 (.slice (some ⟨g,0,none⟩) i c) i (flR (cur.take i))):=by
     have h:=owns_shrink (m:=i) (stored_all (zsR (j - i)) _ (i * 6) _ hOW) (by omega)
     rw [take_eq_of (ys:=flR (cur.take i)) (by rw [wrs_len,flR_len,hcl];omega) (by rw [flR_len,List.length_take];omega) (fun k hk=>by
      rw [wrs_out _ _ _ _ (by omega),← flR_take,List.getElem?_take_of_lt hk])] at h
     exact h
    have HLT:Hid ((cur.take i).length=i):=(show (cur.take i).length=i by rw [List.length_take];omega)
    have HBF:Hid (Below base w (wr.setCells g (i * 6) (zsR (j - i)))):=below_setCells hgl _ _ _ _ HB.out
    have HFF:Hid (Far g w (wr.setCells g (i * 6) (zsR (j - i)))):=Far.setCells _ _ _ _ HFA.out
    have hic:i≤c:=by omega
    have hcne:¬ c=i:=by omega
    clear hOW HOW HB HC
    go_wp2_with fail
    go_ret
    refine ⟨i,rfl,?_,HBF.out,HFF.out⟩
    rw [← HR.out]
    show World.ownsRow _ _ _ _ _ (cur.take i).length _
    rw [HLT.out]
    exact HF.out
structure IsOrd (rs:List Rum) (ord:List Nat):Prop where
 perm:ord.Perm (List.range rs.length)
 less:∀ i j,i < j→j < ord.length→cfR rs (ord.getD i 0) (ord.getD j 0) < 0
theorem IsOrd.len {rs:List Rum} {ord:List Nat} (h:IsOrd rs ord):ord.length=rs.length:=by rw [h.perm.length_eq];simp
theorem IsOrd.bd {rs:List Rum} {ord:List Nat} (h:IsOrd rs ord):∀ x∈ord,x < rs.length:=fun x hx=>by simpa using h.perm.mem_iff.1 hx
theorem IsOrd.nodup {rs:List Rum} {ord:List Nat} (h:IsOrd rs ord):ord.Nodup:=h.perm.nodup_iff.2 List.nodup_range
theorem ord_get {ord:List Nat} {j:Nat} (h:j < ord.length):ord.getD j 0=ord[j]:=by simp [List.getD,List.getElem?_eq_getElem h]
theorem IsOrd.lt {rs:List Rum} {ord:List Nat} (h:IsOrd rs ord) {j:Nat} (hj:j < rs.length):ord.getD j 0 < rs.length:=by
 have hj':j < ord.length:=by rw [h.len];exact hj
 rw [ord_get hj']
 exact h.bd _ (List.getElem_mem hj')
theorem IsOrd.fresh {rs:List Rum} {ord:List Nat} (h:IsOrd rs ord) {j:Nat} (hj:j < rs.length):ord.getD j 0 ∉ ord.take j:=by
 have hj':j < ord.length:=by rw [h.len];exact hj
 rw [ord_get hj']
 intro hm
 obtain ⟨i,hi,e⟩:=List.getElem_of_mem hm
 rw [List.length_take] at hi
 rw [List.getElem_take] at e
 exact List.pairwise_iff_getElem.1 h.nodup i j (by omega) hj' (by omega) e
def bumpOne (l:List Rum) (i:Nat):List Rum:=l.set i ⟨(l.getD i dr).m,(l.getD i dr).told+1⟩
def bump (rs:List Rum) (ord:List Nat) (k:Nat):List Rum:=(ord.take k).foldl bumpOne rs
def toldL (rs:List Rum) (ord:List Nat) (k:Nat):List Mem:=(ord.take k).map (fun i=>(rs.getD i dr).m)
theorem bump_zero (rs:List Rum) (ord:List Nat):bump rs ord 0=rs:=by simp [bump]
theorem toldL_zero (rs:List Rum) (ord:List Nat):toldL rs ord 0=[]:=by simp [toldL]
theorem take_ord {ord:List Nat} {k:Nat} (h:k < ord.length):ord.take (k+1)=ord.take k++[ord.getD k 0]:=by
 rw [List.take_succ_eq_append_getElem h,ord_get h]
theorem bump_succ {rs:List Rum} {ord:List Nat} {k:Nat} (h:k < ord.length):bump rs ord (k+1)=bumpOne (bump rs ord k) (ord.getD k 0):=by
 unfold bump
 rw [take_ord h,List.foldl_append]
 rfl
theorem toldL_succ {rs:List Rum} {ord:List Nat} {k:Nat} (h:k < ord.length):toldL rs ord (k+1)=toldL rs ord k++[(rs.getD (ord.getD k 0) dr).m]:=by
 unfold toldL
 rw [take_ord h,List.map_append]
 rfl
theorem foldl_len:∀ (is:List Nat) (l:List Rum),(is.foldl bumpOne l).length=l.length
 | [],_=>rfl
 | i :: r,l=>by rw [List.foldl_cons,foldl_len r,bumpOne,List.length_set]
theorem bump_len (rs:List Rum) (ord:List Nat) (k:Nat):(bump rs ord k).length=rs.length:=foldl_len _ _
theorem foldl_other:∀ (is:List Nat) (l:List Rum) (j:Nat),j ∉ is→(is.foldl bumpOne l).getD j dr=l.getD j dr
 | [],_,_,_=>rfl
 | i :: r,l,j,h=>by
   simp only [List.mem_cons,not_or] at h
   rw [List.foldl_cons,foldl_other r _ j h.2,bumpOne]
   simp [List.getD,List.getElem?_set_ne (Ne.symm h.1)]
theorem bump_fresh {rs:List Rum} {ord:List Nat} (h:IsOrd rs ord) {k:Nat} (hk:k < rs.length):(bump rs ord k).getD (ord.getD k 0) dr=rs.getD (ord.getD k 0) dr:=
 foldl_other _ _ _ (h.fresh hk)
end Go.Proofs.YtffdoiokmiklgaaGreatDoor
