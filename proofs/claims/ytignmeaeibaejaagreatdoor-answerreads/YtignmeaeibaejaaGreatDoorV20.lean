import Derived.Test.YtignmeaeibaejaaGreatDoorV11
import Derived.Laws.EntriesVeiled
namespace Go.Proofs.YtignmeaeibaejaaGreatDoor
open Go.RowKit Go.Shelf Go.Lib Go.WideMaps Go.Maps
def FrB (B:Nat) (w:World) (v:Value):Prop:=∀ g,v.ownBlock=some g→B≤g∧g < w.heap.size∧∀ j,w.frozen? ⟨g,j,none⟩=false
theorem FrB.mono {B B':Nat} {w:World} {v:Value} (h:FrB B w v) (hb:B'≤B):FrB B' w v:=fun g hg=>⟨Nat.le_trans hb (h g hg).1,(h g hg).2⟩
theorem sortT_any (ns:List ByteArray) (D:DataW Unit) (n B db kb g:Nat) (vs:Value) (w:World) (ho:OwnS B w vs ns) (hl:ns.length≤100) (hsz:∀ j,(ns.getD j ByteArray.empty).size≤maxLen) (hd:w.cell? ⟨db,0,none⟩=some (.func (.func 151) #[] #[.pointer (some ⟨kb,0,none⟩)])) (hk:w.cell? ⟨kb,0,none⟩=some (.map (some g))) (hm:w.ownsMap Tryz.prog 9 (plainElem (H:=Unit) Tryz.prog 3) g n D) (h1:db < B) (h2:kb < B) (h3:g < B) :
 Calls Tryz.prog 153 #[vs,.func (.func 154) #[] #[.pointer (some ⟨db,0,none⟩)]] w fun e w'=>e=.returned (.tuple #[])∧TSl w' vs (So.insAll (ltN (dV D)) ns)∧FrB B w' vs∧Below B w w':=by
 rcases ho.2 with ⟨hv,h0⟩ | ⟨gb,c,cur,hv,hbg,hg,hnc,hcm,hcs,htake⟩
 ·subst hv
  have he:ns=[]:=List.length_eq_zero_iff.1 h0
  subst he
  refine (show Calls Tryz.prog 153 #[.slice none 0 0,.func (.func 154) #[] #[.pointer (some ⟨db,0,none⟩)]] w fun e w'=>e=.returned (.tuple #[])∧w'=w from AnyF.slices_SortFunc_none (P:=Tryz.prog) (ρ:=Tryz.sortS_ren) { Tryz.sortS with } none 0 _ w).mono ?_
  rintro e w' ⟨rfl,rfl⟩
  exact ⟨rfl,⟨none,0,rfl,fun j=>by simp [So.insAll],.inl rfl⟩,(fun g hg=>by cases hg),Below.refl _ _⟩
 ·subst hv
  by_cases h0:ns=[]
  ·subst h0
   refine (show Calls Tryz.prog 153 #[.slice (some ⟨gb,0,none⟩) 0 c,.func (.func 154) #[] #[.pointer (some ⟨db,0,none⟩)]] w fun e w'=>e=.returned (.tuple #[])∧w'=w from AnyF.slices_SortFunc_none (P:=Tryz.prog) (ρ:=Tryz.sortS_ren) { Tryz.sortS with } (some ⟨gb,0,none⟩) c _ w).mono ?_
   rintro e w' ⟨rfl,rfl⟩
   refine ⟨rfl,⟨some ⟨gb,0,none⟩,c,rfl,fun j=>by simp [So.insAll],.inl rfl⟩,fun g hg2=>?_,Below.refl _ _⟩
   obtain rfl:gb=g:=by simpa [Value.ownBlock] using hg2
   exact ⟨hbg,(Array.getElem?_eq_some_iff.1 hg).1,fun j=>World.ownsRow.frozenAt ho j⟩
  ·obtain ⟨m,hn⟩:∃ m,ns.length=m+1:=⟨ns.length - 1,by have:=List.length_pos_iff.2 h0;omega⟩
   have hcell:∀ j,j < m+1→w.cell? ⟨gb,j,none⟩=some (.string (nm ns j)):=fun j hj=>by
    rw [World.ownsRow.cellAt ho j (by omega)]
    simp [nm,List.getD,List.getElem?_eq_getElem (show j < ns.length by omega)]
   have hfz:∀ j,w.frozen? ⟨gb,j,none⟩=false:=fun j=>World.ownsRow.frozenAt ho j
   have h:=sortF_any ns m db kb g n gb c D w hn (by omega) hsz hd hk hm (by omega) (by omega) (by omega) hcell hfz hbg
   rw [hn]
   refine h.mono ?_
   rintro e w' ⟨h1,h2,h3,h4⟩
   refine ⟨h1,h2,fun g hg2=>?_,h3⟩
   obtain rfl:gb=g:=by simpa [Value.ownBlock] using hg2
   exact ⟨hbg,Nat.lt_of_lt_of_le (Array.getElem?_eq_some_iff.1 hg).1 h3.size,h4⟩
set_option maxHeartbeats 12800000 in
set_option maxRecDepth 100000 in
theorem sort_good (p:Pl) (ms:List Wh.Whe) (v vn:Value) (ns:List ByteArray) (w:World) (hv:Wh.Sl w v ms) (ht:TSl w vn ns) (hn:ms.length≤100) (hm:ns.length≤100) (hb:chkPs (p :: (plcs ms).map toPl)=0) :
 Calls Tryz.prog 134 #[.agg #[.int .i64 p.x,.int .i64 p.y,.int .i64 p.z,.int .i64 p.h,.int .i64 p.s],v,vn] w fun e w'=>∃ v',e=.returned (.tuple #[v',.int .i64 0])∧TSl w' v' (srt p ms ns)∧FrB w.heap.size w' v'∧Below w.heap.size w w':=by
 obtain ⟨i0,hi0,hz0,hzs,hzb⟩:=info_parts Tryz.infoPl
 have hpl:(plcs ms).length=ms.length:=plcs_len ms
 have hz:=(chkPs_zero _).1 hb
 have hok:OkP p:=(okP_iff p).1 (by have:=hz 0 (by simp);simpa using this)
 have hoks:∀ j,j < ms.length→OkP (toPl (plc (ms.getD j Wh.dm))):=fun j hj=>by
  have:=hz (j+1) (by simp [hpl];exact hj)
  refine (okP_iff _).1 ?_
  simpa [List.getD,plcs,List.getElem?_eq_getElem hj] using this
 have HV:Hid (Wh.Sl w v ms):=hv
 have HTN:Hid (TSl w vn ns):=ht
 have HSZ:Hid (∀ j,(ns.getD j ByteArray.empty).size≤maxLen):=by obtain ⟨_,_,_,h,_⟩:=ht;exact h
 have HDI:Hid (∀ W,Wh.Sl W v ms→Calls Tryz.prog 150 #[.agg #[.int .i64 p.x,.int .i64 p.y,.int .i64 p.z,.int .i64 p.h,.int .i64 p.s],v] W fun e w'=>∃ g,e=.returned (.map (some g))∧Hid (w'.ownsMap Tryz.prog 9 (plainElem (H:=Unit) Tryz.prog 3) g ms.length (Dd (farW p) ms ms.length))∧W.heap.size≤g∧g < w'.heap.size∧Below W.heap.size W w'):=fun W h=>distances_any p ms v W h hn hok hoks
 have HCL:Hid (∀ W,TSl W vn ns→Calls Tryz.prog 152 #[vn] W fun e w'=>∃ v',e=.returned v'∧Hid (OwnS W.heap.size w' v' ns)∧Below W.heap.size W w'):=fun W h=>tclone_any ns vn W h (by omega)
 have HSO:Hid (∀ (B db kb g:Nat) (vs:Value) (W:World),OwnS B W vs ns→W.cell? ⟨db,0,none⟩=some (.func (.func 151) #[] #[.pointer (some ⟨kb,0,none⟩)])→W.cell? ⟨kb,0,none⟩=some (.map (some g))→W.ownsMap Tryz.prog 9 (plainElem (H:=Unit) Tryz.prog 3) g ms.length (Dd (farW p) ms ms.length)→db < B→kb < B→g < B →
  Calls Tryz.prog 153 #[vs,.func (.func 154) #[] #[.pointer (some ⟨db,0,none⟩)]] W fun e w'=>e=.returned (.tuple #[])∧Hid (TSl w' vs (srt p ms ns))∧Hid (FrB B w' vs)∧Below B W w'):=fun B db kb g vs W h1 h2 h3 h4 h5 h6 h7=>sortT_any ns _ ms.length B db kb g vs W h1 hm HSZ.out h2 h3 h4 h5 h6 h7
 obtain ⟨pa,ca,hvv,_,_⟩:=hv
 obtain ⟨pn,cn,hvn,_,_⟩:=ht
 subst hvv hvn
 have h1:decide (100 < (ms.length:Int))=false:=by simp;omega
 have h2:decide (100 < (ns.length:Int))=false:=by simp;omega
 have HPL:Hid ((plcs ms).length=ms.length):=hpl
 have HP0:Hid (ms.length=0→∀ W,Calls Tryz.prog 149 #[.slice pa ms.length ca] W fun e w'=>e=.returned (.slice none 0 0)∧Below W.heap.size W w'):=fun h0 W=>by
  rw [h0]
  refine (places_none pa ca W).mono ?_
  rintro e w' ⟨rfl,rfl⟩
  exact ⟨rfl,Below.refl _ _⟩
 have HP1:Hid (0 < ms.length→∀ W,Wh.Sl W (.slice pa ms.length ca) ms→Calls Tryz.prog 149 #[.slice pa ms.length ca] W fun e w'=>∃ g c,e=.returned (.slice (some ⟨g,0,none⟩) ms.length c)∧Pc.Own W.heap.size w' (.slice (some ⟨g,0,none⟩) ms.length c) (plcs ms)∧Below W.heap.size W w'):=fun hpos W h=>by
  refine (places_any ms _ W h hn).mono ?_
  rintro e w' ⟨v',rfl,ho,hbl⟩
  obtain ⟨g,c,hvv⟩:=Pc.own_form ho 0 (by rw [HPL.out];exact hpos)
  subst hvv
  rw [HPL.out] at ho
  exact ⟨g,c,by rw [HPL.out],ho,hbl⟩
 have HK0:Hid (ms.length=0→∀ g W,PRow W g 0 [p]→Calls Tryz.prog 148 #[.slice (some ⟨g,0,none⟩) 1 1] W fun e w'=>e=.returned (.int .i64 0)∧Below W.heap.size W w'):=fun h0 g W h=>by
  have h2:=checkAllP_any [p] g 0 1 1 W rfl h (by omega)
  have e:(plcs ms).map toPl=[]:=by rw [List.length_eq_zero_iff.1 h0];rfl
  rw [e] at hb
  rw [hb] at h2
  exact h2
 have HK1:Hid (∀ g c W,PRow W g 0 (p :: (plcs ms).map toPl)→Calls Tryz.prog 148 #[.slice (some ⟨g,0,none⟩) (1+ms.length) c] W fun e w'=>e=.returned (.int .i64 0)∧Below W.heap.size W w'):=fun g c W h=>by
  have h2:=checkAllP_any (p :: (plcs ms).map toPl) g 0 (1+ms.length) c W (by simp [HPL.out];omega) h (by omega)
  rw [hb] at h2
  exact h2
 clear hb hz hok hoks hpl
 generalize srt p ms ns=SL at *
 generalize Dd (farW p) ms ms.length=DD at *
 generalize hna:ms.length=n at *
 generalize hnb:ns.length=nl at *
 clear hna hnb
 go_enter Tryz.func134,Tryz.ntmps134
 go_wp2_with fail
 obtain ⟨W,hW⟩:∃ W,W=w.alloc (.cells #[.int .i64 p.x,.int .i64 p.y,.int .i64 p.z,.int .i64 p.h,.int .i64 p.s] 25):=⟨_,rfl⟩
 rw [← hW]
 have hbW:Below w.heap.size w W:=by rw [hW];exact (Below.refl _ _).alloc (Nat.le_refl _) _
 have hga:W.heap[w.heap.size]?=some (.cells #[.int .i64 p.x,.int .i64 p.y,.int .i64 p.z,.int .i64 p.h,.int .i64 p.s] 25 (0,0)):=by rw [hW];exact heap_alloc_new w _
 have hsW:W.heap.size=w.heap.size+1:=by rw [hW];simp
 have n0:W.cell? ⟨w.heap.size,0,none⟩=some (.int .i64 p.x):=cellsAt hga 0
 have n1:W.cell? ⟨w.heap.size,1,none⟩=some (.int .i64 p.y):=cellsAt hga 1
 have n2:W.cell? ⟨w.heap.size,2,none⟩=some (.int .i64 p.z):=cellsAt hga 2
 have n3:W.cell? ⟨w.heap.size,3,none⟩=some (.int .i64 p.h):=cellsAt hga 3
 have n4:W.cell? ⟨w.heap.size,4,none⟩=some (.int .i64 p.s):=cellsAt hga 4
 have HVW:Hid (∀ W',Below W.heap.size W W'→Wh.Sl W' (.slice pa n ca) ms):=fun W' h=>(HV.out.below hbW).below h
 have HBW:Hid (Below w.heap.size w W):=hbW
 have e0:=World.new_ne W _ n0
 have e1:=World.new_ne W _ n1
 have e2:=World.new_ne W _ n2
 have e3:=World.new_ne W _ n3
 have e4:=World.new_ne W _ n4
 clear hga hW hbW
 have h63:1+n≤maxLen:=by unfold maxLen;omega
 have hbt:(1+n) * 40≤140737488355328:=by omega
 have hfl:(Pc.fl (plcs ms)).length=n * 5:=by rw [Pc.fl_len,HPL.out]
 have hav:(Value.slice (some ⟨w.heap.size+1,0,none⟩) 1 1).ownBlock≠some w.heap.size:=fun h=>by simp [Value.ownBlock] at h
 rcases Nat.eq_zero_or_pos n with hpos | hpos
 ·subst hpos
  have HP:Hid (∀ W,Calls Tryz.prog 149 #[.slice pa 0 ca] W fun e w'=>e=.returned (.slice none 0 0)∧Below W.heap.size W w'):=HP0.out rfl
  have HK:Hid (∀ g W,PRow W g 0 [p]→Calls Tryz.prog 148 #[.slice (some ⟨g,0,none⟩) 1 1] W fun e w'=>e=.returned (.int .i64 0)∧Below W.heap.size W w'):=HK0.out rfl
  go_region_held3 (fun w'=>w'.cell? ⟨w.heap.size,0,none⟩=some (.int .i64 p.x)∧w'.cell? ⟨w.heap.size,1,none⟩=some (.int .i64 p.y)∧w'.cell? ⟨w.heap.size,2,none⟩=some (.int .i64 p.z)∧w'.cell? ⟨w.heap.size,3,none⟩=some (.int .i64 p.h)∧w'.cell? ⟨w.heap.size,4,none⟩=some (.int .i64 p.s))
   (first
     | go_keep
     | (go_split_ands
        refine ⟨?_,?_,?_,?_,?_⟩
        all_goals ((rw [hb6.cell (by show w.heap.size < _;have h9:=hb3.size;simp at h9 ⊢;omega)];first | assumption | simp [*])))
     | (go_split_ands
        refine ⟨?_,?_,?_,?_,?_⟩
        all_goals ((rw [hb3.cell (by simp;omega)];first | assumption | simp [*])))
     )
   (first
     | (go_at_call 149;refine (HP.out _).mono ?_;rintro e w3 ⟨rfl,hb3⟩)
     | (go_at_call 148;refine (HK.out _ _ (prow_from (from_way1 hsW hb3))).mono ?_;rintro e w6 ⟨rfl,hb6⟩)
     | (go_at_call 148;refine (HK.out _ _ (prow_from (heap_alloc_new w3 _))).mono ?_;rintro e w6 ⟨rfl,hb6⟩))
  all_goals
   have HB6:Hid (Below w.heap.size w w6):=by
    first
     | exact ((HBW.out.alloc (by omega) _).drew.trans (hb3.mono (by simp;omega))).trans (hb6.mono (by have h9:=hb3.size;simp at h9;omega))
     | exact ((HBW.out.drew.trans (hb3.mono (by simp;omega))).alloc (by have:=hb3.size;simp at this;omega) _).trans (hb6.mono (by have h9:=hb3.size;simp at h9 ⊢;omega))
   rename_i hHeld
   clear hb6 hb3 hav
   obtain ⟨f0,f1,f2,f3,f4⟩:=hHeld
   have hz6:=HB6.out.size
   go_wp2_with fail
   refine (HDI.out _ (HV.out.below HB6.out)).mono ?_
   rintro e w7 ⟨g,rfl,HM7,hg1,hg2,hb7⟩
   have HB7:Hid (Below w.heap.size w w7):=HB6.out.trans (hb7.mono hz6)
   have hz7:=HB7.out.size
   clear hb7 f0 f1 f2 f3 f4
   go_wp2_with fail
   obtain ⟨W9,hW9⟩:∃ W9,W9=(w7.alloc (.cells #[.map (some g)] 179)).alloc (.cells #[.func (.func 151) #[] #[.pointer (some ⟨w7.heap.size,0,none⟩)]] 171):=⟨_,rfl⟩
   rw [← hW9]
   have hb9:Below w7.heap.size w7 W9:=by rw [hW9];exact ((Below.refl _ _).alloc (Nat.le_refl _) _).alloc (by simp) _
   have hs9:W9.heap.size=w7.heap.size+2:=by rw [hW9];simp
   have k9:W9.cell? ⟨w7.heap.size,0,none⟩=some (.map (some g)):=by
    rw [hW9]
    have h:=((Below.refl (w7.heap.size+1) (w7.alloc (.cells #[.map (some g)] 179))).alloc (by simp) (.cells #[.func (.func 151) #[] #[.pointer (some ⟨w7.heap.size,0,none⟩)]] 171)).cell (p:=⟨w7.heap.size,0,none⟩) (by show w7.heap.size < w7.heap.size+1;omega)
    exact h.trans (cell_topL rfl)
   have d9:W9.cell? ⟨w7.heap.size+1,0,none⟩=some (.func (.func 151) #[] #[.pointer (some ⟨w7.heap.size,0,none⟩)]):=by
    rw [hW9];exact cell_topL (by simp)
   have HM9:Hid (W9.ownsMap Tryz.prog 9 (plainElem (H:=Unit) Tryz.prog 3) g _ DD):=map_below HM7.out hb9
   have HB9:Hid (Below w.heap.size w W9):=HB7.out.trans (hb9.mono hz7)
   clear hW9 hb9
   refine (HCL.out _ (HTN.out.below HB9.out)).mono ?_
   rintro e w10 ⟨vs,rfl,HO10,hb10⟩
   have k10:=(hb10.cell (p:=⟨w7.heap.size,0,none⟩) (by show w7.heap.size < _;omega)).trans k9
   have d10:=(hb10.cell (p:=⟨w7.heap.size+1,0,none⟩) (by show w7.heap.size+1 < _;omega)).trans d9
   have HM10:Hid (w10.ownsMap Tryz.prog 9 (plainElem (H:=Unit) Tryz.prog 3) g _ DD):=map_below HM9.out hb10
   have HB10:Hid (Below w.heap.size w w10):=HB9.out.trans (hb10.mono HB9.out.size)
   clear hb10 k9 d9
   go_wp2_with fail
   refine (HSO.out W9.heap.size (w7.heap.size+1) w7.heap.size g vs _ HO10.out d10 k10 HM10.out (by omega) (by omega) (by omega)).mono ?_
   rintro e w11 ⟨rfl,HTS,HFR,hb11⟩
   have HFW:Hid (FrB w.heap.size w11 vs):=HFR.out.mono HB9.out.size
   have HB11:Hid (Below w.heap.size w w11):=HB10.out.trans (hb11.mono HB9.out.size)
   clear hb11 d10 k10 HFR
   go_wp2_with fail
   go_ret2
   exact ⟨vs,rfl,HTS.out,HFW.out,HB11.out⟩
 ·have HP:Hid (∀ W,Wh.Sl W (.slice pa n ca) ms→Calls Tryz.prog 149 #[.slice pa n ca] W fun e w'=>∃ g c,e=.returned (.slice (some ⟨g,0,none⟩) n c)∧Pc.Own W.heap.size w' (.slice (some ⟨g,0,none⟩) n c) (plcs ms)∧Below W.heap.size W w'):=HP1.out hpos
  have HK:=HK1
  go_region_held3 (fun w'=>w'.cell? ⟨w.heap.size,0,none⟩=some (.int .i64 p.x)∧w'.cell? ⟨w.heap.size,1,none⟩=some (.int .i64 p.y)∧w'.cell? ⟨w.heap.size,2,none⟩=some (.int .i64 p.z)∧w'.cell? ⟨w.heap.size,3,none⟩=some (.int .i64 p.h)∧w'.cell? ⟨w.heap.size,4,none⟩=some (.int .i64 p.s))
   (first
     | go_keep
     | (go_split_ands
        refine ⟨?_,?_,?_,?_,?_⟩
        all_goals ((rw [hb6.cell (by show w.heap.size < _;have h8:=hgrow.size;have h9:=hb3.size;simp at h8 h9;omega)];assumption)))
     | (go_split_ands
        refine ⟨?_,?_,?_,?_,?_⟩
        all_goals ((rw [hgrow.cell_far _ (by show w.heap.size < _;have:=hb3.size;simp at this ⊢;omega) (Ne.symm hav)];assumption)))
     | (go_split_ands
        refine ⟨?_,?_,?_,?_,?_⟩
        all_goals ((rw [hgrow.cell_far _ (by show w.heap.size < _;have:=hb3.size;simp at this ⊢;omega) (by simp [Value.ownBlock];have:=hb3.size;simp at this;omega)];assumption)))
     | (go_split_ands
        refine ⟨?_,?_,?_,?_,?_⟩
        all_goals ((rw [hb3.cell (by simp;omega)];first | assumption | simp [*])))
     )
   (first
     | (go_at_call 149;refine (HP.out _ (HVW.out _ ?_)).mono ?_;(focus (repeat (first | exact Below.refl _ _ | refine Below.drew ?_ | refine Below.alloc ?_ (by simp) _)));rintro e w3 ⟨g,c,rfl,ho3,hb3⟩)
     | (go_at_call 148;refine (HK.out _ _ _ (own_prow HPL.out hown1)).mono ?_;rintro e w6 ⟨rfl,hb6⟩)
     | (refine step_append_lies _ (by rfl) _ _ _ (by rfl) w.heap.size 25 i0 _ 5 40 Tryz.underlying177 hi0 hz0 hzs hzb rfl (by omega) (.slice (some ⟨w.heap.size+1,0,none⟩) 1 1) 1 p.v5 (by rfl) (own_from (from_way1 hsW hb3) (by omega)) ⟨g,0,none⟩ n c (Pc.fl (plcs ms)) (by rfl) hfl (own_news ho3) (Pc.fl_one _) hpos h63 hbt (by have:=hb3.size;simp at this;omega) _ rfl ?_
        intro gg cap w5 hown1 hgrow hat hlt)
     | (refine step_append_lies _ (by rfl) _ _ _ (by rfl) w.heap.size 25 i0 _ 5 40 Tryz.underlying177 hi0 hz0 hzs hzb rfl (by omega) (.slice (some ⟨w3.heap.size,0,none⟩) 1 1) 1 p.v5 (by rfl) (own_from (heap_alloc_new w3 _) (by have:=hb3.size;simp at this;omega)) ⟨g,0,none⟩ n c (Pc.fl (plcs ms)) (by rfl) hfl (own_news (ho3.below ((Below.refl _ _).alloc (Nat.le_refl _) _))) (Pc.fl_one _) hpos h63 hbt (by have:=hb3.size;simp at this ⊢;omega) _ rfl ?_
        intro gg cap w5 hown1 hgrow hat hlt))
  all_goals
   have HB6:Hid (Below w.heap.size w w6):=by
    first
     | exact ((((HBW.out.alloc (by omega) _).drew.trans (hb3.mono (by simp;omega))).grown hgrow (by have:=hb3.size;simp at this;omega) (fun j hj=>by simp [Value.ownBlock] at hj;omega))).trans (hb6.mono (by have h8:=hgrow.size;have h9:=hb3.size;simp at h8 h9;omega))
     | exact (((HBW.out.drew.trans (hb3.mono (by simp;omega))).alloc (by have:=hb3.size;simp at this;omega) _).grown hgrow (by have:=hb3.size;simp at this ⊢;omega) (fun j hj=>by simp [Value.ownBlock] at hj;have:=hb3.size;simp at this;omega)).trans (hb6.mono (by have h8:=hgrow.size;have h9:=hb3.size;simp at h8 h9;omega))
   rename_i hHeld
   clear hb6 hgrow hown1 hat hlt hb3 ho3 hav
   obtain ⟨f0,f1,f2,f3,f4⟩:=hHeld
   have hz6:=HB6.out.size
   go_wp2_with fail
   refine (HDI.out _ (HV.out.below HB6.out)).mono ?_
   rintro e w7 ⟨g,rfl,HM7,hg1,hg2,hb7⟩
   have HB7:Hid (Below w.heap.size w w7):=HB6.out.trans (hb7.mono hz6)
   have hz7:=HB7.out.size
   clear hb7 f0 f1 f2 f3 f4
   go_wp2_with fail
   obtain ⟨W9,hW9⟩:∃ W9,W9=(w7.alloc (.cells #[.map (some g)] 179)).alloc (.cells #[.func (.func 151) #[] #[.pointer (some ⟨w7.heap.size,0,none⟩)]] 171):=⟨_,rfl⟩
   rw [← hW9]
   have hb9:Below w7.heap.size w7 W9:=by rw [hW9];exact ((Below.refl _ _).alloc (Nat.le_refl _) _).alloc (by simp) _
   have hs9:W9.heap.size=w7.heap.size+2:=by rw [hW9];simp
   have k9:W9.cell? ⟨w7.heap.size,0,none⟩=some (.map (some g)):=by
    rw [hW9]
    have h:=((Below.refl (w7.heap.size+1) (w7.alloc (.cells #[.map (some g)] 179))).alloc (by simp) (.cells #[.func (.func 151) #[] #[.pointer (some ⟨w7.heap.size,0,none⟩)]] 171)).cell (p:=⟨w7.heap.size,0,none⟩) (by show w7.heap.size < w7.heap.size+1;omega)
    exact h.trans (cell_topL rfl)
   have d9:W9.cell? ⟨w7.heap.size+1,0,none⟩=some (.func (.func 151) #[] #[.pointer (some ⟨w7.heap.size,0,none⟩)]):=by
    rw [hW9];exact cell_topL (by simp)
   have HM9:Hid (W9.ownsMap Tryz.prog 9 (plainElem (H:=Unit) Tryz.prog 3) g _ DD):=map_below HM7.out hb9
   have HB9:Hid (Below w.heap.size w W9):=HB7.out.trans (hb9.mono hz7)
   clear hW9 hb9
   refine (HCL.out _ (HTN.out.below HB9.out)).mono ?_
   rintro e w10 ⟨vs,rfl,HO10,hb10⟩
   have k10:=(hb10.cell (p:=⟨w7.heap.size,0,none⟩) (by show w7.heap.size < _;omega)).trans k9
   have d10:=(hb10.cell (p:=⟨w7.heap.size+1,0,none⟩) (by show w7.heap.size+1 < _;omega)).trans d9
   have HM10:Hid (w10.ownsMap Tryz.prog 9 (plainElem (H:=Unit) Tryz.prog 3) g _ DD):=map_below HM9.out hb10
   have HB10:Hid (Below w.heap.size w w10):=HB9.out.trans (hb10.mono HB9.out.size)
   clear hb10 k9 d9
   go_wp2_with fail
   refine (HSO.out W9.heap.size (w7.heap.size+1) w7.heap.size g vs _ HO10.out d10 k10 HM10.out (by omega) (by omega) (by omega)).mono ?_
   rintro e w11 ⟨rfl,HTS,HFR,hb11⟩
   have HFW:Hid (FrB w.heap.size w11 vs):=HFR.out.mono HB9.out.size
   have HB11:Hid (Below w.heap.size w w11):=HB10.out.trans (hb11.mono HB9.out.size)
   clear hb11 d10 k10 HFR
   go_wp2_with fail
   go_ret2
   exact ⟨vs,rfl,HTS.out,HFW.out,HB11.out⟩
end Go.Proofs.YtignmeaeibaejaaGreatDoor
