import Derived.Test.YtffdoiokmiklgaaGreatDoortr1
import Derived.Test.YtffdoiokmiklgaaGreatDoortr4
import Derived.Test.YtffdoiokmiklgaaGreatDoortr12
import Derived.Laws.StructEq
import Derived.Test.YtffdoiokmiklgaaGreatDoortr13
import Derived.Test.YtffdoiokmiklgaaGreatDoortr6
import Derived.Test.YtffdoiokmiklgaaGreatDoortr21
import Derived.Test.YtffdoiokmiklgaaGreatDoortr15
import Derived.Test.YtffdoiokmiklgaaGreatDoortr38
import Derived.Test.YtffdoiokmiklgaaGreatDoortr16
import Derived.Laws.EntriesVeiled
import Derived.Test.YtffdoiokmiklgaaGreatDoortr39
namespace Go.Proofs.YtffdoiokmiklgaaGreatDoor
namespace Wh
open Go.RowKit
end Wh
end Go.Proofs.YtffdoiokmiklgaaGreatDoor
namespace Go.Proofs.YtffdoiokmiklgaaGreatDoor
open Go.RowKit
def IsPk (w:World) (p:Pk) (A:Array Value):Prop:=∃ vm vs vg vw,A=#[.string p.frm,.bool p.whole,vm,vs,vg,vw]∧Sl w vm p.ms∧Sv.Sl w vs p.sv∧Gw.Sl w vg p.gw∧Wh.Sl w vw p.wh
theorem setAll_os (b:Nat):∀ (L:List Value) (j:Nat) (w:World),(setAll b L j w).os=w.os∧(setAll b L j w).tape=w.tape∧(setAll b L j w).output=w.output
 | [],_,_=>⟨rfl,rfl,rfl⟩
 | _ :: r,j,w=>setAll_os b r (j+1) (w.setCell ⟨b,j,none⟩ _)
theorem Rp.setAll {g:Nat} {w w1:World} (h:Rp g w w1) (L:List Value):Rp g w (setAll g L 0 w1):=by
 obtain ⟨h1,h2,h3⟩:=setAll_os g L 0 w1
 exact ⟨h1.trans h.os,h2.trans h.tape,h3.trans h.output,by rw [setAll_size];exact h.size,fun k hk hg=>(setAll_other hg L 0 w1).trans (h.block k hk hg)⟩
theorem cells6p {W:World} {b:Nat} {T:TypeId} {f:Nat × Nat} {c0 c1 c2 c3 c4 c5:Value} (h:W.heap[b]?=some (.cells #[c0,c1,c2,c3,c4,c5] T f)):W.cell? ⟨b,0,none⟩=some c0∧W.cell? ⟨b,1,none⟩=some c1∧W.cell? ⟨b,2,none⟩=some c2∧W.cell? ⟨b,3,none⟩=some c3∧W.cell? ⟨b,4,none⟩=some c4∧W.cell? ⟨b,5,none⟩=some c5:=⟨cellsAt h 0,cellsAt h 1,cellsAt h 2,cellsAt h 3,cellsAt h 4,cellsAt h 5⟩
theorem free6 {W:World} {b:Nat} {T:TypeId} {C:Array Value} (h:W.heap[b]?=some (.cells C T (0,0))):W.frozen? ⟨b,0,none⟩=false∧W.frozen? ⟨b,1,none⟩=false∧W.frozen? ⟨b,2,none⟩=false∧W.frozen? ⟨b,3,none⟩=false∧W.frozen? ⟨b,4,none⟩=false∧W.frozen? ⟨b,5,none⟩=false:=by simp [World.frozen?,h]
theorem roomy_own {base n k:Nat} {T:TypeId} {w:World} {v:Value} {xs:List Value} (h:w.ownsRow base T k v n xs):Roomy v:=by
 rcases h.2 with ⟨rfl,h0⟩ | ⟨g,c,cur,rfl,hbg,hg,hnc,hcm,hcs,htake⟩
 ·unfold Roomy;exact Nat.le_refl _
 ·unfold Roomy;exact hnc
def ReP (cp:Nat) (w:World) (o:Option Pk) (e:Ending) (w':World):Prop:=
 Rp cp w w'∧((∃ p vm vs vg vw,o=some p∧e=.returned (.tuple #[])∧w'.heap[cp]?=some (.cells #[.string p.frm,.bool p.whole,vm,vs,vg,vw] 67 (0,0))∧PkOwn (w.heap.size+1) w' p vm vs vg vw)∨(o=none∧e=outP 1))
theorem PkOwn.mono {a b:Nat} {w:World} {p:Pk} {vm vs vg vw:Value} (h:PkOwn b w p vm vs vg vw) (hab:a≤b):PkOwn a w p vm vs vg vw:=⟨h.ms.mono hab,h.sv.mono hab,h.gw.mono hab,h.wh.mono hab⟩
theorem rdPk_in {l r:List UInt8} {p:Pk} (h:rdPk l=some (p,r)) (hl:l.length≤16777216):p.frm.size≤maxLen∧(∀ m∈p.ms,m.name.size≤maxLen)∧(∀ m∈p.sv,m.node.size≤maxLen∧m.idn.size≤maxLen∧m.name.size≤maxLen∧m.tag.size≤maxLen)∧(∀ m∈p.gw,m.centre.size≤maxLen)∧(∀ m∈p.wh,m.node.size≤maxLen):=by
 unfold rdPk at h
 simp only [Option.bind_eq_some_iff,Option.some.injEq,Prod.mk.injEq] at h
 obtain ⟨⟨x0,r1⟩,n0,⟨x1,r2⟩,n1,⟨x2,r3⟩,n2,⟨x3,r4⟩,n3,⟨x4,r5⟩,n4,⟨x5,r6⟩,n5,rfl,rfl⟩:=h
 simp only at n0 n1 n2 n3 n4 n5 ⊢
 have e0:=rdT_in n0
 have e1:=rdF_in n1
 have e2:=rdList_ok n2 (by omega)
 have e3:=Sv.rdList_ok n3 (by omega)
 have e4:=Gw.rdList_ok n4 (by omega)
 have e5:=Wh.rdList_ok n5 (by omega)
 refine ⟨by unfold maxLen;omega,e2.1,e3.1,e4.1,e5.1⟩
theorem rdLen {l r:List UInt8} {p:Pk} (h:rdPk l=some (p,r)) (hl:l.length≤16777216):p.sv.length+p.gw.length+p.wh.length≤16777216:=by
 have e:=rdPk_eq h
 have hS:∀ m:Sv.Svc,1≤(Sv.elB m).length:=fun m=>by unfold Sv.elB txtB numB;simp only [List.length_append,List.length_singleton];omega
 have hG:∀ m:Gw.Gwy,1≤(Gw.elB m).length:=fun m=>by unfold Gw.elB txtB numB;simp only [List.length_append,List.length_singleton];omega
 have hW:∀ m:Wh.Whe,1≤(Wh.elB m).length:=fun m=>by unfold Wh.elB txtB numB;simp only [List.length_append,List.length_singleton];omega
 have fl:∀ {α:Type} (f:α→List UInt8),(∀ m,1≤(f m).length)→∀ L:List α,L.length≤(L.flatMap f).length:=fun f hf L=>by
  induction L with
  | nil=>simp
  | cons m L ih=>rw [List.flatMap_cons,List.length_append,List.length_cons];have:=hf m;omega
 have h1:=fl Sv.elB hS p.sv
 have h2:=fl Gw.elB hG p.gw
 have h3:=fl Wh.elB hW p.wh
 have h4:=congrArg List.length e
 unfold Pk.B at h4
 simp only [List.length_append] at h4
 omega
set_option maxHeartbeats 6400000 in
set_option maxRecDepth 100000 in
theorem read1_b {B cs cp:Nat} {l:List UInt8} {w:World} (hV:Rv B w) (hs:l.length≤16777216) (hcs:w.cell? ⟨cs,0,none⟩=some (.string (bstr l))) (hcp:w.heap[cp]?=some (.cells #[.string ⟨#[]⟩,.bool false,.slice none 0 0,.slice none 0 0,.slice none 0 0,.slice none 0 0] 67 (0,0))) :
 Calls Tryz.prog 121 #[.pointer (some ⟨cs,0,none⟩),.pointer (some ⟨cp,0,none⟩)] w (ReP cp w (rdR l)):=by
 obtain ⟨F,hF⟩:∃ F,F=rdR l:=⟨_,rfl⟩
 rw [← hF]
 unfold rdR at hF
 have HF:Hid (F=(rdPk l).bind fun a=>if a.2=[]∧a.1.e=0 then some a.1 else none):=hF
 have hcpl:cp < w.heap.size:=(Array.getElem?_eq_some_iff.1 hcp).1
 obtain ⟨W0,hW0⟩:∃ W0,W0=w.alloc (.cells #[.string (bstr l)] 159):=⟨_,rfl⟩
 have hb0:Below w.heap.size w W0:=by rw [hW0];exact (Below.refl _ _).alloc (Nat.le_refl _) _
 have hg0:W0.heap[w.heap.size]?=some (.cells #[.string (bstr l)] 159 (0,0)):=by rw [hW0];exact heap_alloc_new w _
 have hs0:W0.heap.size=w.heap.size+1:=by rw [hW0];simp
 have hp0:IsP w.heap.size l W0:=⟨cellsAt hg0 0,by simp [World.frozen?,hg0],by omega⟩
 have HPK:Hid (Calls Tryz.prog 122 #[.pointer (some ⟨w.heap.size,0,none⟩)] W0 (PkP w.heap.size W0 (rdPk l))):=packet_b (hV.below (hb0.mono hV.le)) hV.le hp0 hs
 have HB0:Hid (Below w.heap.size w W0):=hb0
 have HS0:Hid (W0.heap.size=w.heap.size+1):=hs0
 have HCP:Hid (∀ W,Rp w.heap.size W0 W→W.heap[cp]?=some (.cells #[.string ⟨#[]⟩,.bool false,.slice none 0 0,.slice none 0 0,.slice none 0 0,.slice none 0 0] 67 (0,0))):=fun W hW=>hW.block' (by omega) ((hb0.block cp hcpl).trans hcp)
 have HIN:Hid (∀ p r,rdPk l=some (p,r)→(p.frm.size≤maxLen∧(∀ m∈p.ms,m.name.size≤maxLen)∧(∀ m∈p.sv,m.node.size≤maxLen∧m.idn.size≤maxLen∧m.name.size≤maxLen∧m.tag.size≤maxLen)∧(∀ m∈p.gw,m.centre.size≤maxLen)∧(∀ m∈p.wh,m.node.size≤maxLen))∧p.sv.length+p.gw.length+p.wh.length≤16777216):=fun p r h=>⟨rdPk_in h hs,rdLen h hs⟩
 have HRP0:Hid (Rp cp w W0):=Rp.of_below hb0 (Nat.le_refl _)
 clear hF hV hs hcp hb0 hg0 hs0 hp0
 go_enter Tryz.func121,Tryz.ntmps121
 go_wp2_with fail
 rw [← hW0]
 clear hW0 hcs
 refine HPK.out.mono ?_
 rintro e w1 ⟨hr,⟨p,r,vm,vs,vg,vw,hn,rfl,ho,hp⟩ | ⟨hn,rfl⟩⟩
 rotate_left
 ·exact ⟨rfl,⟨hr.os.trans HRP0.out.os,hr.tape.trans HRP0.out.tape,hr.output.trans HRP0.out.output,Nat.le_trans HRP0.out.size hr.size,fun k hk hkc=>(hr.block k (Nat.lt_of_lt_of_le hk HRP0.out.size) (by omega)).trans (HRP0.out.block k hk hkc)⟩,.inr ⟨bind_no HF.out hn,rfl⟩⟩
 have hF1:=bind_go HF.out hn
 have HF1:Hid (F=if r=[]∧p.e=0 then some p else none):=hF1
 obtain ⟨⟨hfr,hok⟩,hlen⟩:=HIN.out p r hn
 obtain ⟨a2,l2,c2,rfl⟩:=slice_of_row ho.ms
 obtain ⟨a3,l3,c3,rfl⟩:=slice_of_row ho.sv
 obtain ⟨a4,l4,c4,rfl⟩:=slice_of_row ho.gw
 obtain ⟨a5,l5,c5,rfl⟩:=slice_of_row ho.wh
 have hk1:=HCP.out w1 hr
 have hr1:Rp cp w w1:=⟨hr.os.trans HRP0.out.os,hr.tape.trans HRP0.out.tape,hr.output.trans HRP0.out.output,Nat.le_trans HRP0.out.size hr.size,fun k hk hkc=>(hr.block k (Nat.lt_of_lt_of_le hk HRP0.out.size) (by omega)).trans (HRP0.out.block k hk hkc)⟩
 obtain ⟨w2,hw2⟩:∃ w2,w2=setAll cp [.string p.frm,.bool p.whole,.slice a2 l2 c2,.slice a3 l3 c3,.slice a4 l4 c4,.slice a5 l5 c5] 0 w1:=⟨_,rfl⟩
 have hk2:w2.heap[cp]?=some (.cells #[.string p.frm,.bool p.whole,.slice a2 l2 c2,.slice a3 l3 c3,.slice a4 l4 c4,.slice a5 l5 c5] 67 (0,0)):=by rw [hw2];exact setAll6 hk1 _ _ _ _ _ _
 have hr2:Rp cp w w2:=by rw [hw2];exact hr1.setAll _
 have hkk:∀ b,b≠cp→w2.heap[b]?=w1.heap[b]?:=fun b hb=>by rw [hw2];exact setAll_other hb _ _ _
 have hz2:w2.heap.size=w1.heap.size:=by rw [hw2];exact setAll_size _ _ _ _
 have ho2:PkOwn (w.heap.size+1) w2 p (.slice a2 l2 c2) (.slice a3 l3 c3) (.slice a4 l4 c4) (.slice a5 l5 c5):=(ho.mono (by have:=HS0.out;omega)).keep (fun b hb _=>hkk b (by omega))
 have his:PkIs w2 p (.slice a2 l2 c2) (.slice a3 l3 c3) (.slice a4 l4 c4) (.slice a5 l5 c5):=⟨own_names ho2.ms hok.1,Sv.own_names ho2.sv hok.2.1,Gw.own_names ho2.gw hok.2.2.1,Wh.own_names ho2.wh hok.2.2.2,hfr,roomy_own ho2.ms⟩
 have HCK:Hid (Calls Tryz.prog 88 #[.agg #[.string p.frm,.bool p.whole,.slice a2 l2 c2,.slice a3 l3 c3,.slice a4 l4 c4,.slice a5 l5 c5]] w2 fun e w'=>e=.returned (.int .i64 p.e)∧Below w2.heap.size w2 w'):=pcheck_any p _ _ _ _ w2 his (.inr (by omega))
 have d2:w2.cell? ⟨w.heap.size,0,none⟩=some (.string (bstr r)):=by
  have:=hp.c0
  simp only [World.cell?] at this ⊢
  rw [hkk _ (by omega)];exact this
 have HR2:Hid (Rp cp w w2):=hr2
 have HK2:Hid (w2.heap[cp]?=some (.cells #[.string p.frm,.bool p.whole,.slice a2 l2 c2,.slice a3 l3 c3,.slice a4 l4 c4,.slice a5 l5 c5] 67 (0,0))):=hk2
 have HO2:Hid (PkOwn (w.heap.size+1) w2 p (.slice a2 l2 c2) (.slice a3 l3 c3) (.slice a4 l4 c4) (.slice a5 l5 c5)):=ho2
 have HEND:Hid (∀ w3,Below w2.heap.size w2 w3→Rp cp w w3∧w3.heap[cp]?=some (.cells #[.string p.frm,.bool p.whole,.slice a2 l2 c2,.slice a3 l3 c3,.slice a4 l4 c4,.slice a5 l5 c5] 67 (0,0))∧PkOwn (w.heap.size+1) w3 p (.slice a2 l2 c2) (.slice a3 l3 c3) (.slice a4 l4 c4) (.slice a5 l5 c5)):=fun w3 hb=>
  ⟨HR2.out.trans (Rp.of_below hb (Nat.le_refl _)),(hb.block cp (Array.getElem?_eq_some_iff.1 HK2.out).1).trans HK2.out,HO2.out.keep (fun b _ hbl=>hb.block b hbl)⟩
 obtain ⟨b0,b1,b2,b3,b4,b5⟩:=cells6p hk1
 obtain ⟨z0,z1,z2,z3,z4,z5⟩:=free6 hk1
 obtain ⟨f0,f1,f2,f3,f4,f5⟩:=cells6p hk2
 generalize hpe:p.e=pe at *
 have HPE:Hid (p.e=pe):=hpe
 clear hpe
 obtain ⟨q0,q1,qm,qs,qg,qw⟩:=p
 simp only at f0 f1 HCK hw2 HEND b0 b1 ⊢
 clear hn hr hp ho hF1 HF HPK HIN HCP HB0 HS0 hfr hok hlen hk1 hr1 hk2 hr2 hkk hz2 ho2 his HR2 HK2 HO2 HRP0
 go_upto_region 2 with fail
 simp only [setAll,Nat.zero_add,Nat.reduceAdd] at hw2
 rw [← hw2]
 clear hw2 b0 b1 b2 b3 b4 b5 z0 z1 z2 z3 z4 z5
 cases r with
 | cons x rs=>
   have hne:((bstr (x :: rs)).toList == ([]:List UInt8))=false:=by rw [ByteArray.toList_eq,bstr_list];rfl
   have hne2:((bstr (x :: rs)).toList == (ByteArray.toList ⟨#[]⟩))=false:=by rw [ByteArray.toList_eq,bstr_list,ByteArray.toList_eq];rfl
   have hno:F=none:=HF1.out.trans (if_neg (fun h=>by cases h.1))
   have HNO:Hid (F=none):=hno
   clear hno HF1
   generalize bstr (x :: rs)=R at *
   go_wp2_with fail
   refine (need_no _ _).mono ?_
   rintro e w4 ⟨rfl,hw4⟩
   subst hw4
   exact ⟨rfl,(HEND.out _ (Below.refl _ _)).1,.inr ⟨HNO.out,rfl⟩⟩
 | nil=>
   have HF2:Hid (F=if pe=0 then some ⟨q0,q1,qm,qs,qg,qw⟩ else none):=by
    show _=_
    rw [HF1.out];simp
   clear HF1
   have d3:w2.cell? ⟨w.heap.size,0,none⟩=some (.string ⟨#[]⟩):=d2
   clear d2
   go_wp2_with fail
   refine HCK.out.mono ?_
   rintro e w3 ⟨rfl,hb3⟩
   have HE3:=HEND.out w3 hb3
   have HE3h:Hid _:=HE3
   clear HE3 hb3
   by_cases h0:pe=0
   ·have hd:(pe == 0)=true:=by simpa using h0
    have HFO:Hid (F=some ⟨q0,q1,qm,qs,qg,qw⟩):=HF2.out.trans (if_pos h0)
    clear h0 HF2
    go_wp2_with fail
    refine (need_ok _ _).mono ?_
    rintro e w4 ⟨rfl,hw4⟩
    subst hw4
    go_wp2_with fail
    simp only [bodyPost,results,Tryz.results121]
    exact ⟨trivial,.tuple #[],by simp,HE3h.out.1,.inl ⟨_,_,_,_,_,HFO.out,rfl,HE3h.out.2⟩⟩
   ·have hd:(pe == 0)=false:=by simpa using h0
    have HFO:Hid (F=none):=HF2.out.trans (if_neg h0)
    clear h0 HF2
    go_wp2_with fail
    refine (need_no _ _).mono ?_
    rintro e w4 ⟨rfl,hw4⟩
    subst hw4
    exact ⟨rfl,HE3h.out.1,.inr ⟨HFO.out,rfl⟩⟩
def ReadSays (w:World) (o:Option Pk) (e:Ending) (w':World):Prop:=
 Below w.heap.size w w'∧((∃ p vm vs vg vw,o=some p∧e=.returned (.tuple #[.agg #[.string p.frm,.bool p.whole,vm,vs,vg,vw],.int .i64 0])∧PkOwn w.heap.size w' p vm vs vg vw)∨(o=none∧e=.returned (.tuple #[.agg #[.string ⟨#[]⟩,.bool false,.slice none 0 0,.slice none 0 0,.slice none 0 0,.slice none 0 0],.int .i64 1])))
set_option maxHeartbeats 6400000 in
set_option maxRecDepth 100000 in
theorem pread_b {B:Nat} {l:List UInt8} {w:World} (hV:Rv B w) (hs:l.length≤16777216) :
 Calls Tryz.prog 85 #[.string (bstr l)] w (ReadSays w (rdR l)):=by
 have hmf:∀ (fn:Fn) (first cap:Array Value) (w:World),(Instr.makeFunc fn first cap).run Tryz.prog w=.ok (.func fn first cap) w:=fun _ _ _ _=>rfl
 have ef:∀ (args:Array Value) (W:World),(callFunc 121 args).run Tryz.prog W=.ok (.enter 121 args) W:=enters_of Tryz.func121 (by kernel_rfl) rfl
 obtain ⟨W0,hW0⟩:∃ W0,W0=((w.alloc (.cells #[.string (bstr l)] 9)).alloc (.cells #[.string ⟨#[]⟩,.bool false,.slice none 0 0,.slice none 0 0,.slice none 0 0,.slice none 0 0] 67)).alloc (.cells #[.string ⟨#[]⟩,.bool false,.slice none 0 0,.slice none 0 0,.slice none 0 0,.slice none 0 0] 67):=⟨_,rfl⟩
 have hb0:Below w.heap.size w W0:=by rw [hW0];exact (((Below.refl _ _).alloc (Nat.le_refl _) _).alloc (by simp) _).alloc (by simp;omega) _
 have hs0:W0.heap.size=w.heap.size+3:=by rw [hW0];simp
 have k0:W0.heap[w.heap.size]?=some (.cells #[.string (bstr l)] 9 (0,0)):=by
  rw [hW0]
  exact (Lib.alloc_old _ _ _ (by simp;omega)).trans ((Lib.alloc_old _ _ _ (by simp)).trans (heap_alloc_new w _))
 have k1:W0.heap[w.heap.size+1]?=some (.cells #[.string ⟨#[]⟩,.bool false,.slice none 0 0,.slice none 0 0,.slice none 0 0,.slice none 0 0] 67 (0,0)):=by
  rw [hW0]
  have:=heap_alloc_new (w.alloc (.cells #[.string (bstr l)] 9)) (.cells #[.string ⟨#[]⟩,.bool false,.slice none 0 0,.slice none 0 0,.slice none 0 0,.slice none 0 0] 67)
  exact (Lib.alloc_old _ _ _ (by simp)).trans (by simpa using this)
 have k2:W0.heap[w.heap.size+2]?=some (.cells #[.string ⟨#[]⟩,.bool false,.slice none 0 0,.slice none 0 0,.slice none 0 0,.slice none 0 0] 67 (0,0)):=by
  rw [hW0]
  have:=heap_alloc_new ((w.alloc (.cells #[.string (bstr l)] 9)).alloc (.cells #[.string ⟨#[]⟩,.bool false,.slice none 0 0,.slice none 0 0,.slice none 0 0,.slice none 0 0] 67)) (.cells #[.string ⟨#[]⟩,.bool false,.slice none 0 0,.slice none 0 0,.slice none 0 0,.slice none 0 0] 67)
  simpa using this
 obtain ⟨W1,hW1⟩:∃ W1,W1=W0.alloc (.cells #[.int .i64 0] 26):=⟨_,rfl⟩
 have hb1:Below W0.heap.size W0 W1:=by rw [hW1];exact (Below.refl _ _).alloc (Nat.le_refl _) _
 have hs1:W1.heap.size=w.heap.size+4:=by rw [hW1];simp;omega
 have ke:W1.heap[W0.heap.size]?=some (.cells #[.int .i64 0] 26 (0,0)):=by rw [hW1];exact heap_alloc_new W0 _
 have HRD:Hid (Calls Tryz.prog 121 #[.pointer (some ⟨w.heap.size,0,none⟩),.pointer (some ⟨w.heap.size+2,0,none⟩)] W1 (ReP (w.heap.size+2) W1 (rdR l))):=
  read1_b (hV.below ((hb0.mono hV.le).trans (hb1.mono (by have:=hV.le;omega)))) hs ((hb1.cell (p:=⟨w.heap.size,0,none⟩) (by show w.heap.size < W0.heap.size;omega)).trans (cellsAt k0 0)) ((hb1.block _ (by omega)).trans k2)
 have HE:Hid (∀ w',Rp (w.heap.size+2) W1 w'→w'.cell? ⟨W0.heap.size,0,none⟩=some (.int .i64 0)∧w'.frozen? ⟨W0.heap.size,0,none⟩=false∧W0.heap.size < w'.heap.size):=fun w' hr=>by
  have e:=hr.block' (k:=W0.heap.size) (by omega) ke
  exact ⟨cellsAt e 0,by simp [World.frozen?,e],(Array.getElem?_eq_some_iff.1 e).1⟩
 have HK1:Hid (∀ w',Rp (w.heap.size+2) W1 w'→w'.heap[w.heap.size+1]?=some (.cells #[.string ⟨#[]⟩,.bool false,.slice none 0 0,.slice none 0 0,.slice none 0 0,.slice none 0 0] 67 (0,0))):=fun w' hr=>hr.block' (by omega) ((hb1.block _ (by omega)).trans k1)
 have HBW:Hid (∀ w',Rp (w.heap.size+2) W1 w'→Below w.heap.size w w'):=fun w' hr=>(hb0.trans (hb1.mono (by omega))).trans (hr.below (B:=w.heap.size) (by omega) (by omega))
 have HS0:Hid (W0.heap.size=w.heap.size+3):=hs0
 have HS1:Hid (W1.heap.size=w.heap.size+4):=hs1
 clear hV hs hb0 hb1 k0 k1 k2 ke hs0 hs1
 cases hR:rdR l with
 | some p=>
   rw [hR] at HRD
   have HAT:Hid (Calls Tryz.prog 124 #[.func (.func 121) #[] #[.pointer (some ⟨w.heap.size,0,none⟩),.pointer (some ⟨w.heap.size+2,0,none⟩)]] W0 fun r w'=>r=.returned (.int .i64 0)∧∃ w1,(Rp (w.heap.size+2) W1 w1∧∃ vm vs vg vw,w1.heap[w.heap.size+2]?=some (.cells #[.string p.frm,.bool p.whole,vm,vs,vg,vw] 67 (0,0))∧PkOwn (W1.heap.size+1) w1 p vm vs vg vw)∧W0.heap.size < w1.heap.size∧w'=w1.setCell ⟨W0.heap.size,0,none⟩ (.int .i64 0)):=
    attempt_ok _ _ W0 (fun w1=>Rp (w.heap.size+2) W1 w1∧∃ vm vs vg vw,w1.heap[w.heap.size+2]?=some (.cells #[.string p.frm,.bool p.whole,vm,vs,vg,vw] 67 (0,0))∧PkOwn (W1.heap.size+1) w1 p vm vs vg vw) ef (by
     rw [← hW1]
     refine HRD.out.mono ?_
     rintro e w' ⟨hr,⟨q,vm,vs,vg,vw,hq,rfl,h1,h2⟩ | ⟨hq,_⟩⟩
     ·simp only [Option.some.injEq] at hq
      subst hq
      exact ⟨rfl,⟨hr,vm,vs,vg,vw,h1,h2⟩,HE.out w' hr⟩
     ·cases hq)
   clear HRD hR hW1
   go_enter Tryz.func85,Tryz.ntmps85
   go_wp2_with fail
   rw [← hW0]
   clear hW0
   refine HAT.out.mono ?_
   rintro e w2 ⟨rfl,w1,⟨hr,vm,vs,vg,vw,h1,h2⟩,hlt,hw2⟩
   obtain ⟨a2,l2,c2,rfl⟩:=slice_of_row h2.ms
   obtain ⟨a3,l3,c3,rfl⟩:=slice_of_row h2.sv
   obtain ⟨a4,l4,c4,rfl⟩:=slice_of_row h2.gw
   obtain ⟨a5,l5,c5,rfl⟩:=slice_of_row h2.wh
   have hoth:∀ k,k≠W0.heap.size→w2.heap[k]?=w1.heap[k]?:=fun k hk=>by rw [hw2];exact Below.heap_setCell _ _ _ k hk
   have hk1:w2.heap[w.heap.size+1]?=some (.cells #[.string ⟨#[]⟩,.bool false,.slice none 0 0,.slice none 0 0,.slice none 0 0,.slice none 0 0] 67 (0,0)):=(hoth _ (by have:=HS0.out;omega)).trans (HK1.out w1 hr)
   have hk2:w2.heap[w.heap.size+2]?=some (.cells #[.string p.frm,.bool p.whole,.slice a2 l2 c2,.slice a3 l3 c3,.slice a4 l4 c4,.slice a5 l5 c5] 67 (0,0)):=(hoth _ (by have:=HS0.out;omega)).trans h1
   have ho2:PkOwn (W1.heap.size+1) w2 p (.slice a2 l2 c2) (.slice a3 l3 c3) (.slice a4 l4 c4) (.slice a5 l5 c5):=h2.keep (fun b hb _=>hoth b (by have:=HS0.out;have:=HS1.out;omega))
   have hbw:Below w.heap.size w w2:=by
    have h:=HBW.out w1 hr
    rw [hw2]
    exact h.setCell (p:=⟨W0.heap.size,0,none⟩) (by have:=HS0.out;show w.heap.size≤W0.heap.size;omega) _
   obtain ⟨w3,hw3⟩:∃ w3,w3=setAll (w.heap.size+1) [.string p.frm,.bool p.whole,.slice a2 l2 c2,.slice a3 l3 c3,.slice a4 l4 c4,.slice a5 l5 c5] 0 w2:=⟨_,rfl⟩
   have hk3:w3.heap[w.heap.size+1]?=some (.cells #[.string p.frm,.bool p.whole,.slice a2 l2 c2,.slice a3 l3 c3,.slice a4 l4 c4,.slice a5 l5 c5] 67 (0,0)):=by rw [hw3];exact setAll6 hk1 _ _ _ _ _ _
   have HO3:Hid (PkOwn w.heap.size w3 p (.slice a2 l2 c2) (.slice a3 l3 c3) (.slice a4 l4 c4) (.slice a5 l5 c5)):=(ho2.keep (fun b hb _=>by rw [hw3];exact setAll_other (by have:=HS1.out;omega) _ _ _)).mono (by have:=HS1.out;omega)
   have HB3:Hid (Below w.heap.size w w3):=by rw [hw3];exact setAll_below (by omega) _ _ hbw
   obtain ⟨b0,b1,b2,b3,b4,b5⟩:=cells6p hk1
   obtain ⟨z0,z1,z2,z3,z4,z5⟩:=free6 hk1
   obtain ⟨f0,f1,f2,f3,f4,f5⟩:=cells6p hk2
   obtain ⟨g0,g1,g2,g3,g4,g5⟩:=cells6p hk3
   have HRES:Hid (ReadSays w (some p) (.returned (.tuple #[.agg #[.string p.frm,.bool p.whole,.slice a2 l2 c2,.slice a3 l3 c3,.slice a4 l4 c4,.slice a5 l5 c5],.int .i64 0])) w3):=⟨HB3.out,.inl ⟨p,_,_,_,_,rfl,rfl,HO3.out⟩⟩
   generalize hpp:(some p:Option Pk)=op at *
   clear hpp HO3 HB3 HAT hk1 hk2 hk3 ho2 hbw hoth h1 h2 hr hlt hw2 HE HK1 HBW HS0 HS1
   obtain ⟨q0,q1,qm,qs,qg,qw⟩:=p
   simp only at f0 f1 g0 g1 HRES hw3
   clear qm qs qg qw
   go_wp2_with fail
   simp only [setAll,Nat.zero_add,Nat.reduceAdd] at hw3
   rw [← hw3]
   clear hw3 b0 b1 b2 b3 b4 b5 z0 z1 z2 z3 z4 z5 f0 f1 f2 f3 f4 f5
   exact bodyPost_ret (v:=.tuple #[.agg #[.string q0,.bool q1,.slice a2 l2 c2,.slice a3 l3 c3,.slice a4 l4 c4,.slice a5 l5 c5],.int .i64 0]) (by simp [results,Tryz.results85,go_sem,g0,g1,g2,g3,g4,g5]) rfl HRES.out
 | none=>
   rw [hR] at HRD
   have HAT:Hid (Calls Tryz.prog 124 #[.func (.func 121) #[] #[.pointer (some ⟨w.heap.size,0,none⟩),.pointer (some ⟨w.heap.size+2,0,none⟩)]] W0 fun r w'=>r=.returned (.int .i64 1)∧∃ w1,Rp (w.heap.size+2) W1 w1∧W0.heap.size < w1.heap.size∧Below W0.heap.size w1 w'):=
    attempt_no _ _ 1 W0 (fun w1=>Rp (w.heap.size+2) W1 w1) ef (by
     rw [← hW1]
     refine HRD.out.mono ?_
     rintro e w' ⟨hr,⟨q,vm,vs,vg,vw,hq,rfl,h1,h2⟩ | ⟨_,rfl⟩⟩
     ·cases hq
     ·exact ⟨rfl,hr,HE.out w' hr⟩)
   clear HRD hR hW1
   go_enter Tryz.func85,Tryz.ntmps85
   go_wp2_with fail
   rw [← hW0]
   clear hW0
   refine HAT.out.mono ?_
   rintro e w2 ⟨rfl,w1,hr,hlt,hb2⟩
   have hk1:w2.heap[w.heap.size+1]?=some (.cells #[.string ⟨#[]⟩,.bool false,.slice none 0 0,.slice none 0 0,.slice none 0 0,.slice none 0 0] 67 (0,0)):=(hb2.block _ (by have:=HS0.out;omega)).trans (HK1.out w1 hr)
   have hbw:Below w.heap.size w w2:=(HBW.out w1 hr).trans (hb2.mono (by have:=HS0.out;omega))
   obtain ⟨w3,hw3⟩:∃ w3,w3=setAll (w.heap.size+1) [.string ⟨#[]⟩,.bool false,.slice none 0 0,.slice none 0 0,.slice none 0 0,.slice none 0 0] 0 w2:=⟨_,rfl⟩
   have hk3:w3.heap[w.heap.size+1]?=some (.cells #[.string ⟨#[]⟩,.bool false,.slice none 0 0,.slice none 0 0,.slice none 0 0,.slice none 0 0] 67 (0,0)):=by rw [hw3];exact setAll6 hk1 _ _ _ _ _ _
   have HRES:Hid (ReadSays w none (.returned (.tuple #[.agg #[.string ⟨#[]⟩,.bool false,.slice none 0 0,.slice none 0 0,.slice none 0 0,.slice none 0 0],.int .i64 1])) w3):=⟨by rw [hw3];exact setAll_below (by omega) _ _ hbw,.inr ⟨rfl,rfl⟩⟩
   obtain ⟨b0,b1,b2,b3,b4,b5⟩:=cells6p hk1
   obtain ⟨z0,z1,z2,z3,z4,z5⟩:=free6 hk1
   obtain ⟨g0,g1,g2,g3,g4,g5⟩:=cells6p hk3
   generalize hpp:(none:Option Pk)=op at *
   clear hpp HAT hk1 hk3 hbw hr hlt hb2 HE HK1 HBW HS0 HS1
   go_wp2_with fail
   simp only [setAll,Nat.zero_add,Nat.reduceAdd] at hw3
   rw [← hw3]
   clear hw3 b0 b1 b2 b3 b4 b5 z0 z1 z2 z3 z4 z5
   exact bodyPost_ret (v:=.tuple #[.agg #[.string ⟨#[]⟩,.bool false,.slice none 0 0,.slice none 0 0,.slice none 0 0,.slice none 0 0],.int .i64 1]) (by simp [results,Tryz.results85,go_sem,g0,g1,g2,g3,g4,g5]) rfl HRES.out
def ndV (t0 t1:ByteArray) (p2:Option Addr) (k2 c2:Nat) (p3:Option Addr) (k3 c3:Nat) (p4:Option Addr) (k4 c4:Nat) (p5:Option Addr) (k5 c5:Nat) (i6 i7 i8 i9 i10:Int) (p11:Option Addr) (k11 c11:Nat):Array Value:=
 #[.string t0,.string t1,.slice p2 k2 c2,.slice p3 k3 c3,.slice p4 k4 c4,.slice p5 k5 c5,.int .i64 i6,.int .i64 i7,.int .i64 i8,.int .i64 i9,.int .i64 i10,.slice p11 k11 c11]
def IsNd (w:World) (n:Nd) (A:Array Value):Prop:=∃ vm vr vs vg vw,A=ndA n vm vr vs vg vw∧NdIs w n vm vr vs vg vw
theorem IsNd.below {w w':World} {n:Nd} {A:Array Value} (h:IsNd w n A) (hb:Below w.heap.size w w'):IsNd w' n A:=by
 obtain ⟨a,b,c,d,e,h1,h2⟩:=h
 exact ⟨a,b,c,d,e,h1,h2.below hb⟩
theorem IsNd.letters {w:World} {n:Nd} {A:Array Value} (h:IsNd w n A):∃ t0 t1 p2 k2 c2 p3 k3 c3 p4 k4 c4 p5 k5 c5 i6 i7 i8 i9 i10 p11 k11 c11,A=ndV t0 t1 p2 k2 c2 p3 k3 c3 p4 k4 c4 p5 k5 c5 i6 i7 i8 i9 i10 p11 k11 c11:=by
 obtain ⟨vm,vr,vs,vg,vw,rfl,⟨pm,cm,rfl,_⟩,⟨pr,cr,rfl,_⟩,⟨ps,cs,rfl,_⟩,⟨pg,cg,rfl,_⟩,⟨pw,cw,rfl,_⟩,_,_⟩:=h
 exact ⟨_,_,_,_,_,_,_,_,_,_,_,_,_,_,_,_,_,_,_,_,_,_,rfl⟩
end Go.Proofs.YtffdoiokmiklgaaGreatDoor
