import Derived.Test.YtfidjlcdlakceaaGreatDoorrt47
import Derived.Shelf.SlSortCmp.SmallK
set_option maxHeartbeats 25600000
set_option maxRecDepth 100000
open Go renaming maxLen→Ii,heap_alloc_new→Ie,bodyPost_ret→Iy,Ending→QA,TypeId→I8,wp_loop_rounds→JQ,rounds_succ→Jx,ownsRow_setCell_other→IG
open Go.Value renaming string→I,int→O,bool→AT,slice→U,tuple→Il,agg→Ip,pointer→Ig
open Go.IntKind renaming i64→J
open Go.Obj renaming cells→AI
open Option renaming none→Y,some→Z
open Go.RowKit.Below renaming heap_alloc→It,refl→Ia,heap_setCell→IH
open Nat renaming le_refl→By,zero_add→I3,zero_le→IF,le_trans→Ir
open Go.Ending renaming returned→sh
open Array renaming getElem?_eq_some_iff→Ib,getElem?_modify→M2
open Go.RowKit renaming ownsRow_setCell_below→Ik
open List renaming getElem?_take_of_lt→IL,getD→Io,getElem?_eq_getElem→Ic,getElem?_eq_none→IK,length_take→IA,eq_nil_of_length_eq_zero→IX,length_map→Ov,getElem_mem→IQ
open Go.Proofs renaming sortWorldK→QM
open Go.Sort renaming ahead→QL,heap_grow_old→QO
open Go.Joins renaming block_setCell→Is
namespace Go.Proofs.YtfidjlcdlakceaaGreatDoor
open Go.RowKit
def nwE(nm ct:ByteArray)(ad:Int):Int:=if(aA nm&&aA ct)=true then(if within ad 0 4294967295=true then 0 else 3) else 1
def Ta(nm ct:ByteArray)(ad:Int)(sv:Bool):Nd:=⟨nm,ct,[⟨nm,1,1,ad,sv⟩],[],[],[],⟨0,0,0,0,1000⟩,[]⟩
theorem Dn(nm ct:ByteArray)(ad:Int)(sv:Bool)(w:World)(hn:nm.size<=Ii)(hc:ct.size<=Ii) :
 aT 15 #[I nm,I ct,O J ad,AT sv] w λe w'=>fV (nwE nm ct ad) 0 (Ta nm ct ad sv) w e w':=by
 have HE:Hid (nwE nm ct ad=if(aA nm&&aA ct)=true then(if within ad 0 4294967295=true then 0 else 3) else 1):=rfl;obtain⟨W1,gA⟩:∃W1,W1=(w.alloc (AI #[I ⟨#[]⟩,I ⟨#[]⟩,U Y 0 0,U Y 0 0,U Y 0 0,U Y 0 0,O J 0,O J 0,O J 0,O J 0,O J 0,U Y 0 0] 30)).alloc (AI #[I nm,I ct] 9):=⟨_,rfl⟩;have bf:W1.heap[w.heap.size+1]?=Z (AI #[I nm,I ct] 9 (0,0)):=by
  have h:=Ie (w.alloc (AI #[I ⟨#[]⟩,I ⟨#[]⟩,U Y 0 0,U Y 0 0,U Y 0 0,U Y 0 0,O J 0,O J 0,O J 0,O J 0,O J 0,U Y 0 0] 30)) (AI #[I nm,I ct] 9);rw[gA];simpa using h
 have cP:W1.heap[w.heap.size]?=Z (AI #[I ⟨#[]⟩,I ⟨#[]⟩,U Y 0 0,U Y 0 0,U Y 0 0,U Y 0 0,O J 0,O J 0,O J 0,O J 0,O J 0,U Y 0 0] 30 (0,0)):=by
  rw[gA,It _ _ _ (by simp)];exact Ie w _
 have gi:W1.heap.size=w.heap.size+2:=by rw[gA];simp
 have aK:Hid (Below w.heap.size w W1):=by rw[gA];exact((Ia _ _).alloc (By _) _).alloc (by simp) _
 have HL:Hid (aT _ _ _ _):=ze nm ct hn hc _ 2 W1 (af bf 0) (af bf 1);obtain⟨q0,q1,q2,q3,q4,q5,q6,q7,q8,q9,q10,q11⟩:=bT cP;obtain⟨GZ,FK,G9,Ha,Hb,Hc,Wl,Wm,Wn,Wo,BJ,BK⟩:=tt cP;have GW:Hid _:=cP;have EA:Hid _:=gi;have VK:w.heap.size<W1.heap.size:=by omega
 clear bf cP gi;generalize nwE nm ct ad=ne at *;generalize(aA nm&&aA ct)=lb at *;go_enter Tryz.func15,Tryz.ntmps15;go_wp2_with fail;rw[<- gA];refine HL.out.mono ?_;rintro e w1 ⟨rfl,hww⟩;have uR:=hww.symm;subst uR;clear gA HL hww;cases lb
 .have HR:Hid (ne=1):=HE.out.trans (by simp)
  go_wp2_with fail;refine Iy (v:=Il #[Ip #[I ⟨#[]⟩,I ⟨#[]⟩,U Y 0 0,U Y 0 0,U Y 0 0,U Y 0 0,O J 0,O J 0,O J 0,O J 0,O J 0,U Y 0 0],O J 1]) ?_ rfl ?_
  .simp[results,Tryz.results15,go_sem,q0,q1,q2,q3,q4,q5,q6,q7,q8,q9,q10,q11]
  .unfold fV
   exact⟨((((((((((((aK.out).setCell (p:=⟨w.heap.size,0,Y⟩) (by simp) _).setCell (p:=⟨w.heap.size,1,Y⟩) (by simp) _).setCell (p:=⟨w.heap.size,2,Y⟩) (by simp) _).setCell (p:=⟨w.heap.size,3,Y⟩) (by simp) _).setCell (p:=⟨w.heap.size,4,Y⟩) (by simp) _).setCell (p:=⟨w.heap.size,5,Y⟩) (by simp) _).setCell (p:=⟨w.heap.size,6,Y⟩) (by simp) _).setCell (p:=⟨w.heap.size,7,Y⟩) (by simp) _).setCell (p:=⟨w.heap.size,8,Y⟩) (by simp) _).setCell (p:=⟨w.heap.size,9,Y⟩) (by simp) _).setCell (p:=⟨w.heap.size,10,Y⟩) (by simp) _).setCell (p:=⟨w.heap.size,11,Y⟩) (by simp) _,.inl ⟨by rw[HR.out];simp,by rw[HR.out]⟩⟩
 rcases ha:within ad 0 4294967295 with _|_
 .have HR:Hid (ne=3):=HE.out.trans (by simp[ha])
  go_wp2_with (go_at_call 44;refine(dG _ _).mono ?_;rintro e w' ⟨rfl,hx⟩;have hy:=hx.symm;subst hy;rw[ha]);refine Iy (v:=Il #[Ip #[I ⟨#[]⟩,I ⟨#[]⟩,U Y 0 0,U Y 0 0,U Y 0 0,U Y 0 0,O J 0,O J 0,O J 0,O J 0,O J 0,U Y 0 0],O J 3]) ?_ rfl ?_
  .simp[results,Tryz.results15,go_sem,q0,q1,q2,q3,q4,q5,q6,q7,q8,q9,q10,q11]
  .unfold fV
   exact⟨((((((((((((aK.out).setCell (p:=⟨w.heap.size,0,Y⟩) (by simp) _).setCell (p:=⟨w.heap.size,1,Y⟩) (by simp) _).setCell (p:=⟨w.heap.size,2,Y⟩) (by simp) _).setCell (p:=⟨w.heap.size,3,Y⟩) (by simp) _).setCell (p:=⟨w.heap.size,4,Y⟩) (by simp) _).setCell (p:=⟨w.heap.size,5,Y⟩) (by simp) _).setCell (p:=⟨w.heap.size,6,Y⟩) (by simp) _).setCell (p:=⟨w.heap.size,7,Y⟩) (by simp) _).setCell (p:=⟨w.heap.size,8,Y⟩) (by simp) _).setCell (p:=⟨w.heap.size,9,Y⟩) (by simp) _).setCell (p:=⟨w.heap.size,10,Y⟩) (by simp) _).setCell (p:=⟨w.heap.size,11,Y⟩) (by simp) _,.inl ⟨by rw[HR.out];simp,by rw[HR.out]⟩⟩
 have HR:Hid (ne=0):=HE.out.trans (by simp[ha]);have HEV:Hid (∀V:World,V.heap.size=W1.heap.size->((V.alloc (AI #[I nm,O J 1,O J 1,O J ad,AT sv] 70)).alloc (AI #[I nm,O J 1,O J 1,O J ad,AT sv] 70)).heap[W1.heap.size+1]?=Z (AI #[I nm,O J 1,O J 1,O J ad,AT sv] 70 (0,0))):=λV hV=>by
  have h:=Ie (V.alloc (AI #[I nm,O J 1,O J 1,O J ad,AT sv] 70)) (AI #[I nm,O J 1,O J 1,O J ad,AT sv] 70);rw[show(V.alloc (AI #[I nm,O J 1,O J 1,O J ad,AT sv] 70)).heap.size=W1.heap.size+1 by simp[hV]] at h;exact h
 go_wp2_with (go_at_call 44;refine(dG _ _).mono ?_;rintro e w' ⟨rfl,hx⟩;have hy:=hx.symm;subst hy;rw[ha]);refine Iy (v:=Il #[Ip #[I nm,I ct,U (Z ⟨W1.heap.size+1,0,Y⟩) 1 1,U Y 0 0,U Y 0 0,U Y 0 0,O J 0,O J 0,O J 0,O J 0,O J 1000,U Y 0 0],O J 0]) ?_ rfl ?_
 .simp[results,Tryz.results15,go_sem,VK,q0,q1,q2,q3,q4,q5,q6,q7,q8,q9,q10,q11]
 .unfold fV
  refine⟨((((((((((((((aK.out).setCell (p:=⟨w.heap.size,0,Y⟩) (by simp) _).setCell (p:=⟨w.heap.size,1,Y⟩) (by simp) _).setCell (p:=⟨w.heap.size,2,Y⟩) (by simp) _).setCell (p:=⟨w.heap.size,3,Y⟩) (by simp) _).setCell (p:=⟨w.heap.size,4,Y⟩) (by simp) _).setCell (p:=⟨w.heap.size,5,Y⟩) (by simp) _).setCell (p:=⟨w.heap.size,6,Y⟩) (by simp) _).setCell (p:=⟨w.heap.size,7,Y⟩) (by simp) _).setCell (p:=⟨w.heap.size,8,Y⟩) (by simp) _).setCell (p:=⟨w.heap.size,9,Y⟩) (by simp) _).setCell (p:=⟨w.heap.size,10,Y⟩) (by simp) _).setCell (p:=⟨w.heap.size,11,Y⟩) (by simp) _).alloc (by simp[World.setCell];omega) _).alloc (by simp[World.setCell];omega) _,.inr (.inr ⟨HR.out,rfl,_,_,_,_,_,rfl,⟨?_,yT _ _,Sv.bz _ _,Gw.bz _ _,Wh.bz _ _⟩,?_⟩)⟩
  .exact pB (ms:=[⟨nm,1,1,ad,sv⟩]) (G:=1) (cur:=#[I nm,O J 1,O J 1,O J ad,AT sv]) (by omega) (HEV.out _ (by simp[World.setCell])) rfl (by simp) (by unfold Ii;omega) rfl
  .exact⟨λm hm=>by simp[Ta] at hm;subst hm;exact hn,λr hr=>by simp[Ta] at hr,λr hr=>by simp[Ta] at hr,λr hr=>by simp[Ta] at hr,λr hr=>by simp[Ta] at hr,hn,hc⟩
def iC(n:Nd)(ne:Int)(w:World)(e:QA)(w':World):Prop:=Below w.heap.size w w' /\
 ((ne≠0/\e=sh (Il #[Ip #[I ⟨#[]⟩,AT false,U Y 0 0,U Y 0 0,U Y 0 0,U Y 0 0],O J ne])) \/
 (ne=0/\∃um us ug uw,e=sh (Il #[Ip #[I n.name,AT true,um,us,ug,uw],O J 0])/\Own w.heap.size w' um n.ms/\Sv.Own w.heap.size w' us n.sv/\Gw.Own w.heap.size w' ug n.gw/\Wh.Own w.heap.size w' uw n.wh))
theorem Gj(n:Nd)(vm vr vs vg vw:Value)(w:World)(h:ix w n vm vr vs vg vw) :
 aT 17 #[Ip (fB n vm vr vs vg vw)] w λe w'=>iC n n.e w e w':=by
 have oO:Hid (∀W,Below w.heap.size w W->aT _ _ _ _):=λW hW=>nB n vm vr vs vg vw W (h.below hW);have AV:Hid (n.e=0->∀W,Below w.heap.size w W->aT 48 #[Ip (fB n vm vr vs vg vw)] W λe w'=>∃um ur us ug uw,e=sh (Ip (fB n um ur us ug uw))/\gT W.heap.size w' n um ur us ug uw/\Below W.heap.size W w'):=λhe W hW=>by
  have hp:=Nd.parts (Nd.jy he).1;have l1:=(aI hp.ms).1;have l2:=(jo hp.rs).1;have l3:=(Sv.aI hp.sv).1;have l4:=(Gw.aI hp.gw).1;have l5:=(Wh.aI hp.wh).1;exact vJ n vm vr vs vg vw W (h.below hW) (by omega) (by omega) (by omega) (by omega) (by omega)
 obtain⟨nm,ct,ms,rs,sv,gw,⟨px,py,pz,ph,pq⟩,wh⟩:=n;obtain⟨⟨em,cm,rfl,_,_⟩,⟨zp,cr,rfl,_,_⟩,⟨es,zq,rfl,_,_⟩,⟨zr,cg,rfl,_,_⟩,⟨eh,ch,rfl,_,_⟩,_,_⟩:=h;simp only[fB] at oO AV ⊢;generalize wM:ms.length=km at *;have Hkm:Hid _:=wM;generalize Wi:rs.length=kr at *;have Hkr:Hid _:=Wi;generalize Wj:sv.length=ks at *;have Hks:Hid _:=Wj;generalize Ve:gw.length=kg at *;have Hkg:Hid _:=Ve;generalize hkh:wh.length=kh at *;have Hkh:Hid _:=hkh;clear wM Wi Wj Ve hkh;generalize Nd.e ⟨nm,ct,ms,rs,sv,gw,⟨px,py,pz,ph,pq⟩,wh⟩=ne at *;obtain⟨W0,eu⟩:∃W0,W0=(w.alloc (AI #[I nm,I ct,U em km cm,U zp kr cr,U es ks zq,U zr kg cg,O J px,O J py,O J pz,O J ph,O J pq,U eh kh ch] 30)).alloc (AI #[I ⟨#[]⟩,AT false,U Y 0 0,U Y 0 0,U Y 0 0,U Y 0 0] 57):=⟨_,rfl⟩;have eN:Below w.heap.size w W0:=by rw[eu];exact((Ia _ _).alloc (By _) _).alloc (by simp) _
 have eo:W0.heap[w.heap.size]?=Z (AI #[I nm,I ct,U em km cm,U zp kr cr,U es ks zq,U zr kg cg,O J px,O J py,O J pz,O J ph,O J pq,U eh kh ch] 30 (0,0)):=by
  rw[eu,It _ _ _ (by simp)];exact Ie w _
 have cE:W0.heap[w.heap.size+1]?=Z (AI #[I ⟨#[]⟩,AT false,U Y 0 0,U Y 0 0,U Y 0 0,U Y 0 0] 57 (0,0)):=by
  have h:=Ie (w.alloc (AI #[I nm,I ct,U em km cm,U zp kr cr,U es ks zq,U zr kg cg,O J px,O J py,O J pz,O J ph,O J pq,U eh kh ch] 30)) (AI #[I ⟨#[]⟩,AT false,U Y 0 0,U Y 0 0,U Y 0 0,U Y 0 0] 57);rw[eu];simpa using h
 have r8:W0.heap.size=w.heap.size+2:=by rw[eu];simp
 have dB:Hid _:=eN;have yO:Hid _:=eo;have C8:Hid _:=cE;clear eN eo cE;go_enter Tryz.func17,Tryz.ntmps17;go_wp2_with fail;rw[<- eu];clear eu;refine(oO.out W0 dB.out).mono ?_;rintro e w1 ⟨rfl,an⟩;have bf:=(an.block _ (by omega)).trans yO.out;have cP:=(an.block _ (by omega)).trans C8.out;have aK:Hid _:=dB.out.trans (an.mono (by omega));have gi:=(Ib.1 cP).1;obtain⟨q0,q1,q2,q3,q4,q5⟩:=ko cP;obtain⟨GZ,FK,G9,Ha,Hb,Hc⟩:=L4 cP;obtain⟨p0,p1,p2,p3,p4,p5,p6,p7,p8,p9,p10,p11⟩:=bT bf;have GW:Hid _:=cP;have ji:Hid _:=bf;clear an bf cP;by_cases bE:ne=0;rotate_left
 .have Wp:(ne !=0)=true:=by simpa using bE
  have HNZ:Hid _:=bE;clear bE;go_wp2_with fail;refine Iy (v:=Il #[Ip #[I ⟨#[]⟩,AT false,U Y 0 0,U Y 0 0,U Y 0 0,U Y 0 0],O J ne]) ?_ rfl ?_
  .simp[results,Tryz.results17,go_sem,q0,q1,q2,q3,q4,q5]
  .unfold iC
   exact⟨((((((aK.out).setCell (p:=⟨w.heap.size+1,0,Y⟩) (by simp) _).setCell (p:=⟨w.heap.size+1,1,Y⟩) (by simp) _).setCell (p:=⟨w.heap.size+1,2,Y⟩) (by simp) _).setCell (p:=⟨w.heap.size+1,3,Y⟩) (by simp) _).setCell (p:=⟨w.heap.size+1,4,Y⟩) (by simp) _).setCell (p:=⟨w.heap.size+1,5,Y⟩) (by simp) _,.inl ⟨HNZ.out,rfl⟩⟩
 subst bE;have HFK:=AV.out rfl w1 aK.out;clear AV oO;go_wp2_with fail;refine HFK.mono ?_;rintro e w2 ⟨um,ur,us,ug,uw,rfl,ky,aD⟩;obtain⟨im,jm,rq,_⟩:=ax ky.ms;obtain⟨ir,jr,xi,_⟩:=ax ky.rs;obtain⟨is_,js,BL,_⟩:=ax ky.sv;obtain⟨ig,jg,BM,_⟩:=ax ky.gw;obtain⟨ih,jh,BN,_⟩:=ax ky.wh;simp only at rq xi BL BM BN;rw[Hkm.out] at rq;rw[Hkr.out] at xi;rw[Hks.out] at BL;rw[Hkg.out] at BM;rw[Hkh.out] at BN;subst rq xi BL BM BN;have nP:=aD.size;have iQ:=(aD.block _ (by omega)).trans ji.out;have fm:Hid _:=(aD.block _ (by omega)).trans GW.out;have bD:Hid _:=aK.out.trans (aD.mono (by omega));clear p0 p1 p2 p3 p4 p5 p6 p7 p8 p9 p10 p11 q0 GZ q1 FK q2 G9 q3 Ha q4 Hb q5 Hc;obtain⟨p0,p1,p2,p3,p4,p5,p6,p7,p8,p9,p10,p11⟩:=bT iQ;obtain⟨pz0,pz1,pz2,pz3,pz4,pz5,pz6,pz7,pz8,pz9,anr,ant⟩:=tt iQ;have xH:w.heap.size<w2.heap.size:=by omega
 have jD:=fm.out;obtain⟨q0,q1,q2,q3,q4,q5⟩:=ko jD;obtain⟨GZ,FK,G9,Ha,Hb,Hc⟩:=L4 jD;have NA:w.heap.size+1<w2.heap.size:=by omega
 have HOm:Hid (Own (w.heap.size+2) w2 (U im km jm) ms):=ky.ms.mono (by omega);have HOs:Hid (Sv.Own (w.heap.size+2) w2 (U is_ ks js) sv):=ky.sv.mono (by omega);have HOg:Hid (Gw.Own (w.heap.size+2) w2 (U ig kg jg) gw):=ky.gw.mono (by omega);have HOh:Hid (Wh.Own (w.heap.size+2) w2 (U ih kh jh) wh):=ky.wh.mono (by omega);clear ky aD iQ jD HFK;go_wp2_with fail;refine Iy (v:=Il #[Ip #[I nm,AT true,U im km jm,U is_ ks js,U ig kg jg,U ih kh jh],O J 0]) ?_ rfl ?_
 .simp[results,Tryz.results17,go_sem,q0,q1,q2,q3,q4,q5]
 .unfold iC
  refine⟨((((((fI bD.out (by omega) _ _ _ _ _ _ _ _ _ _ _ _).setCell (p:=⟨w.heap.size+1,0,Y⟩) (by simp) _).setCell (p:=⟨w.heap.size+1,1,Y⟩) (by simp) _).setCell (p:=⟨w.heap.size+1,2,Y⟩) (by simp) _).setCell (p:=⟨w.heap.size+1,3,Y⟩) (by simp) _).setCell (p:=⟨w.heap.size+1,4,Y⟩) (by simp) _).setCell (p:=⟨w.heap.size+1,5,Y⟩) (by simp) _,.inr ⟨rfl,_,_,_,_,rfl,?_,?_,?_,?_⟩⟩
  .exact Own.mono (Ik (Ik (Ik (Ik (Ik (Ik (bK (HOm.out) (by omega) _ _ _ _ _ _ _ _ _ _ _ _) (a:=⟨w.heap.size+1,0,Y⟩) (by simp only;omega) _) (a:=⟨w.heap.size+1,1,Y⟩) (by simp only;omega) _) (a:=⟨w.heap.size+1,2,Y⟩) (by simp only;omega) _) (a:=⟨w.heap.size+1,3,Y⟩) (by simp only;omega) _) (a:=⟨w.heap.size+1,4,Y⟩) (by simp only;omega) _) (a:=⟨w.heap.size+1,5,Y⟩) (by simp only;omega) _) (by omega)
  .exact Sv.Own.mono (Ik (Ik (Ik (Ik (Ik (Ik (bK (HOs.out) (by omega) _ _ _ _ _ _ _ _ _ _ _ _) (a:=⟨w.heap.size+1,0,Y⟩) (by simp only;omega) _) (a:=⟨w.heap.size+1,1,Y⟩) (by simp only;omega) _) (a:=⟨w.heap.size+1,2,Y⟩) (by simp only;omega) _) (a:=⟨w.heap.size+1,3,Y⟩) (by simp only;omega) _) (a:=⟨w.heap.size+1,4,Y⟩) (by simp only;omega) _) (a:=⟨w.heap.size+1,5,Y⟩) (by simp only;omega) _) (by omega)
  .exact Gw.Own.mono (Ik (Ik (Ik (Ik (Ik (Ik (bK (HOg.out) (by omega) _ _ _ _ _ _ _ _ _ _ _ _) (a:=⟨w.heap.size+1,0,Y⟩) (by simp only;omega) _) (a:=⟨w.heap.size+1,1,Y⟩) (by simp only;omega) _) (a:=⟨w.heap.size+1,2,Y⟩) (by simp only;omega) _) (a:=⟨w.heap.size+1,3,Y⟩) (by simp only;omega) _) (a:=⟨w.heap.size+1,4,Y⟩) (by simp only;omega) _) (a:=⟨w.heap.size+1,5,Y⟩) (by simp only;omega) _) (by omega)
  .exact Wh.Own.mono (Ik (Ik (Ik (Ik (Ik (Ik (bK (HOh.out) (by omega) _ _ _ _ _ _ _ _ _ _ _ _) (a:=⟨w.heap.size+1,0,Y⟩) (by simp only;omega) _) (a:=⟨w.heap.size+1,1,Y⟩) (by simp only;omega) _) (a:=⟨w.heap.size+1,2,Y⟩) (by simp only;omega) _) (a:=⟨w.heap.size+1,3,Y⟩) (by simp only;omega) _) (a:=⟨w.heap.size+1,4,Y⟩) (by simp only;omega) _) (a:=⟨w.heap.size+1,5,Y⟩) (by simp only;omega) _) (by omega)
end Go.Proofs.YtfidjlcdlakceaaGreatDoor
namespace Go.Proofs
open Go.Shelf
def Tryz.Gk:Go.Shelf.Ren:=⟨fun|6=>108|15=>159|14=>163|28=>215|29=>216|20=>221|21=>222|22=>223|23=>224|24=>225|25=>226|26=>227|27=>228|46=>255|47=>256|48=>257|49=>258|50=>259|57=>285|n=>n,fun|22=>22|24=>70|25=>169|3=>3|39=>192|0=>0|53=>260|55=>262|4=>4|46=>267|45=>266|50=>82|5=>5|9=>9|66=>288|70=>292|76=>312|77=>313|n=>n,fun|n=>n⟩
theorem Tryz.abL:Go.Proofs.SlLaysF0.n6 Tryz.prog Tryz.Gk:={
 mixed:=by kernel_rfl
 f6:=⟨Tryz.f108.name,by decide,Tryz.func108.trans (congrArg Z (by kernel_rfl))⟩
 f14:=⟨Tryz.f163.name,by decide,Tryz.func163.trans (congrArg Z (by kernel_rfl))⟩
 f15:=Tryz.func159.trans (congrArg Z (by kernel_rfl))
 f20:=⟨Tryz.f221.name,by decide,Tryz.func221.trans (congrArg Z (by kernel_rfl))⟩
 f21:=⟨Tryz.f222.name,by decide,Tryz.func222.trans (congrArg Z (by kernel_rfl))⟩
 f22:=⟨Tryz.f223.name,by decide,Tryz.func223.trans (congrArg Z (by kernel_rfl))⟩
 f23:=⟨Tryz.f224.name,by decide,Tryz.func224.trans (congrArg Z (by kernel_rfl))⟩
 f24:=⟨Tryz.f225.name,by decide,Tryz.func225.trans (congrArg Z (by kernel_rfl))⟩
 f25:=⟨Tryz.f226.name,by decide,Tryz.func226.trans (congrArg Z (by kernel_rfl))⟩
 f26:=⟨Tryz.f227.name,by decide,Tryz.func227.trans (congrArg Z (by kernel_rfl))⟩
 f27:=⟨Tryz.f228.name,by decide,Tryz.func228.trans (congrArg Z (by kernel_rfl))⟩
 f28:=Tryz.func215.trans (congrArg Z (by kernel_rfl))
 f29:=Tryz.func216.trans (congrArg Z (by kernel_rfl))
 f46:=⟨Tryz.f255.name,by decide,Tryz.func255.trans (congrArg Z (by kernel_rfl))⟩
 f47:=Tryz.func256.trans (congrArg Z (by kernel_rfl))
 f48:=Tryz.func257.trans (congrArg Z (by kernel_rfl))
 f49:=⟨Tryz.f258.name,by decide,Tryz.func258.trans (congrArg Z (by kernel_rfl))⟩
 f50:=⟨Tryz.f259.name,by decide,Tryz.func259.trans (congrArg Z (by kernel_rfl))⟩
 f57:=⟨Tryz.f285.name,by decide,Tryz.func285.trans (congrArg Z (by kernel_rfl))⟩
 t0:=Tryz.underlying0
 a0:=Tryz.isAgg0
 z0:=Tryz.sizeOf0
 v0:=Tryz.zeroValue0
 t3:=Tryz.underlying3
 a3:=Tryz.isAgg3
 z3:=Tryz.sizeOf3
 v3:=Tryz.zeroValue3
 t4:=Tryz.underlying4
 a4:=Tryz.isAgg4
 z4:=Tryz.sizeOf4
 v4:=Tryz.zeroValue4
 t5:=Tryz.underlying5
 a5:=Tryz.isAgg5
 z5:=Tryz.sizeOf5
 v5:=Tryz.zeroValue5
 t9:=Tryz.underlying9
 a9:=Tryz.isAgg9
 z9:=Tryz.sizeOf9
 v9:=Tryz.zeroValue9
 t22:=Tryz.underlying22
 a22:=Tryz.isAgg22
 z22:=Tryz.sizeOf22
 v22:=Tryz.zeroValue22
 t25:=Tryz.underlying169
 a25:=Tryz.isAgg169
 z25:=Tryz.sizeOf169
 v25:=Tryz.zeroValue169
 t39:=Tryz.underlying192
 a39:=Tryz.isAgg192
 z39:=Tryz.sizeOf192
 v39:=Tryz.zeroValue192
 t45:=Tryz.underlying266
 a45:=Tryz.isAgg266
 z45:=Tryz.sizeOf266
 v45:=Tryz.zeroValue266
 t46:=Tryz.underlying267
 a46:=Tryz.isAgg267
 z46:=Tryz.sizeOf267
 v46:=Tryz.zeroValue267
 t50:=Tryz.underlying82
 a50:=Tryz.isAgg82
 z50:=Tryz.sizeOf82
 v50:=Tryz.zeroValue82
 t53:=Tryz.underlying260
 a53:=Tryz.isAgg260
 z53:=Tryz.sizeOf260
 v53:=Tryz.zeroValue260
 t55:=Tryz.underlying262
 a55:=Tryz.isAgg262
 z55:=Tryz.sizeOf262
 v55:=Tryz.zeroValue262
 t66:=Tryz.underlying288
 a66:=Tryz.isAgg288
 z66:=Tryz.sizeOf288
 v66:=Tryz.zeroValue288
 t70:=Tryz.underlying292
 a70:=Tryz.isAgg292
 z70:=Tryz.sizeOf292
 v70:=Tryz.zeroValue292
 t76:=Tryz.underlying312
 a76:=Tryz.isAgg312
 z76:=Tryz.sizeOf312
 v76:=Tryz.zeroValue312
 t77:=Tryz.underlying313
 a77:=Tryz.isAgg313
 z77:=Tryz.sizeOf313
 v77:=Tryz.zeroValue313 }
end Go.Proofs
namespace Go.Proofs.YtfidjlcdlakceaaGreatDoor
open Go.RowKit Go.Sort Go.Lib
def WK(a b:Mem):Int:=bl a.name b.name
theorem Gl(x y:Mem)(W:World):aT 109 #[Ip #[I x.name,O J x.state,O J x.aP,O J x.addr,AT x.server],Ip #[I y.name,O J y.state,O J y.aP,O J y.addr,AT y.server]] W λe w'=>e=sh (O J (WK x y))/\∃q os',w'=grow (W.drewN q) os':=by
 unfold WK;go_enter Tryz.func109,Tryz.ntmps109;go_wp2_with (go_at_call 110;refine(fC _ _ _).mono ?_;rintro e w' ⟨rfl,rfl⟩);go_ret;exact⟨rfl,0,_,by rw[alloc_eq_grow,alloc_eq_grow,grow_grow];rfl⟩
theorem Mx[Inhabited Mem](PF off size:Nat)(w:World):CmpLays Tryz.prog 109 #[] Mem.cs 5 WK PF off size w:=λ_ _ _ _ x y=>Gl x y _
theorem ahc:SWO (ltOf WK) where
 irrefl x:=by simp[ltOf,WK,(cK x.name x.name).2 rfl]
 trans x y z:=by
  simp only[ltOf,WK,decide_eq_true_eq,dx];exact λh1 h2=>fp h1 h2
 ntrans x y z:=by
  intro h1 h2;have h1:=of_decide_eq_false h1;have h2:=of_decide_eq_false h2;refine decide_eq_false λh3=>?_;have h3:bl x.name z.name<0:=h3;rcases Int.lt_trichotomy (bl x.name y.name) 0 with h|h|h
  .exact h1 h
  .have e:x.name=y.name:=(cK _ _).1 h
   rw[e] at h3;exact h2 h3
  .have h4:=(rz _ _).1 h
   exact h2 ((dx _ _).2 (fp h4 ((dx _ _).1 h3)))
theorem Gm[Inhabited Mem]{base:Nat}{w:World}{g c:Nat}{l:List Mem}(h:Own base w (U (Z ⟨g,0,Y⟩) l.length c) l):HoldsK Mem.cs 5 w g 0 l.toArray:=by
 rcases h.2 with⟨h1,_⟩|⟨g',c',cur,h1,dN,hg,fa,dO,cJ,aV⟩
 .cases h1
 .simp only[Value.slice.injEq,Option.some.injEq,Addr.mk.injEq] at h1
  obtain⟨⟨rfl,_,_⟩,_,_⟩:=h1;intro j hj;rw[size_flatK] at hj;have gd:j<l.length*5:=by simpa using hj
  refine⟨?_,fJ hg _⟩;rw[af hg,I3,get_flatK Mem.cs 5 l.toArray j (by simpa using gd)];have e1:=eD l (j/5) (by omega) (j%5) (by omega);rw[show j/5*5+j%5=j by omega] at e1;have e2:cur[j]?=(fl l)[j]?:=by rw[<- aV,IL (by omega)];simp
  rw[e2,e1];have e3:l.toArray[j/5]! = l.getD (j/5) dm:=by
   have aB:j/5<l.length:=by omega
   simp[Io,aB]
  rw[e3];have hl:j%5<(l.getD (j/5) dm).cs.length:=by rw[bL];omega
  rw[Ic hl,getElem!_pos (l.getD (j/5) dm).cs (j%5) hl];rfl
theorem zL[Inhabited Mem]{w:World}{g m:Nat}{d:Array Mem}{os:Array Obj}{cur:Array Value}{T:I8}{fr:Nat×Nat}(hg:w.heap[g]?=Z (AI cur T fr)) : (QM Mem.cs 5 w g 0 m d os).heap[g]?=Z (AI (putCells id 0 (flatK Mem.cs 5 d) cur) T fr):=by
 have aB:=(Ib.1 hg).1;have xH:g<(putRowK Mem.cs 5 (QL w m) g 0 d).heap.size:=by
  show g<(putRow id (QL w m) g 0 _).heap.size;rw[size_putRow];exact aB
 show((putRowK Mem.cs 5 (QL w m) g 0 d).heap++os)[g]?=_;rw[Array.getElem?_append_left xH];show(w.heap.modify g (onCells (putCells id 0 (flatK Mem.cs 5 d))))[g]?=_;rw[M2,if_pos rfl,hg];rfl
theorem Ca[Inhabited Mem]{base:Nat}{w:World}{g c m:Nat}{l:List Mem}{os:Array Obj}(h:Own base w (U (Z ⟨g,0,Y⟩) l.length c) l)(d:Array Mem)(hs:d.size=l.length) :
 Own base (QM Mem.cs 5 w g 0 m d os) (U (Z ⟨g,0,Y⟩) l.length c) d.toList:=by
 rcases h.2 with⟨h1,_⟩|⟨g',c',cur,h1,dN,hg,fa,dO,cJ,aV⟩
 .cases h1
 .simp only[Value.slice.injEq,Option.some.injEq,Addr.mk.injEq] at h1
  obtain⟨⟨rfl,_,_⟩,_,rfl⟩:=h1;have hl:d.toList.length=l.length:=by simpa using hs
  have ho:Own base (QM Mem.cs 5 w g 0 m d os) (U (Z ⟨g,0,Y⟩) d.toList.length c) d.toList:=by
   refine pB dN (zL hg) (by simp[putCells,cJ]) (by omega) dO ?_;apply List.ext_getElem?;intro t;by_cases ht:t<d.toList.length*5
   .have htc:t<cur.size:=by rw[cJ];have:l.length*5<=c*5:=Nat.mul_le_mul_right 5 fa;omega
    rw[IL ht];have e1:=eD d.toList (t/5) (by omega) (t%5) (by omega);rw[show t/5*5+t%5=t by omega] at e1;rw[e1];have bb:t<d.size*5:=by simpa using ht
    have e2:(putCells id 0 (flatK Mem.cs 5 d) cur).toList[t]?=Z (flatK Mem.cs 5 d)[t]! := by
     simp only[putCells,Array.getElem?_toList,Array.getElem?_mapIdx,Array.getElem?_eq_getElem htc,Option.map_some];rw[if_pos ⟨IF _,by rw[size_flatK];omega⟩];rfl
    rw[e2,get_flatK Mem.cs 5 d t bb];have e3:d[t/5]! = d.toList.getD (t/5) dm:=by
     have aB:t/5<d.size:=by omega
     simp[Io,aB]
    rw[e3];have dK:t%5<(d.toList.getD (t/5) dm).cs.length:=by rw[bL];omega
    rw[Ic dK,getElem!_pos (d.toList.getD (t/5) dm).cs (t%5) dK]
   .rw[IK (by rw[IA];omega),IK (by rw[cS];omega)]
  rw[<- hl];exact ho
theorem abM(n:Nat)(W:World)(h:n<=12):aT 159 #[O .u64 n] W λe w'=>(∃l:Int,e=sh (O J l))/\w'=W:=
 (Tryz.bits_Len n W (by omega) (by omega)).mono λ_ _ ⟨he,hw⟩=>⟨⟨_,he⟩,hw⟩
theorem zM[Inhabited Mem]{B:Nat}{w:World}{g n:Nat}{d:Array Mem}{os:Array Obj}(hg:B<=g)(hB:B<=w.heap.size):Go.RowKit.Below B w (QM Mem.cs 5 w g 0 n d os):=by
 refine⟨rfl,rfl,rfl,by simp[QM,putRowK,putRow,mapBlock,QL,grow],λk hk=>?_⟩;unfold QM;rw[QO _ _ (by simp[putRowK,putRow,mapBlock,QL];omega)]
 have:g≠k:=by omega
 simp[putRowK,putRow,mapBlock,QL,M2,this]
theorem My[Inhabited Mem]{w:World}{g n:Nat}{d:Array Mem}{os:Array Obj}:Sh (λk=>k=g) w (QM Mem.cs 5 w g 0 n d os):=by
 refine⟨rfl,rfl,rfl,by simp[QM,putRowK,putRow,mapBlock,QL,grow],λk hk bE=>?_⟩;unfold QM;rw[QO _ _ (by simp[putRowK,putRow,mapBlock,QL];omega)]
 have:g≠k:=λe=>bE e.symm
 simp[putRowK,putRow,mapBlock,QL,M2,this]
def Mz(l:List Mem):Prop:=∀i j,i<j->j<l.length->0<=bl (l.getD j dm).name (l.getD i dm).name
theorem Cb(base:Nat)(l:List Mem)(g c:Nat)(w:World)(h:Own base w (U (Z ⟨g,0,Y⟩) l.length c) l)(hb:base<=w.heap.size)(hl:l.length<=12) :
 aT 108 #[U (Z ⟨g,0,Y⟩) l.length c,.func (.func 109) #[] #[]] w λe w'=>e=sh (Il #[])/\∃l':List Mem,l'.Perm l/\Mz l'/\Own base w' (U (Z ⟨g,0,Y⟩) l.length c) l'/\Go.RowKit.Below base w w'/\Sh (λk=>k=g) w w':=by
 have eg:∀args w,(callFunc 109 args).run Tryz.prog w=.ok (.enter 109 args) w:=enters_of Tryz.func109 (by kernel_rfl) rfl;have oU:=h.lt g rfl;have L8:Inhabited Mem:=⟨dm⟩;have mC:=AnyQ.slices_SortFunc_small_sorted Tryz.abL 5 Tryz.isAgg70 Tryz.sizeOf70 Mem.cs bL da WK 109 #[] ahc g 0 c l.toArray w eg (Mx g 0 _ w) (Gm h) oU.2 (by simpa using hl) abM;rw[List.size_toArray] at mC;refine Calls.mono mC ?_;rintro e w' ⟨rfl,d,n,os,hp,hs,rfl⟩;obtain⟨p1,_,p3⟩:=hp;have bb:d.size=l.length:=by simpa using p1
 refine⟨rfl,d.toList,?_,λi j kR hj=>?_,Ca h d bb,zM oU.1 hb,My⟩
 .have e1:d.extract 0 l.length=d:=by rw[<- bb];simp
  have e2:l.toArray.extract 0 l.length=l.toArray:=by simp
  rw[e1,e2] at p3;simpa using p3
 .have gd:j<d.size:=by simpa using hj
  have h2:=hs i j (IF _) kR (by rw[<- bb];exact gd);have h3:¬ bl (d[j]!).name (d[i]!).name<0:=of_decide_eq_false h2;have e1:d[j]! = d.toList.getD j dm:=by simp[Io,gd]
  have e2:d[i]! = d.toList.getD i dm:=by simp[Io,show i<d.size by omega]
  rw[e1,e2] at h3;omega
theorem Gn(f:Value)(w:World) :
 aT 221 #[U Y 0 0,O J 0,O J 0,f] w λe w'=>e=sh (Il #[])/\w'=w:=by
 go_enter Tryz.func221,Tryz.ntmps221;go_wp2_with fail;refine JQ 1 ?_;rw[Jx];go_wp2_with fail;go_end0
 exact⟨rfl,rfl⟩
theorem Gp(k:Int)(f:Value)(w:World) :
 aT 163 #[U Y 0 0,O J 0,O J 0,O J k,f] w λe w'=>e=sh (Il #[])/\w'=w:=by
 go_enter Tryz.func163,Tryz.ntmps163;go_wp2_with fail;refine JQ 1 ?_;rw[Jx];go_wp2_with (go_at_call 221;refine(Gn _ _).mono ?_;rintro e w' ⟨rfl,rfl⟩)
 (try simp only[Exit.inBlock,Exit.then]);refine Iy (results_none rfl _ _ _) rfl ?_
 exact⟨rfl,rfl⟩
theorem Cc(f:Value)(w:World) :
 aT 108 #[U Y 0 0,f] w λe w'=>e=sh (Il #[])/\w'=w:=by
 go_enter Tryz.func108,Tryz.ntmps108;go_wp2_with (go_at_call 159;refine(Tryz.bits_Len _ _ (by omega) (by omega)).mono ?_;rintro e w' ⟨rfl,rfl⟩);refine(Gp _ _ _).mono ?_;rintro e w' ⟨rfl,rfl⟩;go_wp2_with fail;go_end0
 exact⟨rfl,rfl⟩
theorem Gq(base:Nat)(l:List Mem)(v:Value)(w:World)(h:Own base w v l)(hb:base<=w.heap.size)(hl:l.length<=12) :
 aT 108 #[v,.func (.func 109) #[] #[]] w λe w'=>e=sh (Il #[])/\∃l':List Mem,l'.Perm l/\Mz l'/\Own base w' v l'/\Go.RowKit.Below base w w'/\Sh (λk=>v.ownBlock=Z k) w w':=by
 rcases h.2 with⟨h1,h2⟩|⟨g,c,cur,h1,_⟩
 .subst h1
  have he:=IX h2;subst he;refine(Cc _ w).mono ?_;rintro e w' ⟨rfl,rfl⟩;exact⟨rfl,[],.refl _,λi j _ hj=>by simp at hj,bz _ _,Go.RowKit.Below.refl _ _,Sh.refl _ _⟩
 .subst h1
  refine(Cb base l g c w h hb hl).mono ?_;rintro e w' ⟨rfl,l',h1,h2,h3,h4,h5⟩;exact⟨rfl,l',h1,h2,h3,h4,h5.mono (λk hk=>by rw[hk];rfl)⟩
end Go.Proofs.YtfidjlcdlakceaaGreatDoor
namespace Go.Proofs.YtfidjlcdlakceaaGreatDoor
open Go.RowKit
def xo(rs:List bu)(times:Int)(told:List Mem)(rest:List bu):Prop:=
 (rs=[]/\told=[]/\rest=[])\/(0<rs.length/\∃ord,ie rs ord/\told=gh rs ord (min 5 rs.length)/\rest=(bump rs ord (min 5 rs.length)).filter (dW times))
theorem Cd{rs:List bu}{times:Int}{told:List Mem}{rest:List bu}(h:xo rs times told rest):told.length<=5:=by
 rcases h with⟨_,rfl,_⟩|⟨_,ord,_,rfl,_⟩
 .simp
 .unfold gh;rw[Ov,IA];omega
theorem Gr{rs:List bu}{ord:List Nat}{k:Nat}(h:ie rs ord){m:Mem}(hm:m∈gh rs ord k):∃r∈rs,r.m=m:=by
 unfold gh at hm;obtain⟨i,hi,rfl⟩:=List.mem_map.1 hm;have hb:=h.bd i (List.mem_of_mem_take hi);refine⟨rs[i],IQ _,?_⟩;simp[Io,Ic hb]
theorem zN(rs:List bu):∀(is:List Nat) (r:bu),r∈is.foldl gE rs->(∃x∈rs,x.m=r.m)\/r.m=dm
 |[],r,h=>.inl ⟨r,h,rfl⟩
 |i::is,r,h=>by
  rw[List.foldl_cons] at h;rcases zN (gE rs i) is r h with⟨x,hx,e⟩|e
  .unfold gE at hx
   rcases List.mem_or_eq_of_mem_set hx with hx|rfl
   .exact .inl ⟨x,hx,e⟩
   .by_cases hi:i<rs.length
    .exact .inl ⟨rs[i],IQ _,by rw[<- e];simp[Io,Ic hi]⟩
    .exact .inr (by rw[<- e];simp[Io,IK (Nat.le_of_not_lt hi),dr])
  .exact .inr e
theorem Gs{rs:List bu}{times:Int}{told:List Mem}{rest:List bu}(h:xo rs times told rest)(hr:∀r∈rs,r.m.name.size<=Ii):(∀m∈told,m.name.size<=Ii)/\∀r∈rest,r.m.name.size<=Ii:=by
 rcases h with⟨_,rfl,rfl⟩|⟨_,ord,ho,rfl,rfl⟩
 .exact⟨λm hm=>by simp at hm,λm hm=>by simp at hm⟩
 .refine⟨λm hm=>?_,λr Cn=>?_⟩
  .obtain⟨r,h1,rfl⟩:=Gr ho hm;exact hr r h1
  .have h1:=(List.mem_filter.1 Cn).1
   rcases zN rs _ r h1 with⟨x,hx,e⟩|e
   .rw[<- e];exact hr x hx
   .rw[e];simp[dm]
theorem Gt(rs:List bu)(v:Value)(times:Int)(w:World)(hv:kB w v rs)(h0:cI rs=0)(ht:within times 1 100=true) :
 aT 107 #[v,O J 5,O J times] w λe w'=>∃a k c a2 k2 c2 told rest,e=sh (Il #[U a k c,U a2 k2 c2,O J 0])/\Hid (xo rs times told rest)/\Own w.heap.size w' (U a k c) told/\bX w.heap.size w' (U a2 k2 c2) rest/\Below w.heap.size w w':=by
 by_cases hp:0<rs.length
 .have hT:=BV rs v (rs.length-1) (by omega) (by have:=(jo h0).1;omega)
  refine(FX rs v 5 times w hv h0 rfl ht hp hT).mono ?_;rintro e w' ⟨v1,v2,ord,rfl,ho,h1,h2,hb⟩;obtain⟨a,c,rfl,_⟩:=ax h1;obtain⟨a2,c2,rfl,_⟩:=ax h2;exact⟨a,_,c,a2,_,c2,_,_,rfl,.inr ⟨hp,ord,ho,rfl,rfl⟩,h1,h2,hb⟩
 .have he:rs=[]:=IX (by omega)
  subst he;refine(Ga v 5 times w hv h0 rfl ht).mono ?_;rintro e w' ⟨v1,v2,rfl,h1,h2,hb⟩;obtain⟨a,c,rfl,_⟩:=ax h1;obtain⟨a2,c2,rfl,_⟩:=ax h2;exact⟨a,_,c,a2,_,c2,_,_,rfl,.inl ⟨rfl,rfl,rfl⟩,h1,h2,hb⟩
def tmN(n:Nd):Int:=max (3*(Lib.bitLen (dY n.ms).length:Nat)) 1
def nE(n:Nd)(l:List Mem)(rest:List bu):Prop:=∃told,xo n.rs (tmN n) told rest/\l.Perm told/\Mz l
theorem MA{ms:List Mem}(h:ms.length<=20):(dY ms).length<=20:=by
 unfold dY;rw[Ov];exact Ir (List.length_filter_le _ _) h
theorem Wk.pk{L b c:Nat}{W:World}{n:Nd}(h:Wk L W b n)(hc:∃cs,W.heap[c]?=Z (AI cs 57 (0,0)))(i:Nat)(x:Value):Wk L (W.setCell ⟨c,i,Y⟩ x) b n/\∃cs,(W.setCell ⟨c,i,Y⟩ x).heap[c]?=Z (AI cs 57 (0,0)):=by
 obtain⟨cs,hc⟩:=hc;obtain⟨vm,vr,vs,vg,vw,h1,h2,h3,h4⟩:=h;have bE:b≠c:=by
  intro e;rw[e,hc] at h1;injection h1 with h1;injection h1 with _ h1;exact absurd h1 (by decide)
 exact⟨⟨vm,vr,vs,vg,vw,(IH W _ x b bE).trans h1,⟨IG h2.ms (eV h2.ms hc (by decide)) _,IG h2.rs (eV h2.rs hc (by decide)) _,IG h2.sv (eV h2.sv hc (by decide)) _,IG h2.gw (eV h2.gw hc (by decide)) _,IG h2.wh (eV h2.wh hc (by decide)) _⟩,h3,h4⟩,_,Is (i:=i) hc x⟩
theorem Gu(L b:Nat)(n:Nd)(w:World)(h:Wk L w b n)(hL:L<=b)(Dl:Sp n) :
 aT 56 #[Ig (Z ⟨b,0,Y⟩)] w λe w'=>∃a k c l rest,e=sh (Ip #[I n.name,AT false,U a k c,U Y 0 0,U Y 0 0,U Y 0 0])/\Hid (nE n l rest)/\Own (w.heap.size+1) w' (U a k c) l/\Sh (λk=>k=b) w w'/\Wk L w' b { n with rs:=rest }:=by
 have yh:Hid (Wk L w b n):=h;have aL:=h.lt;have Km:Hid _:=Dl;obtain⟨vm,vr,vs,vg,vw,h1,h2,h3,h4⟩:=h;have BI:Hid _:=h2.is h4;obtain⟨am,cm,rq,_⟩:=ax h2.ms;obtain⟨ar,cr,xi,_⟩:=ax h2.rs;subst rq xi;have nI:=(aI Dl.ms).1;have Cz:Hid _:=MA nI;have HX:Hid (∀W,Below w.heap.size w W->W.heap[b]?=Z (AI (fB n (U am n.ms.length cm) (U ar n.rs.length cr) vs vg vw) 81 (0,0))):=λW hW=>(hW.block _ aL).trans h1;have ahd:Hid _:=h4.rs;obtain⟨W0,eu,eN,r8,cE⟩:=eC w #[I ⟨#[]⟩,AT false,U Y 0 0,U Y 0 0,U Y 0 0,U Y 0 0] 57;have y2:=af (HX.out W0 eN) 2;have dB:Hid _:=eN;have C8:Hid _:=cE;clear h1 h2 h3 h4 Dl;go_enter Tryz.func56,Tryz.ntmps56;go_upto_region 1 with fail
 rw[<- eu];clear eu;go_wp2_with fail;refine(Ek n.ms _ W0 (BI.out.ms.below dB.out) Km.out.ms).mono ?_;rintro e w1 ⟨v1,rfl,uP,an⟩;obtain⟨a1,c1,Tu,_⟩:=ax uP.out;subst Tu;have aK:Hid _:=an;have ow:Hid _:=dB.out.trans (an.mono (by omega));clear uP an y2 eN cE;have ahe:within ((dY n.ms).length:Int) 0 20=true:=within_iff.2 ⟨by omega,by have:=Cz.out;omega⟩;go_wp2_with fail;refine(FQ _ w1 ahe).mono ?_;rintro e w2 ⟨rfl,qR⟩;have xu:=qR.symm;subst xu;have y3:=af (HX.out w1 ow.out) 3;go_wp2_with fail;have htm:within (tmN n) 1 100=true:=by
  have aL:∀m,m<21->Lib.bitLen m<=5:=by decide
  have h1:=aL (dY n.ms).length (by have:=Cz.out;omega);refine within_iff.2 ⟨?_,?_⟩<;>(unfold tmN;omega)
 refine(Gt n.rs _ (tmN n) w1 (BI.out.rs.below ow.out) Km.out.rs htm).mono ?_;rintro e w3 ⟨a3,k3,c3,a4,k4,c4,told,rest,rfl,HT,nu,ho4,bn⟩;have gI:Hid (Own _ _ _ _):=nu;have qY:Hid (bX _ _ _ _):=ho4;have cT:Hid _:=bn;have ahf:=bn.size;clear nu ho4 bn y3;go_wp2_with fail;refine(Gq w1.heap.size told _ w3 gI.out ahf (by have:=Cd HT.out;omega)).mono ?_;rintro e w4 ⟨rfl,l,hp,hs,ho5,jI,Mw⟩;have mM:Hid (Own _ _ _ _):=ho5;have HTL:Hid (nE n l rest):=⟨told,HT.out,hp,hs⟩;have ia:Hid _:=cT.out.trans jI;have Rr:Hid _:=ow.out.trans (ia.out.mono ow.out.size);have nG:Hid (bX w1.heap.size w4 (U a4 k4 c4) rest):=by
  rcases qY.out.2 with hq|⟨g,c,cur,e1,e2,e3,e4⟩
  .exact⟨qY.out.1,.inl hq⟩
  .refine⟨qY.out.1,.inr ⟨g,c,cur,e1,e2,(Mw.block g (Ib.1 e3).1 (λe=>?_)).trans e3,e4⟩⟩
   exact eV gI.out e3 (by decide) e
 have hL2:L<=w.heap.size:=by omega
 have gi:w.heap.size+1<=w1.heap.size:=by have:=aK.out.size;omega
 have iu:=(ia.out.block _ (by omega)).trans ((aK.out.block _ (by omega)).trans C8.out);have XA:Hid _:=iu;have hx4:=HX.out w4 Rr.out;have x0:=af hx4 0;have x3:=af hx4 3;have xz3:=fJ hx4 3;have hbs:b<w4.heap.size:=by have:=Rr.out.size;omega
 have bE:b≠w.heap.size:=by omega
 have Wp:w.heap.size≠b:=by omega
 have aaS:w.heap.size<w4.heap.size:=by have:=ia.out.size;omega
 obtain⟨q0,q1,q2,q3,q4,q5⟩:=ko iu;obtain⟨GZ,FK,G9,Ha,Hb,Hc⟩:=L4 iu;clear iu hx4 ho5 jI Mw hp hs;go_wp2_with fail;refine Iy (v:=Ip #[I n.name,AT false,U a3 k3 c3,U Y 0 0,U Y 0 0,U Y 0 0]) ?_ rfl ?_
 .simp[results,Tryz.results56,go_sem,q0,q1,q2,q3,q4,q5]
 .have k0:=yh.out.L7 hL2 Rr.out (v:=U a4 k4 c4) (l:=rest) (nG.out.base (by omega)) (Gs HT.out ahd.out).2
  have z0:∃cs,(w4.setCell ⟨b,3,Y⟩ (U a4 k4 c4)).heap[w.heap.size]?=Z (AI cs 57 (0,0)):=⟨_,(IH w4 _ _ w.heap.size Wp).trans XA.out⟩;obtain⟨k1,z1⟩:=k0.pk z0 0 (I n.name);obtain⟨k2,z2⟩:=k1.pk z1 1 (AT false);obtain⟨k3',z3⟩:=k2.pk z2 2 (U a3 k3 c3);obtain⟨k4',z4⟩:=k3'.pk z3 3 (U Y 0 0);obtain⟨k5,z5⟩:=k4'.pk z4 4 (U Y 0 0);obtain⟨k6,z6⟩:=k5.pk z5 5 (U Y 0 0);have gK:=(((((((Ia w.heap.size (w4.setCell ⟨b,3,Y⟩ (U a4 k4 c4))).setCell (p:=⟨w.heap.size,0,Y⟩) (by simp) (I n.name)).setCell (p:=⟨w.heap.size,1,Y⟩) (by simp) (AT false)).setCell (p:=⟨w.heap.size,2,Y⟩) (by simp) (U a3 k3 c3)).setCell (p:=⟨w.heap.size,3,Y⟩) (by simp) (U Y 0 0)).setCell (p:=⟨w.heap.size,4,Y⟩) (by simp) (U Y 0 0)).setCell (p:=⟨w.heap.size,5,Y⟩) (by simp) (U Y 0 0));have s0:Sh (λk=>k=b) w (w4.setCell ⟨b,3,Y⟩ (U a4 k4 c4)):=Sh.setCell (S:=λk=>k=b) (Sh.of Rr.out) (b:=b) (i:=3) rfl _;refine⟨a3,k3,c3,l,rest,rfl,HTL,?_,⟨gK.os.trans s0.os,gK.tape.trans s0.tape,gK.output.trans s0.output,Ir s0.size gK.size,λi hi hn=>(gK.block i hi).trans (s0.block i hi hn)⟩,k6⟩;exact(Ik (Ik (Ik (Ik (Ik (Ik (Ik (mM.out.mono gi) (a:=⟨b,3,Y⟩) (by simp only;omega) _) (a:=⟨w.heap.size,0,Y⟩) (by simp only;omega) _) (a:=⟨w.heap.size,1,Y⟩) (by simp only;omega) _) (a:=⟨w.heap.size,2,Y⟩) (by simp only;omega) _) (a:=⟨w.heap.size,3,Y⟩) (by simp only;omega) _) (a:=⟨w.heap.size,4,Y⟩) (by simp only;omega) _) (a:=⟨w.heap.size,5,Y⟩) (by simp only;omega) _)
theorem Gv(L b tb:Nat)(n:Nd)(w:World)(h:Wk L w b n)(hL:L<=b)(Dl:Sp n)(hc:w.heap[tb]?=Z (AI #[I ⟨#[]⟩,AT false,U Y 0 0,U Y 0 0,U Y 0 0,U Y 0 0] 57 (0,0))) :
 aT 55 #[Ig (Z ⟨b,0,Y⟩),Ig (Z ⟨tb,0,Y⟩)] w λe w'=>e=sh (O J 0)/\Sh (λk=>k=b\/k=tb) w w'/\∃a k c l rest,Hid (nE n l rest)/\w'.heap[tb]?=Z (AI #[I n.name,AT false,U a k c,U Y 0 0,U Y 0 0,U Y 0 0] 57 (0,0))/\Own (w.heap.size+1) w' (U a k c) l/\Wk L w' b { n with rs:=rest }:=by
 have HC:=Gu L b n w h hL Dl;have Pt:=(Ib.1 hc).1;have bE:tb≠b:=by
  intro e;obtain⟨_,_,_,_,_,h1,_⟩:=h;rw[<- e,hc] at h1;injection h1 with h1;injection h1 with _ h1;exact absurd h1 (by decide)
 have HCB:Hid _:=hc;clear h Dl hc;go_enter Tryz.func55,Tryz.ntmps55;go_wp2_with fail;refine HC.mono ?_;rintro e w1 ⟨a,k,c,l,rest,rfl,HT,ho,hs,hk⟩;have cP:=(hs.block _ Pt bE).trans HCB.out;have GW:Hid _:=cP;have HO:Hid (Own _ _ _ _):=ho;have De:Hid _:=hs;have HK:Hid (Wk _ _ _ _):=hk;have VK:=(Ib.1 cP).1;obtain⟨q0,q1,q2,q3,q4,q5⟩:=ko cP;obtain⟨GZ,FK,G9,Ha,Hb,Hc⟩:=L4 cP;clear cP ho hs hk HC;go_wp2_with fail;go_ret;have g0:=HK.out;have z0:∃cs,w1.heap[tb]?=Z (AI cs 57 (0,0)):=⟨_,GW.out⟩;obtain⟨g1,z1⟩:=g0.pk z0 0 (I n.name);obtain⟨g2,z2⟩:=g1.pk z1 1 (AT false);obtain⟨g3,z3⟩:=g2.pk z2 2 (U a k c);obtain⟨g4,z4⟩:=g3.pk z3 3 (U Y 0 0);obtain⟨g5,z5⟩:=g4.pk z4 4 (U Y 0 0);obtain⟨g6,z6⟩:=g5.pk z5 5 (U Y 0 0);exact⟨rfl,(Sh.setCell (S:=λk=>k=b\/k=tb) (Sh.setCell (S:=λk=>k=b\/k=tb) (Sh.setCell (S:=λk=>k=b\/k=tb) (Sh.setCell (S:=λk=>k=b\/k=tb) (Sh.setCell (S:=λk=>k=b\/k=tb) (Sh.setCell (S:=λk=>k=b\/k=tb) (De.out.mono (λk hk=>.inl hk)) (b:=tb) (i:=0) (.inr rfl) (I n.name)) (b:=tb) (i:=1) (.inr rfl) (AT false)) (b:=tb) (i:=2) (.inr rfl) (U a k c)) (b:=tb) (i:=3) (.inr rfl) (U Y 0 0)) (b:=tb) (i:=4) (.inr rfl) (U Y 0 0)) (b:=tb) (i:=5) (.inr rfl) (U Y 0 0)),a,k,c,l,rest,HT,(Is (i:=5) (Is (i:=4) (Is (i:=3) (Is (i:=2) (Is (i:=1) (Is (i:=0) GW.out (I n.name)) (AT false)) (U a k c)) (U Y 0 0)) (U Y 0 0)) (U Y 0 0)),(Ik ((Ik ((Ik ((Ik ((Ik ((Ik (HO.out) (a:=⟨tb,0,Y⟩) (by simp only;omega) (I n.name))) (a:=⟨tb,1,Y⟩) (by simp only;omega) (AT false))) (a:=⟨tb,2,Y⟩) (by simp only;omega) (U a k c))) (a:=⟨tb,3,Y⟩) (by simp only;omega) (U Y 0 0))) (a:=⟨tb,4,Y⟩) (by simp only;omega) (U Y 0 0))) (a:=⟨tb,5,Y⟩) (by simp only;omega) (U Y 0 0)),g6⟩
def lQ(n:Nd)(ne:Int)(w:World)(e:QA)(w':World):Prop:=Below w.heap.size w w' /\
 ((ne≠0/\e=sh (Il #[Ip #[I ⟨#[]⟩,I ⟨#[]⟩,U Y 0 0,U Y 0 0,U Y 0 0,U Y 0 0,O J 0,O J 0,O J 0,O J 0,O J 0,U Y 0 0],Ip #[I ⟨#[]⟩,AT false,U Y 0 0,U Y 0 0,U Y 0 0,U Y 0 0],O J ne])) \/
 (ne=0/\∃n' um ur us ug uw a k c l,e=sh (Il #[Ip (fB n' um ur us ug uw),Ip #[I n.name,AT false,U a k c,U Y 0 0,U Y 0 0,U Y 0 0],O J 0])/\n'={ n with rs:=n'.rs }/\nE n l n'.rs/\gT w.heap.size w' n' um ur us ug uw/\ri n'/\Own w.heap.size w' (U a k c) l))
def Dp(n:Nd)(tb B:Nat)(n':Nd)(W:World):Prop:=∃a k c l,n'={ n with rs:=n'.rs }/\nE n l n'.rs/\W.heap[tb]?=Z (AI #[I n.name,AT false,U a k c,U Y 0 0,U Y 0 0,U Y 0 0] 57 (0,0))/\Own B W (U a k c) l
theorem MB(n:Nd)(vm vr vs vg vw:Value)(w:World)(h:ix w n vm vr vs vg vw) :
 aT 21 #[Ip (fB n vm vr vs vg vw)] w λe w'=>lQ n n.e w e w':=by
 have BI:Hid _:=h;have Hf:Hid (∀W0,Below w.heap.size w W0->W0.heap.size=w.heap.size+4->W0.heap[w.heap.size+3]?=Z (AI #[I ⟨#[]⟩,AT false,U Y 0 0,U Y 0 0,U Y 0 0,U Y 0 0] 57 (0,0))->aT 45 #[Ip (fB n vm vr vs vg vw),.func (.func 55) #[] #[Ig (Z ⟨w.heap.size+3,0,Y⟩)]] W0 λe w'=>jU n.e 0 (λk=>k=w.heap.size+3) (Dp n (w.heap.size+3) (W0.heap.size+2)) W0 e w'):=λW0 hb hs hc=>
  vP 55 #[Ig (Z ⟨w.heap.size+3,0,Y⟩)] (enters_of Tryz.func55 (by kernel_rfl) rfl) n vm vr vs vg vw W0 (h.below hb) (λk=>k=w.heap.size+3) 0 (Dp n (w.heap.size+3) (W0.heap.size+2))
   (λhe W b hW aD hk=>by
    refine(Gv (W0.heap.size+2) b (w.heap.size+3) n W hk (by omega) (Nd.sp he) ((hW.block _ (by omega)).trans hc)).mono ?_;rintro e w' ⟨rfl,nP,a,k,c,l,rest,HT,PI,ho,hwk⟩;have eG:=hk.lt;exact⟨rfl,nP.mono (λk hk=>by omega),λ_=>⟨_,hwk,a,k,c,l,rfl,HT.out,PI,ho.mono (by omega)⟩⟩)
   (λn' W j x hR=>by
    obtain⟨a,k,c,l,h1,h2,h3,h4⟩:=hR;exact⟨a,k,c,l,h1,h2,(IH _ _ _ _ (by simp only;omega)).trans h3,Ik h4 (by simp only;omega) _⟩)
   (λ_ hk=>by omega)
 have Nk:Hid (∀nd:Nd,nd=n->nd.name=n.name):=λ_ h=>by rw[h]
 generalize El:n.e=ne at *;clear El;have HN:Hid (∃n0,n0=n):=⟨_,rfl⟩;obtain⟨N,hN⟩:∃N,N=n:=⟨_,rfl⟩;rw[<- hN] at Hf ⊢;have tW:Hid (N.name=n.name):=by rw[hN];rfl
 obtain⟨nm,ct,ms,rs,sv,gw,⟨px,py,pz,ph,pq⟩,wh⟩:=n;obtain⟨⟨em,cm,rfl,_,_⟩,⟨zp,cr,rfl,_,_⟩,⟨es,zq,rfl,_,_⟩,⟨zr,cg,rfl,_,_⟩,⟨eh,ch,rfl,_,_⟩,_,_⟩:=h;have hA:fB N (U em ms.length cm) (U zp rs.length cr) (U es sv.length zq) (U zr gw.length cg) (U eh wh.length ch)=#[I nm,I ct,U em ms.length cm,U zp rs.length cr,U es sv.length zq,U zr gw.length cg,O J px,O J py,O J pz,O J ph,O J pq,U eh wh.length ch]:=by rw[hN]
 simp only[hA] at Hf ⊢;clear hA hN HN Nk;simp only at tW;generalize ms.length=km at *;generalize rs.length=kr at *;generalize sv.length=ks at *;generalize gw.length=kg at *;generalize wh.length=kh at *;obtain⟨W0,eu,eN,r8,SM,cE,hy0,ht0⟩:=WH w #[I nm,I ct,U em km cm,U zp kr cr,U es ks zq,U zr kg cg,O J px,O J py,O J pz,O J ph,O J pq,U eh kh ch] #[I ⟨#[]⟩,I ⟨#[]⟩,U Y 0 0,U Y 0 0,U Y 0 0,U Y 0 0,O J 0,O J 0,O J 0,O J 0,O J 0,U Y 0 0] #[I ⟨#[]⟩,AT false,U Y 0 0,U Y 0 0,U Y 0 0,U Y 0 0] #[I ⟨#[]⟩,AT false,U Y 0 0,U Y 0 0,U Y 0 0,U Y 0 0] 30 30 57 57;have SZ:=Hf.out W0 eN r8 ht0;have dB:Hid _:=eN;have C8:Hid _:=cE;have HY0:Hid _:=hy0;have HT0:Hid _:=ht0;clear eN cE hy0 ht0 SM Hf;go_enter Tryz.func21,Tryz.ntmps21;go_wp2_with fail;rw[<- eu];refine SZ.mono ?_;rintro e w1 ⟨rV,xq⟩;have gi:w.heap.size+4<=w1.heap.size:=by have:=rV.size;omega
 have aK:Hid _:=dB.out.trans (rV.below (by omega) (λk hk=>by omega));have GW:Hid _:=(rV.block _ (by omega) (by omega)).trans C8.out;have HY1:Hid _:=(rV.block _ (by omega) (by omega)).trans HY0.out;clear rV SZ eu;obtain⟨u0,u1,b2,m2,e2,b3,m3,e3,b4,m4,e4,b5,m5,e5,u6,u7,u8,u9,u10,b11,m11,e11,r,s0,ta,tk,tc,rfl,Nc,Ww⟩:∃u0 u1 b2 m2 e2 b3 m3 e3 b4 m4 e4 b5 m5 e5 u6 u7 u8 u9 u10 b11 m11 e11 r s0 ta tk tc,e=sh (Il #[Ip #[I u0,I u1,U b2 m2 e2,U b3 m3 e3,U b4 m4 e4,U b5 m5 e5,O J u6,O J u7,O J u8,O J u9,O J u10,U b11 m11 e11],O J r])/\Hid (w1.heap[w.heap.size+3]?=Z (AI #[I s0,AT false,U ta tk tc,U Y 0 0,U Y 0 0,U Y 0 0] 57 (0,0)))/\Hid (∀WF:World,Below w.heap.size w WF->(∀{base n k:Nat} {T:I8} {v:Value} {xs:List Value},w.heap.size+1+1<base->w1.ownsRow base T k v n xs->WF.ownsRow base T k v n xs)->lQ N ne w (sh (Il #[Ip #[I u0,I u1,U b2 m2 e2,U b3 m3 e3,U b4 m4 e4,U b5 m5 e5,O J u6,O J u7,O J u8,O J u9,O J u10,U b11 m11 e11],Ip #[I s0,AT false,U ta tk tc,U Y 0 0,U Y 0 0,U Y 0 0],O J r])) WF):=by
  rcases xq with⟨bE,pX,rfl⟩|⟨_,zt,_⟩|⟨bE,_,n',um,ur,us,ug,uw,rfl,hown,mU,ta,tk,tc,l,hn',hT,PI,hol⟩
  .exact⟨_,_,_,_,_,_,_,_,_,_,_,_,_,_,_,_,_,_,_,_,_,_,_,_,_,_,_,rfl,(pX.block _ (by omega)).trans HT0.out,λWF hb _=>⟨hb,.inl ⟨bE,rfl⟩⟩⟩
  .exact absurd rfl zt
  .have hf:∀WF:World,(∀{base n k:Nat} {T:I8} {v:Value} {xs:List Value},w.heap.size+1+1<base->w1.ownsRow base T k v n xs->WF.ownsRow base T k v n xs)->gT w.heap.size WF n' um ur us ug uw/\Own w.heap.size WF (U ta tk tc) l:=λWF how=>⟨⟨Own.mono (how (by omega) hown.ms) (by omega),bX.base (how (by omega) hown.rs) (by omega),Sv.Own.mono (how (by omega) hown.sv) (by omega),Gw.Own.mono (how (by omega) hown.gw) (by omega),Wh.Own.mono (how (by omega) hown.wh) (by omega)⟩,Own.mono (how (by omega) hol) (by omega)⟩
   obtain⟨im2,jm2,rq,_⟩:=ax hown.ms;obtain⟨ir2,jr2,xi,_⟩:=ax hown.rs;obtain⟨is2,js2,BL,_⟩:=ax hown.sv;obtain⟨ig2,jg2,BM,_⟩:=ax hown.gw;obtain⟨ih2,jh2,BN,_⟩:=ax hown.wh;subst rq xi BL BM BN;exact⟨_,_,_,_,_,_,_,_,_,_,_,_,_,_,_,_,_,_,_,_,_,_,_,_,ta,tk,tc,rfl,PI,λWF hb how=>⟨hb,.inr ⟨bE,n',_,_,_,_,_,ta,tk,tc,l,rfl,hn',hT,(hf WF how).1,mU,(hf WF how).2⟩⟩⟩
 clear xq;obtain⟨W5,ud,jI,-,N0⟩:=eC w1 #[I u0,I u1,U b2 m2 e2,U b3 m3 e3,U b4 m4 e4,U b5 m5 e5,O J u6,O J u7,O J u8,O J u9,O J u10,U b11 m11 e11] 30;have fW:=(jI.block _ (by omega)).trans GW.out;have hy5:=(jI.block _ (by omega)).trans HY1.out;have ht5:=(jI.block _ (by omega)).trans Nc.out;have SH:w1.heap.size<W5.heap.size:=by rw[ud];simp
 have ia:Hid _:=aK.out.trans (jI.mono aK.out.size);have HZ5:Hid _:=fW;have HY5:Hid _:=hy5;have abN:Hid _:=jI;obtain⟨p0,p1,p2,p3,p4,p5,p6,p7,p8,p9,p10,p11⟩:=bT N0;obtain⟨q0,q1,q2,q3,q4,q5,q6,q7,q8,q9,q10,q11⟩:=bT fW;obtain⟨GZ,FK,G9,Ha,Hb,Hc,Wl,Wm,Wn,Wo,BJ,BK⟩:=tt fW;obtain⟨r0,r1,r2,r3,r4,r5⟩:=ko hy5;obtain⟨rz0,rz1,rz2,rz3,rz4,rz5⟩:=L4 hy5;obtain⟨t0,t1,t2,t3,t4,t5⟩:=ko ht5;clear jI N0 fW hy5 ht5;have ne1:w.heap.size+1≠w1.heap.size:=by omega
 have ne2:w.heap.size+2≠w1.heap.size:=by omega
 have ne3:w.heap.size+1≠w.heap.size+3:=by omega
 have ne4:w.heap.size+2≠w.heap.size+3:=by omega
 go_upto_region 3 with fail
 rw[<- ud];clear ud;go_region_held3 (λw'=>w'.cell? ⟨w1.heap.size,0,Y⟩=Z (I u0)/\w'.cell? ⟨w1.heap.size,1,Y⟩=Z (I u1)/\w'.cell? ⟨w1.heap.size,2,Y⟩=Z (U b2 m2 e2)/\w'.cell? ⟨w1.heap.size,3,Y⟩=Z (U b3 m3 e3)/\w'.cell? ⟨w1.heap.size,4,Y⟩=Z (U b4 m4 e4)/\w'.cell? ⟨w1.heap.size,5,Y⟩=Z (U b5 m5 e5)/\w'.cell? ⟨w1.heap.size,6,Y⟩=Z (O J u6)/\w'.cell? ⟨w1.heap.size,7,Y⟩=Z (O J u7)/\w'.cell? ⟨w1.heap.size,8,Y⟩=Z (O J u8)/\w'.cell? ⟨w1.heap.size,9,Y⟩=Z (O J u9)/\w'.cell? ⟨w1.heap.size,10,Y⟩=Z (O J u10)/\w'.cell? ⟨w1.heap.size,11,Y⟩=Z (U b11 m11 e11)/\w'.cell? ⟨w.heap.size+3,0,Y⟩=Z (I s0)/\w'.cell? ⟨w.heap.size+3,1,Y⟩=Z (AT false)/\w'.cell? ⟨w.heap.size+3,2,Y⟩=Z (U ta tk tc)/\w'.cell? ⟨w.heap.size+3,3,Y⟩=Z (U Y 0 0)/\w'.cell? ⟨w.heap.size+3,4,Y⟩=Z (U Y 0 0)/\w'.cell? ⟨w.heap.size+3,5,Y⟩=Z (U Y 0 0)) (simp only[World.cell?_setCell_far,World.cell?_drew,ne_eq,ne1,ne2,ne3,ne4,not_false_eq_true,p0,p1,p2,p3,p4,p5,p6,p7,p8,p9,p10,p11,t0,t1,t2,t3,t4,t5,and_self]) (fail)
 all_goals go_wp2_with fail
 all_goals
  clear q0 GZ q1 FK q2 G9 q3 Ha q4 Hb q5 Hc q6 Wl q7 Wm q8 Wn q9 Wo q10 BJ q11 BK r0 rz0 r1 rz1 r2 rz2 r3 rz3 r4 rz4 r5 rz5 p0 p1 p2 p3 p4 p5 p6 p7 p8 p9 p10 p11 t0 t1 t2 t3 t4 t5;first
  |(obtain⟨WF,WL⟩:∃WF,WF=World.drew ((((((((((((((((((W5.setCell ⟨w.heap.size+1,0,Y⟩ (I u0)).setCell ⟨w.heap.size+1,1,Y⟩ (I u1)).setCell ⟨w.heap.size+1,2,Y⟩ (U b2 m2 e2)).setCell ⟨w.heap.size+1,3,Y⟩ (U b3 m3 e3)).setCell ⟨w.heap.size+1,4,Y⟩ (U b4 m4 e4)).setCell ⟨w.heap.size+1,5,Y⟩ (U b5 m5 e5)).setCell ⟨w.heap.size+1,6,Y⟩ (O J u6)).setCell ⟨w.heap.size+1,7,Y⟩ (O J u7)).setCell ⟨w.heap.size+1,8,Y⟩ (O J u8)).setCell ⟨w.heap.size+1,9,Y⟩ (O J u9)).setCell ⟨w.heap.size+1,10,Y⟩ (O J u10)).setCell ⟨w.heap.size+1,11,Y⟩ (U b11 m11 e11)).setCell ⟨w.heap.size+1+1,0,Y⟩ (I s0)).setCell ⟨w.heap.size+1+1,1,Y⟩ (AT false)).setCell ⟨w.heap.size+1+1,2,Y⟩ (U ta tk tc)).setCell ⟨w.heap.size+1+1,3,Y⟩ (U Y 0 0)).setCell ⟨w.heap.size+1+1,4,Y⟩ (U Y 0 0)).setCell ⟨w.heap.size+1+1,5,Y⟩ (U Y 0 0)):=⟨_,rfl⟩
    rw[<- WL];have MC:WF=World.drew (cV (w.heap.size+1+1) [I s0,AT false,U ta tk tc,U Y 0 0,U Y 0 0,U Y 0 0] 0 (cV (w.heap.size+1) [I u0,I u1,U b2 m2 e2,U b3 m3 e3,U b4 m4 e4,U b5 m5 e5,O J u6,O J u7,O J u8,O J u9,O J u10,U b11 m11 e11] 0 W5)):=by rw[WL];simp only[cV,I3,Nat.reduceAdd]
    clear WL;have hz:WF.heap[w.heap.size+1]?=Z (AI #[I u0,I u1,U b2 m2 e2,U b3 m3 e3,U b4 m4 e4,U b5 m5 e5,O J u6,O J u7,O J u8,O J u9,O J u10,U b11 m11 e11] 30 (0,0)):=by rw[MC];rw[my,fU (by omega)];exact(oF HZ5.out _ _ _ _ _ _ _ _ _ _ _ _)
    have hy:WF.heap[w.heap.size+1+1]?=Z (AI #[I s0,AT false,U ta tk tc,U Y 0 0,U Y 0 0,U Y 0 0] 57 (0,0)):=by rw[MC];rw[my];exact Dk ((fU (by omega) _ _ _).trans HY5.out) _ _ _ _ _ _
    have iW:Hid (Below w.heap.size w WF):=by rw[MC];exact tQ (cO (by omega) _ _ (cO (by omega) _ _ ia.out))
    have Mk:Hid (∀{base n k:Nat} {T:I8} {v:Value} {xs:List Value},w.heap.size+1+1<base->w1.ownsRow base T k v n xs->WF.ownsRow base T k v n xs):=λhbs h=>by rw[MC];exact vW (bV (by omega) _ _ (bV (by omega) _ _ (tP h abN.out)))
    clear MC)
  |(obtain⟨WF,WL⟩:∃WF,WF=World.drew ((((((((((((((((((W5.setCell ⟨w.heap.size+1+1,0,Y⟩ (I s0)).setCell ⟨w.heap.size+1+1,1,Y⟩ (AT false)).setCell ⟨w.heap.size+1+1,2,Y⟩ (U ta tk tc)).setCell ⟨w.heap.size+1+1,3,Y⟩ (U Y 0 0)).setCell ⟨w.heap.size+1+1,4,Y⟩ (U Y 0 0)).setCell ⟨w.heap.size+1+1,5,Y⟩ (U Y 0 0)).setCell ⟨w.heap.size+1,0,Y⟩ (I u0)).setCell ⟨w.heap.size+1,1,Y⟩ (I u1)).setCell ⟨w.heap.size+1,2,Y⟩ (U b2 m2 e2)).setCell ⟨w.heap.size+1,3,Y⟩ (U b3 m3 e3)).setCell ⟨w.heap.size+1,4,Y⟩ (U b4 m4 e4)).setCell ⟨w.heap.size+1,5,Y⟩ (U b5 m5 e5)).setCell ⟨w.heap.size+1,6,Y⟩ (O J u6)).setCell ⟨w.heap.size+1,7,Y⟩ (O J u7)).setCell ⟨w.heap.size+1,8,Y⟩ (O J u8)).setCell ⟨w.heap.size+1,9,Y⟩ (O J u9)).setCell ⟨w.heap.size+1,10,Y⟩ (O J u10)).setCell ⟨w.heap.size+1,11,Y⟩ (U b11 m11 e11)):=⟨_,rfl⟩
    rw[<- WL];have MC:WF=World.drew (cV (w.heap.size+1) [I u0,I u1,U b2 m2 e2,U b3 m3 e3,U b4 m4 e4,U b5 m5 e5,O J u6,O J u7,O J u8,O J u9,O J u10,U b11 m11 e11] 0 (cV (w.heap.size+1+1) [I s0,AT false,U ta tk tc,U Y 0 0,U Y 0 0,U Y 0 0] 0 W5)):=by rw[WL];simp only[cV,I3,Nat.reduceAdd]
    clear WL;have hz:WF.heap[w.heap.size+1]?=Z (AI #[I u0,I u1,U b2 m2 e2,U b3 m3 e3,U b4 m4 e4,U b5 m5 e5,O J u6,O J u7,O J u8,O J u9,O J u10,U b11 m11 e11] 30 (0,0)):=by rw[MC];rw[my];exact oF ((fU (by omega) _ _ _).trans HZ5.out) _ _ _ _ _ _ _ _ _ _ _ _
    have hy:WF.heap[w.heap.size+1+1]?=Z (AI #[I s0,AT false,U ta tk tc,U Y 0 0,U Y 0 0,U Y 0 0] 57 (0,0)):=by rw[MC];rw[my,fU (by omega)];exact(Dk HY5.out _ _ _ _ _ _)
    have iW:Hid (Below w.heap.size w WF):=by rw[MC];exact tQ (cO (by omega) _ _ (cO (by omega) _ _ ia.out))
    have Mk:Hid (∀{base n k:Nat} {T:I8} {v:Value} {xs:List Value},w.heap.size+1+1<base->w1.ownsRow base T k v n xs->WF.ownsRow base T k v n xs):=λhbs h=>by rw[MC];exact vW (bV (by omega) _ _ (bV (by omega) _ _ (tP h abN.out)))
    clear MC)
  obtain⟨q0,q1,q2,q3,q4,q5,q6,q7,q8,q9,q10,q11⟩:=bT hz;obtain⟨r0,r1,r2,r3,r4,r5⟩:=ko hy;exact Iy (v:=Il #[Ip #[I u0,I u1,U b2 m2 e2,U b3 m3 e3,U b4 m4 e4,U b5 m5 e5,O J u6,O J u7,O J u8,O J u9,O J u10,U b11 m11 e11],Ip #[I s0,AT false,U ta tk tc,U Y 0 0,U Y 0 0,U Y 0 0],O J r]) (by simp[results,Tryz.results21,go_sem,q0,q1,q2,q3,q4,q5,q6,q7,q8,q9,q10,q11,r0,r1,r2,r3,r4,r5]) rfl (Ww.out _ iW.out Mk.out)
def Rs:Nd:=Ta ⟨#[97]⟩ ⟨#[99]⟩ 1 false
def WM:Nd:=Ta ⟨#[98]⟩ ⟨#[99]⟩ 2 true
def bgP:Pk:=⟨⟨#[98]⟩,true,WM.ms,WM.sv,WM.gw,WM.wh⟩
def bg3:Nd:=He Rs bgP
def Tb:Nd:=Rm bg3 ⟨#[98]⟩ 2
def WN:Mem:=⟨⟨#[98]⟩,2,1,2,true⟩
theorem abP:nwE ⟨#[97]⟩ ⟨#[99]⟩ 1=0:=by kernel_rfl
theorem abQ:nwE ⟨#[98]⟩ ⟨#[99]⟩ 2=0:=by kernel_rfl
theorem abR:Rs.e=0:=by kernel_rfl
theorem abS:WM.e=0:=by kernel_rfl
theorem abT:B5 Rs bgP=0:=by kernel_rfl
theorem abU:bg3.e=0:=by kernel_rfl
theorem abV:Gf bg3 ⟨#[98]⟩ 1 2=0:=by kernel_rfl
theorem abW:Tb.e=0:=by kernel_rfl
theorem abX:Tb.ms.length=2:=by kernel_rfl
theorem abY:Tb.rs=[⟨WN,0⟩]:=by kernel_rfl
theorem Rt{l:List Mem}{rest:List bu}(h:nE Tb l rest):l=[WN]:=by
 obtain⟨told,ht,hp,_⟩:=h;rw[abY] at ht;rcases ht with⟨h,_⟩|⟨_,ord,ho,rfl,_⟩
 .cases h
 .have h1:ord=[0]:=by
   have:=ho.perm;rw[show List.range [(⟨WN,0⟩:bu)].length=[0] from rfl] at this;exact List.perm_singleton.1 this
  subst h1;have h2:gh [(⟨WN,0⟩:bu)] [0] (min 5 [(⟨WN,0⟩:bu)].length)=[WN]:=by kernel_rfl
  rw[h2] at hp;exact List.perm_singleton.1 hp
def oG(B:Nat)(w:World)(n:Nd)(A:Array Value):Prop:=∃vm vr vs vg vw,A=fB n vm vr vs vg vw/\gT B w n vm vr vs vg vw/\ri n
theorem oG.is{B:Nat}{w:World}{n:Nd}{A:Array Value}(h:oG B w n A):iy w n A:=by
 obtain⟨a,b,c,d,e,h1,h2,h3⟩:=h;exact⟨a,b,c,d,e,h1,h2.is h3⟩
theorem fV.ok{ne er:Int}{n':Nd}{w w':World}{e:QA}(h:fV ne er n' w e w')(h1:ne=0)(h2:er=0):∃A,e=sh (Il #[Ip A,O J 0])/\oG w.heap.size w' n' A/\Below w.heap.size w w':=by
 obtain⟨hb,⟨h3,_⟩|⟨_,h3,_⟩|⟨_,_,um,ur,us,ug,uw,rfl,ho,hk⟩⟩:=h
 .exact absurd h1 h3
 .exact absurd h2 h3
 .exact⟨_,rfl,⟨_,_,_,_,_,rfl,ho,hk⟩,hb⟩
def pkV(t0:ByteArray)(b1:Bool)(p2:Option Addr)(k2 c2:Nat)(p3:Option Addr)(k3 c3:Nat)(p4:Option Addr)(k4 c4:Nat)(p5:Option Addr)(k5 c5:Nat):Array Value:=
 #[I t0,AT b1,U p2 k2 c2,U p3 k3 c3,U p4 k4 c4,U p5 k5 c5]
def oH(w:World)(p:Pk)(A:Array Value):Prop:=∃vm vs vg vw,A=#[I p.fw,AT p.whole,vm,vs,vg,vw]/\sY w p vm vs vg vw
theorem oH.below{w w':World}{p:Pk}{A:Array Value}(h:oH w p A)(hb:Below w.heap.size w w'):oH w' p A:=by
 obtain⟨a,b,c,d,h1,h2⟩:=h;exact⟨a,b,c,d,h1,h2.below hb⟩
theorem oH.is{w:World}{p:Pk}{A:Array Value}(h:oH w p A):WI w p A:=by
 obtain⟨a,b,c,d,h1,h2⟩:=h;exact⟨a,b,c,d,h1,h2.ms,h2.sv,h2.gw,h2.wh⟩
theorem WI.letters{w:World}{p:Pk}{A:Array Value}(h:WI w p A):∃t0 b1 p2 k2 c2 p3 k3 c3 p4 k4 c4 p5 k5 c5,A=pkV t0 b1 p2 k2 c2 p3 k3 c3 p4 k4 c4 p5 k5 c5:=by
 obtain⟨vm,vs,vg,vw,rfl,⟨pm,cm,rfl,_⟩,⟨ps,cs,rfl,_⟩,⟨pg,cg,rfl,_⟩,⟨pw,cw,rfl,_⟩⟩:=h;exact⟨_,_,_,_,_,_,_,_,_,_,_,_,_,_,rfl⟩
theorem Gx{base n k:Nat}{T:I8}{w:World}{v:Value}{xs:List Value}(h:w.ownsRow base T k v n xs):Roomy v:=by
 obtain⟨a,c,rfl,hn⟩:=ax h;exact hn
def Nd.pk(n:Nd):Pk:=⟨n.name,true,n.ms,n.sv,n.gw,n.wh⟩
theorem iC.ok{n:Nd}{ne:Int}{w w':World}{e:QA}(h:iC n ne w e w')(h1:ne=0)(hk:ri n):∃A,e=sh (Il #[Ip A,O J 0])/\oH w' n.pk A/\Below w.heap.size w w':=by
 obtain⟨hb,⟨h3,_⟩|⟨_,um,us,ug,uw,rfl,o1,o2,o3,o4⟩⟩:=h
 .exact absurd h1 h3
 .exact⟨_,rfl,⟨_,_,_,_,rfl,o1.sl (bN hk.ms),o2.sl (Sv.bN hk.sv),o3.sl (Gw.bN hk.gw),o4.sl (Wh.bN hk.wh),hk.name,Gx o1⟩,hb⟩
theorem iy.ok{w:World}{n:Nd}{A:Array Value}(h:iy w n A):ri n:=by
 obtain⟨_,_,_,_,_,_,h⟩:=h;exact h.ok
theorem MD{w:World}{n:Nd}{A:Array Value}(h:iy w n A):aT 17 #[Ip A] w λe w'=>iC n n.e w e w':=by
 obtain⟨_,_,_,_,_,rfl,h⟩:=h;exact Gj n _ _ _ _ _ w h
theorem ME{w:World}{n:Nd}{A:Array Value}(h:iy w n A)(t:ByteArray)(ht:t.size<=Ii):aT 20 #[Ip A,I t] w λe w'=>fV n.e (Gf n t 1 2) (Rm n t 2) w e w':=by
 obtain⟨_,_,_,_,_,rfl,h⟩:=h;exact Gg n t _ _ _ _ _ w h ht
theorem Ru{w:World}{n:Nd}{A:Array Value}(h:iy w n A):aT 21 #[Ip A] w λe w'=>lQ n n.e w e w':=by
 obtain⟨_,_,_,_,_,rfl,h⟩:=h;exact MB n _ _ _ _ _ w h
theorem lQ.ok{n:Nd}{ne:Int}{w w':World}{e:QA}(h:lQ n ne w e w')(h1:ne=0):∃A a k c l rest,e=sh (Il #[Ip A,Ip #[I n.name,AT false,U a k c,U Y 0 0,U Y 0 0,U Y 0 0],O J 0])/\nE n l rest/\oG w.heap.size w' { n with rs:=rest } A/\Own w.heap.size w' (U a k c) l/\Below w.heap.size w w':=by
 obtain⟨hb,⟨h3,_⟩|⟨_,n',um,ur,us,ug,uw,a,k,c,l,rfl,hn,ht,ho,hk,hl⟩⟩:=h
 .exact absurd h1 h3
 .refine⟨_,a,k,c,l,n'.rs,rfl,ht,?_,hl,hb⟩
  rw[<- hn];exact⟨_,_,_,_,_,rfl,ho,hk⟩
end Go.Proofs.YtfidjlcdlakceaaGreatDoor
