import Derived.Test.YtfidjlcdlakceaaGreatDoortf38
import Derived.Shelf.SlSortCmp.SmallK
import Derived.Test.YtfidjlcdlakceaaGreatDoortf39
set_option maxHeartbeats 25600000
set_option maxRecDepth 100000
open Go renaming maxLen→Ij,heap_alloc_new→Ie,bodyPost_ret→Ix,TypeId→Jc,wp_loop_rounds→JT,rounds_succ→JC,wpList_append_own→I5,ownsRow_setCell_other→Iz
open Go.Value renaming string→I,int→O,bool→AI,slice→U,tuple→Il,agg→Im,pointer→If
open Go.IntKind renaming i64→J
open Go.Obj renaming cells→AT
open Option renaming none→Y,some→Z
open Go.RowKit.Below renaming heap_alloc→It,refl→Ib,heap_setCell→IB
open Nat renaming le_refl→By,zero_add→IM,zero_le→II,le_trans→Ir,reduceAdd→OV
open Go.Ending renaming returned→sh
open Array renaming getElem?_eq_some_iff→Ia,getElem?_modify→Oe
open Go.RowKit renaming ownsRow_setCell_below→Ik
open Go.Proofs.Tryz renaming prog→be,underlying111→Jt
open List renaming getElem?_take_of_lt→IF,getD→Io,getElem?_eq_getElem→Ic,getElem?_eq_none→IP,length_take→Iu,eq_nil_of_length_eq_zero→IX,map_append→QX,take_succ_eq_append_getElem→Iw,filter_append→JP,length_map→Oy,length_filter_le→Ow,getElem_mem→IV
open Go.Proofs renaming sortWorldK→QY
open Go.Sort renaming ahead→QZ,heap_grow_old→Q4
open Go.Joins renaming block_setCell→Is
namespace Go.Proofs.YtfidjlcdlakceaaGreatDoor
open Go.RowKit
def nwE(nm ct:ByteArray)(ad:Int):Int:=if(aN nm&&aN ct)=true then(if within ad 0 4294967295=true then 0 else 3) else 1
def VH(nm ct:ByteArray)(ad:Int)(sv:Bool):Nd:=⟨nm,ct,[⟨nm,1,1,ad,sv⟩],[],[],[],⟨0,0,0,0,1000⟩,[]⟩
theorem te(nm ct:ByteArray)(ad:Int)(sv:Bool)(w:World)(hn:nm.size<=Ij)(hc:ct.size<=Ij) :
 aP 15 #[I nm,I ct,O J ad,AI sv] w λe w'=>eT (nwE nm ct ad) 0 (VH nm ct ad sv) w e w':=by
 have HE:Hid (nwE nm ct ad=if(aN nm&&aN ct)=true then(if within ad 0 4294967295=true then 0 else 3) else 1):=rfl;obtain⟨W1,e9⟩:∃W1,W1=(w.alloc (AT #[I ⟨#[]⟩,I ⟨#[]⟩,U Y 0 0,U Y 0 0,U Y 0 0,U Y 0 0,O J 0,O J 0,O J 0,O J 0,O J 0,U Y 0 0] 30)).alloc (AT #[I nm,I ct] 9):=⟨_,rfl⟩;have bb:W1.heap[w.heap.size+1]?=Z (AT #[I nm,I ct] 9 (0,0)):=by
  have h:=Ie (w.alloc (AT #[I ⟨#[]⟩,I ⟨#[]⟩,U Y 0 0,U Y 0 0,U Y 0 0,U Y 0 0,O J 0,O J 0,O J 0,O J 0,O J 0,U Y 0 0] 30)) (AT #[I nm,I ct] 9);rw[e9];simpa using h
 have cS:W1.heap[w.heap.size]?=Z (AT #[I ⟨#[]⟩,I ⟨#[]⟩,U Y 0 0,U Y 0 0,U Y 0 0,U Y 0 0,O J 0,O J 0,O J 0,O J 0,O J 0,U Y 0 0] 30 (0,0)):=by
  rw[e9,It _ _ _ (by simp)];exact Ie w _
 have gI:W1.heap.size=w.heap.size+2:=by rw[e9];simp
 have aR:Hid (Below w.heap.size w W1):=by rw[e9];exact((Ib _ _).alloc (By _) _).alloc (by simp) _
 have HL:Hid (aP _ _ _ _):=Bk nm ct hn hc _ 2 W1 (af bb 0) (af bb 1);obtain⟨q0,q1,q2,q3,q4,q5,q6,q7,q8,q9,q10,q11⟩:=bM cS;obtain⟨FB,Eb,FC,FD,FE,FF,VB,VC,VD,VE,zt,zu⟩:=mK cS;have Mi:Hid _:=cS;have CB:Hid _:=gI;have aaI:w.heap.size<W1.heap.size:=by omega
 clear bb cS gI;generalize nwE nm ct ad=ne at *;generalize(aN nm&&aN ct)=lb at *;go_enter Tryz.func15,Tryz.ntmps15;go_wp2_with fail;rw[<- e9];refine HL.out.mono ?_;rintro e w1 ⟨rfl,hww⟩;have xb:=hww.symm;subst xb;clear e9 HL hww;cases lb
 .have HR:Hid (ne=1):=HE.out.trans (by simp)
  go_wp2_with fail;refine Ix (v:=Il #[Im #[I ⟨#[]⟩,I ⟨#[]⟩,U Y 0 0,U Y 0 0,U Y 0 0,U Y 0 0,O J 0,O J 0,O J 0,O J 0,O J 0,U Y 0 0],O J 1]) ?_ rfl ?_
  .simp[results,Tryz.results15,go_sem,q0,q1,q2,q3,q4,q5,q6,q7,q8,q9,q10,q11]
  .unfold eT
   exact⟨((((((((((((aR.out).setCell (p:=⟨w.heap.size,0,Y⟩) (by simp) _).setCell (p:=⟨w.heap.size,1,Y⟩) (by simp) _).setCell (p:=⟨w.heap.size,2,Y⟩) (by simp) _).setCell (p:=⟨w.heap.size,3,Y⟩) (by simp) _).setCell (p:=⟨w.heap.size,4,Y⟩) (by simp) _).setCell (p:=⟨w.heap.size,5,Y⟩) (by simp) _).setCell (p:=⟨w.heap.size,6,Y⟩) (by simp) _).setCell (p:=⟨w.heap.size,7,Y⟩) (by simp) _).setCell (p:=⟨w.heap.size,8,Y⟩) (by simp) _).setCell (p:=⟨w.heap.size,9,Y⟩) (by simp) _).setCell (p:=⟨w.heap.size,10,Y⟩) (by simp) _).setCell (p:=⟨w.heap.size,11,Y⟩) (by simp) _,.inl ⟨by rw[HR.out];simp,by rw[HR.out]⟩⟩
 rcases ha:within ad 0 4294967295 with _|_
 .have HR:Hid (ne=3):=HE.out.trans (by simp[ha])
  go_wp2_with (go_at_call 44;refine(ea _ _).mono ?_;rintro e w' ⟨rfl,hx⟩;have hy:=hx.symm;subst hy;rw[ha]);refine Ix (v:=Il #[Im #[I ⟨#[]⟩,I ⟨#[]⟩,U Y 0 0,U Y 0 0,U Y 0 0,U Y 0 0,O J 0,O J 0,O J 0,O J 0,O J 0,U Y 0 0],O J 3]) ?_ rfl ?_
  .simp[results,Tryz.results15,go_sem,q0,q1,q2,q3,q4,q5,q6,q7,q8,q9,q10,q11]
  .unfold eT
   exact⟨((((((((((((aR.out).setCell (p:=⟨w.heap.size,0,Y⟩) (by simp) _).setCell (p:=⟨w.heap.size,1,Y⟩) (by simp) _).setCell (p:=⟨w.heap.size,2,Y⟩) (by simp) _).setCell (p:=⟨w.heap.size,3,Y⟩) (by simp) _).setCell (p:=⟨w.heap.size,4,Y⟩) (by simp) _).setCell (p:=⟨w.heap.size,5,Y⟩) (by simp) _).setCell (p:=⟨w.heap.size,6,Y⟩) (by simp) _).setCell (p:=⟨w.heap.size,7,Y⟩) (by simp) _).setCell (p:=⟨w.heap.size,8,Y⟩) (by simp) _).setCell (p:=⟨w.heap.size,9,Y⟩) (by simp) _).setCell (p:=⟨w.heap.size,10,Y⟩) (by simp) _).setCell (p:=⟨w.heap.size,11,Y⟩) (by simp) _,.inl ⟨by rw[HR.out];simp,by rw[HR.out]⟩⟩
 have HR:Hid (ne=0):=HE.out.trans (by simp[ha]);have HEV:Hid (∀V:World,V.heap.size=W1.heap.size->((V.alloc (AT #[I nm,O J 1,O J 1,O J ad,AI sv] 70)).alloc (AT #[I nm,O J 1,O J 1,O J ad,AI sv] 70)).heap[W1.heap.size+1]?=Z (AT #[I nm,O J 1,O J 1,O J ad,AI sv] 70 (0,0))):=λV hV=>by
  have h:=Ie (V.alloc (AT #[I nm,O J 1,O J 1,O J ad,AI sv] 70)) (AT #[I nm,O J 1,O J 1,O J ad,AI sv] 70);rw[show(V.alloc (AT #[I nm,O J 1,O J 1,O J ad,AI sv] 70)).heap.size=W1.heap.size+1 by simp[hV]] at h;exact h
 go_wp2_with (go_at_call 44;refine(ea _ _).mono ?_;rintro e w' ⟨rfl,hx⟩;have hy:=hx.symm;subst hy;rw[ha]);refine Ix (v:=Il #[Im #[I nm,I ct,U (Z ⟨W1.heap.size+1,0,Y⟩) 1 1,U Y 0 0,U Y 0 0,U Y 0 0,O J 0,O J 0,O J 0,O J 0,O J 1000,U Y 0 0],O J 0]) ?_ rfl ?_
 .simp[results,Tryz.results15,go_sem,aaI,q0,q1,q2,q3,q4,q5,q6,q7,q8,q9,q10,q11]
 .unfold eT
  refine⟨((((((((((((((aR.out).setCell (p:=⟨w.heap.size,0,Y⟩) (by simp) _).setCell (p:=⟨w.heap.size,1,Y⟩) (by simp) _).setCell (p:=⟨w.heap.size,2,Y⟩) (by simp) _).setCell (p:=⟨w.heap.size,3,Y⟩) (by simp) _).setCell (p:=⟨w.heap.size,4,Y⟩) (by simp) _).setCell (p:=⟨w.heap.size,5,Y⟩) (by simp) _).setCell (p:=⟨w.heap.size,6,Y⟩) (by simp) _).setCell (p:=⟨w.heap.size,7,Y⟩) (by simp) _).setCell (p:=⟨w.heap.size,8,Y⟩) (by simp) _).setCell (p:=⟨w.heap.size,9,Y⟩) (by simp) _).setCell (p:=⟨w.heap.size,10,Y⟩) (by simp) _).setCell (p:=⟨w.heap.size,11,Y⟩) (by simp) _).alloc (by simp[World.setCell];omega) _).alloc (by simp[World.setCell];omega) _,.inr (.inr ⟨HR.out,rfl,_,_,_,_,_,rfl,⟨?_,Am _ _,Sv.bj _ _,Gw.bj _ _,Wh.bj _ _⟩,?_⟩)⟩
  .exact fV (ms:=[⟨nm,1,1,ad,sv⟩]) (G:=1) (cur:=#[I nm,O J 1,O J 1,O J ad,AI sv]) (by omega) (HEV.out _ (by simp[World.setCell])) rfl (by simp) (by unfold Ij;omega) rfl
  .exact⟨λm hm=>by simp[VH] at hm;subst hm;exact hn,λr hr=>by simp[VH] at hr,λr hr=>by simp[VH] at hr,λr hr=>by simp[VH] at hr,λr hr=>by simp[VH] at hr,hn,hc⟩
def iW(n:Nd)(ne:Int)(w:World)(e:Ending)(w':World):Prop:=Below w.heap.size w w' /\
 ((ne≠0/\e=sh (Il #[Im #[I ⟨#[]⟩,AI false,U Y 0 0,U Y 0 0,U Y 0 0,U Y 0 0],O J ne])) \/
 (ne=0/\∃um us ug uw,e=sh (Il #[Im #[I n.name,AI true,um,us,ug,uw],O J 0])/\Own w.heap.size w' um n.ms/\Sv.Own w.heap.size w' us n.sv/\Gw.Own w.heap.size w' ug n.gw/\Wh.Own w.heap.size w' uw n.wh))
theorem KL(n:Nd)(vm vr vs vg vw:Value)(w:World)(h:jL w n vm vr vs vg vw) :
 aP 17 #[Im (fD n vm vr vs vg vw)] w λe w'=>iW n n.e w e w':=by
 have rL:Hid (∀W,Below w.heap.size w W->aP _ _ _ _):=λW hW=>oD n vm vr vs vg vw W (h.below hW);have Dg:Hid (n.e=0->∀W,Below w.heap.size w W->aP 48 #[Im (fD n vm vr vs vg vw)] W λe w'=>∃um ur us ug uw,e=sh (Im (fD n um ur us ug uw))/\gK W.heap.size w' n um ur us ug uw/\Below W.heap.size W w'):=λhe W hW=>by
  have hp:=Nd.parts (Nd.gx he).1;have l1:=(aF hp.ms).1;have l2:=(ll hp.rs).1;have l3:=(Sv.aF hp.sv).1;have l4:=(Gw.aF hp.gw).1;have l5:=(Wh.aF hp.wh).1;exact xI n vm vr vs vg vw W (h.below hW) (by omega) (by omega) (by omega) (by omega) (by omega)
 obtain⟨nm,ct,ms,rs,sv,gw,⟨px,py,pz,ph,pq⟩,wh⟩:=n;obtain⟨⟨em,cm,rfl,_,_⟩,⟨wR,cr,rfl,_,_⟩,⟨es,wS,rfl,_,_⟩,⟨wT,cg,rfl,_,_⟩,⟨eh,ch,rfl,_,_⟩,_,_⟩:=h;simp only[fD] at rL Dg ⊢;generalize vu:ms.length=km at *;have Hkm:Hid _:=vu;generalize Vp:rs.length=kr at *;have Hkr:Hid _:=Vp;generalize hks:sv.length=ks at *;have Hks:Hid _:=hks;generalize hkg:gw.length=kg at *;have Hkg:Hid _:=hkg;generalize hkh:wh.length=kh at *;have Hkh:Hid _:=hkh;clear vu Vp hks hkg hkh;generalize Nd.e ⟨nm,ct,ms,rs,sv,gw,⟨px,py,pz,ph,pq⟩,wh⟩=ne at *;obtain⟨W0,dK⟩:∃W0,W0=(w.alloc (AT #[I nm,I ct,U em km cm,U wR kr cr,U es ks wS,U wT kg cg,O J px,O J py,O J pz,O J ph,O J pq,U eh kh ch] 30)).alloc (AT #[I ⟨#[]⟩,AI false,U Y 0 0,U Y 0 0,U Y 0 0,U Y 0 0] 57):=⟨_,rfl⟩;have df:Below w.heap.size w W0:=by rw[dK];exact((Ib _ _).alloc (By _) _).alloc (by simp) _
 have dt:W0.heap[w.heap.size]?=Z (AT #[I nm,I ct,U em km cm,U wR kr cr,U es ks wS,U wT kg cg,O J px,O J py,O J pz,O J ph,O J pq,U eh kh ch] 30 (0,0)):=by
  rw[dK,It _ _ _ (by simp)];exact Ie w _
 have bW:W0.heap[w.heap.size+1]?=Z (AT #[I ⟨#[]⟩,AI false,U Y 0 0,U Y 0 0,U Y 0 0,U Y 0 0] 57 (0,0)):=by
  have h:=Ie (w.alloc (AT #[I nm,I ct,U em km cm,U wR kr cr,U es ks wS,U wT kg cg,O J px,O J py,O J pz,O J ph,O J pq,U eh kh ch] 30)) (AT #[I ⟨#[]⟩,AI false,U Y 0 0,U Y 0 0,U Y 0 0,U Y 0 0] 57);rw[dK];simpa using h
 have nP:W0.heap.size=w.heap.size+2:=by rw[dK];simp
 have dy:Hid _:=df;have wB:Hid _:=dt;have xJ:Hid _:=bW;clear df dt bW;go_enter Tryz.func17,Tryz.ntmps17;go_wp2_with fail;rw[<- dK];clear dK;refine(rL.out W0 dy.out).mono ?_;rintro e w1 ⟨rfl,al⟩;have bb:=(al.block _ (by omega)).trans wB.out;have cS:=(al.block _ (by omega)).trans xJ.out;have aR:Hid _:=dy.out.trans (al.mono (by omega));have gI:=(Ia.1 cS).1;obtain⟨q0,q1,q2,q3,q4,q5⟩:=gV cS;obtain⟨FB,Eb,FC,FD,FE,FF⟩:=PM cS;obtain⟨p0,p1,p2,p3,p4,p5,p6,p7,p8,p9,p10,p11⟩:=bM bb;have Mi:Hid _:=cS;have jo:Hid _:=bb;clear al bb cS;by_cases bu:ne=0;rotate_left
 .have abo:(ne !=0)=true:=by simpa using bu
  have HNZ:Hid _:=bu;clear bu;go_wp2_with fail;refine Ix (v:=Il #[Im #[I ⟨#[]⟩,AI false,U Y 0 0,U Y 0 0,U Y 0 0,U Y 0 0],O J ne]) ?_ rfl ?_
  .simp[results,Tryz.results17,go_sem,q0,q1,q2,q3,q4,q5]
  .unfold iW
   exact⟨((((((aR.out).setCell (p:=⟨w.heap.size+1,0,Y⟩) (by simp) _).setCell (p:=⟨w.heap.size+1,1,Y⟩) (by simp) _).setCell (p:=⟨w.heap.size+1,2,Y⟩) (by simp) _).setCell (p:=⟨w.heap.size+1,3,Y⟩) (by simp) _).setCell (p:=⟨w.heap.size+1,4,Y⟩) (by simp) _).setCell (p:=⟨w.heap.size+1,5,Y⟩) (by simp) _,.inl ⟨HNZ.out,rfl⟩⟩
 subst bu;have Kv:=Dg.out rfl w1 aR.out;clear Dg rL;go_wp2_with fail;refine Kv.mono ?_;rintro e w2 ⟨um,ur,us,ug,uw,rfl,ly,aC⟩;obtain⟨im,jm,sG,_⟩:=az ly.ms;obtain⟨ir,jr,zh,_⟩:=az ly.rs;obtain⟨is_,js,BE,_⟩:=az ly.sv;obtain⟨ig,jg,Ec,_⟩:=az ly.gw;obtain⟨ih,jh,Ed,_⟩:=az ly.wh;simp only at sG zh BE Ec Ed;rw[Hkm.out] at sG;rw[Hkr.out] at zh;rw[Hks.out] at BE;rw[Hkg.out] at Ec;rw[Hkh.out] at Ed;subst sG zh BE Ec Ed;have iZ:=aC.size;have iL:=(aC.block _ (by omega)).trans jo.out;have iS:Hid _:=(aC.block _ (by omega)).trans Mi.out;have bw:Hid _:=aR.out.trans (aC.mono (by omega));clear p0 p1 p2 p3 p4 p5 p6 p7 p8 p9 p10 p11 q0 FB q1 Eb q2 FC q3 FD q4 FE q5 FF;obtain⟨p0,p1,p2,p3,p4,p5,p6,p7,p8,p9,p10,p11⟩:=bM iL;obtain⟨pz0,pz1,pz2,pz3,pz4,pz5,pz6,pz7,pz8,pz9,aos,aot⟩:=mK iL;have sf:w.heap.size<w2.heap.size:=by omega
 have iX:=iS.out;obtain⟨q0,q1,q2,q3,q4,q5⟩:=gV iX;obtain⟨FB,Eb,FC,FD,FE,FF⟩:=PM iX;have zZ:w.heap.size+1<w2.heap.size:=by omega
 have HOm:Hid (Own (w.heap.size+2) w2 (U im km jm) ms):=ly.ms.mono (by omega);have HOs:Hid (Sv.Own (w.heap.size+2) w2 (U is_ ks js) sv):=ly.sv.mono (by omega);have HOg:Hid (Gw.Own (w.heap.size+2) w2 (U ig kg jg) gw):=ly.gw.mono (by omega);have HOh:Hid (Wh.Own (w.heap.size+2) w2 (U ih kh jh) wh):=ly.wh.mono (by omega);clear ly aC iL iX Kv;go_wp2_with fail;refine Ix (v:=Il #[Im #[I nm,AI true,U im km jm,U is_ ks js,U ig kg jg,U ih kh jh],O J 0]) ?_ rfl ?_
 .simp[results,Tryz.results17,go_sem,q0,q1,q2,q3,q4,q5]
 .unfold iW
  refine⟨((((((gj bw.out (by omega) _ _ _ _ _ _ _ _ _ _ _ _).setCell (p:=⟨w.heap.size+1,0,Y⟩) (by simp) _).setCell (p:=⟨w.heap.size+1,1,Y⟩) (by simp) _).setCell (p:=⟨w.heap.size+1,2,Y⟩) (by simp) _).setCell (p:=⟨w.heap.size+1,3,Y⟩) (by simp) _).setCell (p:=⟨w.heap.size+1,4,Y⟩) (by simp) _).setCell (p:=⟨w.heap.size+1,5,Y⟩) (by simp) _,.inr ⟨rfl,_,_,_,_,rfl,?_,?_,?_,?_⟩⟩
  .exact Own.mono (Ik (Ik (Ik (Ik (Ik (Ik (bN (HOm.out) (by omega) _ _ _ _ _ _ _ _ _ _ _ _) (a:=⟨w.heap.size+1,0,Y⟩) (by simp only;omega) _) (a:=⟨w.heap.size+1,1,Y⟩) (by simp only;omega) _) (a:=⟨w.heap.size+1,2,Y⟩) (by simp only;omega) _) (a:=⟨w.heap.size+1,3,Y⟩) (by simp only;omega) _) (a:=⟨w.heap.size+1,4,Y⟩) (by simp only;omega) _) (a:=⟨w.heap.size+1,5,Y⟩) (by simp only;omega) _) (by omega)
  .exact Sv.Own.mono (Ik (Ik (Ik (Ik (Ik (Ik (bN (HOs.out) (by omega) _ _ _ _ _ _ _ _ _ _ _ _) (a:=⟨w.heap.size+1,0,Y⟩) (by simp only;omega) _) (a:=⟨w.heap.size+1,1,Y⟩) (by simp only;omega) _) (a:=⟨w.heap.size+1,2,Y⟩) (by simp only;omega) _) (a:=⟨w.heap.size+1,3,Y⟩) (by simp only;omega) _) (a:=⟨w.heap.size+1,4,Y⟩) (by simp only;omega) _) (a:=⟨w.heap.size+1,5,Y⟩) (by simp only;omega) _) (by omega)
  .exact Gw.Own.mono (Ik (Ik (Ik (Ik (Ik (Ik (bN (HOg.out) (by omega) _ _ _ _ _ _ _ _ _ _ _ _) (a:=⟨w.heap.size+1,0,Y⟩) (by simp only;omega) _) (a:=⟨w.heap.size+1,1,Y⟩) (by simp only;omega) _) (a:=⟨w.heap.size+1,2,Y⟩) (by simp only;omega) _) (a:=⟨w.heap.size+1,3,Y⟩) (by simp only;omega) _) (a:=⟨w.heap.size+1,4,Y⟩) (by simp only;omega) _) (a:=⟨w.heap.size+1,5,Y⟩) (by simp only;omega) _) (by omega)
  .exact Wh.Own.mono (Ik (Ik (Ik (Ik (Ik (Ik (bN (HOh.out) (by omega) _ _ _ _ _ _ _ _ _ _ _ _) (a:=⟨w.heap.size+1,0,Y⟩) (by simp only;omega) _) (a:=⟨w.heap.size+1,1,Y⟩) (by simp only;omega) _) (a:=⟨w.heap.size+1,2,Y⟩) (by simp only;omega) _) (a:=⟨w.heap.size+1,3,Y⟩) (by simp only;omega) _) (a:=⟨w.heap.size+1,4,Y⟩) (by simp only;omega) _) (a:=⟨w.heap.size+1,5,Y⟩) (by simp only;omega) _) (by omega)
end Go.Proofs.YtfidjlcdlakceaaGreatDoor
namespace Go.Proofs
open Go.Shelf
def Tryz.KM:Go.Shelf.Ren:=⟨fun|6=>108|15=>159|14=>163|28=>215|29=>216|20=>221|21=>222|22=>223|23=>224|24=>225|25=>226|26=>227|27=>228|46=>255|47=>256|48=>257|49=>258|50=>259|57=>285|n=>n,fun|22=>22|24=>70|25=>169|3=>3|39=>192|0=>0|53=>260|55=>262|4=>4|46=>267|45=>266|50=>82|5=>5|9=>9|66=>288|70=>292|76=>312|77=>313|n=>n,fun|n=>n⟩
theorem Tryz.ad2:Go.Proofs.SlLaysF0.n6 be Tryz.KM:={
 mixed:=by kernel_rfl
 f6:=⟨Tryz.f108.name,by decide,Tryz.func108.trans (congrArg Z (by kernel_rfl))⟩
 f14:=⟨Tryz.f163.name,by decide,Tryz.func163.trans (congrArg Z (by kernel_rfl))⟩
 f15:=Tryz.func159.trans (congrArg Z (by kernel_rfl))
 f20:=⟨Tryz.f221.name,by decide,Tryz.func221.trans (congrArg Z (by kernel_rfl))⟩
 f21:=⟨Tryz.f222.name,by decide,Tryz.func222.trans (congrArg Z (by kernel_rfl))⟩
 f22:=⟨Tryz.f223.name,by decide,Tryz.func223.trans (congrArg Z (by kernel_rfl))⟩
 f23:=⟨Tryz.f224.name,by decide,Tryz.func224.trans (congrArg Z (by kernel_rfl))⟩
 f24:=⟨Tryz.f225.name,by decide,Tryz.func225.trans (congrArg Z (by kernel_rfl))⟩
 f25:=⟨Tryz.f226.name,by decide,Tryz.func226.trans (congrArg Z (by kernel_rfl))⟩
 f26:=⟨Tryz.f227.name,by decide,Tryz.func227.trans (congrArg Z (by kernel_rfl))⟩
 f27:=⟨Tryz.f228.name,by decide,Tryz.func228.trans (congrArg Z (by kernel_rfl))⟩
 f28:=Tryz.func215.trans (congrArg Z (by kernel_rfl))
 f29:=Tryz.func216.trans (congrArg Z (by kernel_rfl))
 f46:=⟨Tryz.f255.name,by decide,Tryz.func255.trans (congrArg Z (by kernel_rfl))⟩
 f47:=Tryz.func256.trans (congrArg Z (by kernel_rfl))
 f48:=Tryz.func257.trans (congrArg Z (by kernel_rfl))
 f49:=⟨Tryz.f258.name,by decide,Tryz.func258.trans (congrArg Z (by kernel_rfl))⟩
 f50:=⟨Tryz.f259.name,by decide,Tryz.func259.trans (congrArg Z (by kernel_rfl))⟩
 f57:=⟨Tryz.f285.name,by decide,Tryz.func285.trans (congrArg Z (by kernel_rfl))⟩
 t0:=Tryz.underlying0
 a0:=Tryz.isAgg0
 z0:=Tryz.sizeOf0
 v0:=Tryz.zeroValue0
 t3:=Tryz.underlying3
 a3:=Tryz.isAgg3
 z3:=Tryz.sizeOf3
 v3:=Tryz.zeroValue3
 t4:=Tryz.underlying4
 a4:=Tryz.isAgg4
 z4:=Tryz.sizeOf4
 v4:=Tryz.zeroValue4
 t5:=Tryz.underlying5
 a5:=Tryz.isAgg5
 z5:=Tryz.sizeOf5
 v5:=Tryz.zeroValue5
 t9:=Tryz.underlying9
 a9:=Tryz.isAgg9
 z9:=Tryz.sizeOf9
 v9:=Tryz.zeroValue9
 t22:=Tryz.underlying22
 a22:=Tryz.isAgg22
 z22:=Tryz.sizeOf22
 v22:=Tryz.zeroValue22
 t25:=Tryz.underlying169
 a25:=Tryz.isAgg169
 z25:=Tryz.sizeOf169
 v25:=Tryz.zeroValue169
 t39:=Tryz.underlying192
 a39:=Tryz.isAgg192
 z39:=Tryz.sizeOf192
 v39:=Tryz.zeroValue192
 t45:=Tryz.underlying266
 a45:=Tryz.isAgg266
 z45:=Tryz.sizeOf266
 v45:=Tryz.zeroValue266
 t46:=Tryz.underlying267
 a46:=Tryz.isAgg267
 z46:=Tryz.sizeOf267
 v46:=Tryz.zeroValue267
 t50:=Tryz.underlying82
 a50:=Tryz.isAgg82
 z50:=Tryz.sizeOf82
 v50:=Tryz.zeroValue82
 t53:=Tryz.underlying260
 a53:=Tryz.isAgg260
 z53:=Tryz.sizeOf260
 v53:=Tryz.zeroValue260
 t55:=Tryz.underlying262
 a55:=Tryz.isAgg262
 z55:=Tryz.sizeOf262
 v55:=Tryz.zeroValue262
 t66:=Tryz.underlying288
 a66:=Tryz.isAgg288
 z66:=Tryz.sizeOf288
 v66:=Tryz.zeroValue288
 t70:=Tryz.underlying292
 a70:=Tryz.isAgg292
 z70:=Tryz.sizeOf292
 v70:=Tryz.zeroValue292
 t76:=Tryz.underlying312
 a76:=Tryz.isAgg312
 z76:=Tryz.sizeOf312
 v76:=Tryz.zeroValue312
 t77:=Tryz.underlying313
 a77:=Tryz.isAgg313
 z77:=Tryz.sizeOf313
 v77:=Tryz.zeroValue313 }
end Go.Proofs
namespace Go.Proofs.YtfidjlcdlakceaaGreatDoor
open Go.RowKit Go.Sort Go.Lib
def cfM(a b:Mem):Int:=bz a.name b.name
theorem KN(x y:Mem)(W:World):aP 109 #[Im #[I x.name,O J x.state,O J x.aX,O J x.addr,AI x.server],Im #[I y.name,O J y.state,O J y.aX,O J y.addr,AI y.server]] W λe w'=>e=sh (O J (cfM x y))/\∃q os',w'=grow (W.drewN q) os':=by
 unfold cfM;go_enter Tryz.func109,Tryz.ntmps109;go_wp2_with (go_at_call 110;refine(fb _ _ _).mono ?_;rintro e w' ⟨rfl,rfl⟩);go_ret;exact⟨rfl,0,_,by rw[alloc_eq_grow,alloc_eq_grow,grow_grow];rfl⟩
theorem Rh[Inhabited Mem](VI off size:Nat)(w:World):CmpLays be 109 #[] Mem.cs 5 cfM VI off size w:=λ_ _ _ _ x y=>KN x y _
theorem aiX:SWO (ltOf cfM) where
 irrefl x:=by simp[ltOf,cfM,(cU x.name x.name).2 rfl]
 trans x y z:=by
  simp only[ltOf,cfM,decide_eq_true_eq,fu];exact λh1 h2=>fN h1 h2
 ntrans x y z:=by
  intro h1 h2;have h1:=of_decide_eq_false h1;have h2:=of_decide_eq_false h2;refine decide_eq_false λh3=>?_;have h3:bz x.name z.name<0:=h3;rcases Int.lt_trichotomy (bz x.name y.name) 0 with h|h|h
  .exact h1 h
  .have e:x.name=y.name:=(cU _ _).1 h
   rw[e] at h3;exact h2 h3
  .have h4:=(mV _ _).1 h
   exact h2 ((fu _ _).2 (fN h4 ((fu _ _).1 h3)))
theorem KO[Inhabited Mem]{base:Nat}{w:World}{g c:Nat}{l:List Mem}(h:Own base w (U (Z ⟨g,0,Y⟩) l.length c) l):HoldsK Mem.cs 5 w g 0 l.toArray:=by
 rcases h.2 with⟨h1,_⟩|⟨g',c',cur,h1,dQ,hg,eC,dj,cM,aO⟩
 .cases h1
 .simp only[Value.slice.injEq,Option.some.injEq,Addr.mk.injEq] at h1
  obtain⟨⟨rfl,_,_⟩,_,_⟩:=h1;intro j hj;rw[size_flatK] at hj;have A0:j<l.length*5:=by simpa using hj
  refine⟨?_,dZ hg _⟩;rw[af hg,IM,get_flatK Mem.cs 5 l.toArray j (by simpa using A0)];have e1:=ed l (j/5) (by omega) (j%5) (by omega);rw[show j/5*5+j%5=j by omega] at e1;have e2:cur[j]?=(fl l)[j]?:=by rw[<- aO,IF (by omega)];simp
  rw[e2,e1];have e3:l.toArray[j/5]! = l.getD (j/5) dm:=by
   have aL:j/5<l.length:=by omega
   simp[Io,aL]
  rw[e3];have hl:j%5<(l.getD (j/5) dm).cs.length:=by rw[bl];omega
  rw[Ic hl,getElem!_pos (l.getD (j/5) dm).cs (j%5) hl];rfl
theorem BK[Inhabited Mem]{w:World}{g m:Nat}{d:Array Mem}{os:Array Obj}{cur:Array Value}{T:Jc}{fr:Nat×Nat}(hg:w.heap[g]?=Z (AT cur T fr)) : (QY Mem.cs 5 w g 0 m d os).heap[g]?=Z (AT (putCells id 0 (flatK Mem.cs 5 d) cur) T fr):=by
 have aL:=(Ia.1 hg).1;have sf:g<(putRowK Mem.cs 5 (QZ w m) g 0 d).heap.size:=by
  show g<(putRow id (QZ w m) g 0 _).heap.size;rw[size_putRow];exact aL
 show((putRowK Mem.cs 5 (QZ w m) g 0 d).heap++os)[g]?=_;rw[Array.getElem?_append_left sf];show(w.heap.modify g (onCells (putCells id 0 (flatK Mem.cs 5 d))))[g]?=_;rw[Oe,if_pos rfl,hg];rfl
theorem En[Inhabited Mem]{base:Nat}{w:World}{g c m:Nat}{l:List Mem}{os:Array Obj}(h:Own base w (U (Z ⟨g,0,Y⟩) l.length c) l)(d:Array Mem)(hs:d.size=l.length) :
 Own base (QY Mem.cs 5 w g 0 m d os) (U (Z ⟨g,0,Y⟩) l.length c) d.toList:=by
 rcases h.2 with⟨h1,_⟩|⟨g',c',cur,h1,dQ,hg,eC,dj,cM,aO⟩
 .cases h1
 .simp only[Value.slice.injEq,Option.some.injEq,Addr.mk.injEq] at h1
  obtain⟨⟨rfl,_,_⟩,_,rfl⟩:=h1;have hl:d.toList.length=l.length:=by simpa using hs
  have ho:Own base (QY Mem.cs 5 w g 0 m d os) (U (Z ⟨g,0,Y⟩) d.toList.length c) d.toList:=by
   refine fV dQ (BK hg) (by simp[putCells,cM]) (by omega) dj ?_;apply List.ext_getElem?;intro t;by_cases ht:t<d.toList.length*5
   .have htc:t<cur.size:=by rw[cM];have:l.length*5<=c*5:=Nat.mul_le_mul_right 5 eC;omega
    rw[IF ht];have e1:=ed d.toList (t/5) (by omega) (t%5) (by omega);rw[show t/5*5+t%5=t by omega] at e1;rw[e1];have bA:t<d.size*5:=by simpa using ht
    have e2:(putCells id 0 (flatK Mem.cs 5 d) cur).toList[t]?=Z (flatK Mem.cs 5 d)[t]! := by
     simp only[putCells,Array.getElem?_toList,Array.getElem?_mapIdx,Array.getElem?_eq_getElem htc,Option.map_some];rw[if_pos ⟨II _,by rw[size_flatK];omega⟩];rfl
    rw[e2,get_flatK Mem.cs 5 d t bA];have e3:d[t/5]! = d.toList.getD (t/5) dm:=by
     have aL:t/5<d.size:=by omega
     simp[Io,aL]
    rw[e3];have fG:t%5<(d.toList.getD (t/5) dm).cs.length:=by rw[bl];omega
    rw[Ic fG,getElem!_pos (d.toList.getD (t/5) dm).cs (t%5) fG]
   .rw[IP (by rw[Iu];omega),IP (by rw[cT];omega)]
  rw[<- hl];exact ho
theorem ad3(n:Nat)(W:World)(h:n<=12):aP 159 #[O .u64 n] W λe w'=>(∃l:Int,e=sh (O J l))/\w'=W:=
 (Tryz.bits_Len n W (by omega) (by omega)).mono λ_ _ ⟨he,hw⟩=>⟨⟨_,he⟩,hw⟩
theorem BL[Inhabited Mem]{B:Nat}{w:World}{g n:Nat}{d:Array Mem}{os:Array Obj}(hg:B<=g)(hB:B<=w.heap.size):Go.RowKit.Below B w (QY Mem.cs 5 w g 0 n d os):=by
 refine⟨rfl,rfl,rfl,by simp[QY,putRowK,putRow,mapBlock,QZ,grow],λk hk=>?_⟩;unfold QY;rw[Q4 _ _ (by simp[putRowK,putRow,mapBlock,QZ];omega)]
 have:g≠k:=by omega
 simp[putRowK,putRow,mapBlock,QZ,Oe,this]
theorem Ri[Inhabited Mem]{w:World}{g n:Nat}{d:Array Mem}{os:Array Obj}:Sh (λk=>k=g) w (QY Mem.cs 5 w g 0 n d os):=by
 refine⟨rfl,rfl,rfl,by simp[QY,putRowK,putRow,mapBlock,QZ,grow],λk hk bu=>?_⟩;unfold QY;rw[Q4 _ _ (by simp[putRowK,putRow,mapBlock,QZ];omega)]
 have:g≠k:=λe=>bu e.symm
 simp[putRowK,putRow,mapBlock,QZ,Oe,this]
def Rj(l:List Mem):Prop:=∀i j,i<j->j<l.length->0<=bz (l.getD j dm).name (l.getD i dm).name
theorem Eo(base:Nat)(l:List Mem)(g c:Nat)(w:World)(h:Own base w (U (Z ⟨g,0,Y⟩) l.length c) l)(hb:base<=w.heap.size)(hl:l.length<=12) :
 aP 108 #[U (Z ⟨g,0,Y⟩) l.length c,.func (.func 109) #[] #[]] w λe w'=>e=sh (Il #[])/\∃l':List Mem,l'.Perm l/\Rj l'/\Own base w' (U (Z ⟨g,0,Y⟩) l.length c) l'/\Go.RowKit.Below base w w'/\Sh (λk=>k=g) w w':=by
 have eg:∀args w,(callFunc 109 args).run be w=.ok (.enter 109 args) w:=enters_of Tryz.func109 (by kernel_rfl) rfl;have jZ:=h.lt g rfl;have aoA:Inhabited Mem:=⟨dm⟩;have jH:=AnyQ.slices_SortFunc_small_sorted Tryz.ad2 5 Tryz.isAgg70 Tryz.sizeOf70 Mem.cs bl cC cfM 109 #[] aiX g 0 c l.toArray w eg (Rh g 0 _ w) (KO h) jZ.2 (by simpa using hl) ad3;rw[List.size_toArray] at jH;refine Calls.mono jH ?_;rintro e w' ⟨rfl,d,n,os,hp,hs,rfl⟩;obtain⟨p1,_,p3⟩:=hp;have bA:d.size=l.length:=by simpa using p1
 refine⟨rfl,d.toList,?_,λi j lO hj=>?_,En h d bA,BL jZ.1 hb,Ri⟩
 .have e1:d.extract 0 l.length=d:=by rw[<- bA];simp
  have e2:l.toArray.extract 0 l.length=l.toArray:=by simp
  rw[e1,e2] at p3;simpa using p3
 .have A0:j<d.size:=by simpa using hj
  have h2:=hs i j (II _) lO (by rw[<- bA];exact A0);have h3:¬ bz (d[j]!).name (d[i]!).name<0:=of_decide_eq_false h2;have e1:d[j]! = d.toList.getD j dm:=by simp[Io,A0]
  have e2:d[i]! = d.toList.getD i dm:=by simp[Io,show i<d.size by omega]
  rw[e1,e2] at h3;omega
theorem KP(f:Value)(w:World) :
 aP 221 #[U Y 0 0,O J 0,O J 0,f] w λe w'=>e=sh (Il #[])/\w'=w:=by
 go_enter Tryz.func221,Tryz.ntmps221;go_wp2_with fail;refine JT 1 ?_;rw[JC];go_wp2_with fail;go_end0
 exact⟨rfl,rfl⟩
theorem KQ(k:Int)(f:Value)(w:World) :
 aP 163 #[U Y 0 0,O J 0,O J 0,O J k,f] w λe w'=>e=sh (Il #[])/\w'=w:=by
 go_enter Tryz.func163,Tryz.ntmps163;go_wp2_with fail;refine JT 1 ?_;rw[JC];go_wp2_with (go_at_call 221;refine(KP _ _).mono ?_;rintro e w' ⟨rfl,rfl⟩)
 (try simp only[Exit.inBlock,Exit.then]);refine Ix (results_none rfl _ _ _) rfl ?_
 exact⟨rfl,rfl⟩
theorem Ep(f:Value)(w:World) :
 aP 108 #[U Y 0 0,f] w λe w'=>e=sh (Il #[])/\w'=w:=by
 go_enter Tryz.func108,Tryz.ntmps108;go_wp2_with (go_at_call 159;refine(Tryz.bits_Len _ _ (by omega) (by omega)).mono ?_;rintro e w' ⟨rfl,rfl⟩);refine(KQ _ _ _).mono ?_;rintro e w' ⟨rfl,rfl⟩;go_wp2_with fail;go_end0
 exact⟨rfl,rfl⟩
theorem KR(base:Nat)(l:List Mem)(v:Value)(w:World)(h:Own base w v l)(hb:base<=w.heap.size)(hl:l.length<=12) :
 aP 108 #[v,.func (.func 109) #[] #[]] w λe w'=>e=sh (Il #[])/\∃l':List Mem,l'.Perm l/\Rj l'/\Own base w' v l'/\Go.RowKit.Below base w w'/\Sh (λk=>v.ownBlock=Z k) w w':=by
 rcases h.2 with⟨h1,h2⟩|⟨g,c,cur,h1,_⟩
 .subst h1
  have he:=IX h2;subst he;refine(Ep _ w).mono ?_;rintro e w' ⟨rfl,rfl⟩;exact⟨rfl,[],.refl _,λi j _ hj=>by simp at hj,bj _ _,Go.RowKit.Below.refl _ _,Sh.refl _ _⟩
 .subst h1
  refine(Eo base l g c w h hb hl).mono ?_;rintro e w' ⟨rfl,l',h1,h2,h3,h4,h5⟩;exact⟨rfl,l',h1,h2,h3,h4,h5.mono (λk hk=>by rw[hk];rfl)⟩
end Go.Proofs.YtfidjlcdlakceaaGreatDoor
namespace Go.Proofs.YtfidjlcdlakceaaGreatDoor
open Go.RowKit
theorem Tryz.ad4:(Tryz.prog.info? 9).map (λi=>(i.zero,i.size,i.bytes))=Z (Z (I ⟨#[]⟩),1,16):=by kernel_rfl
abbrev sJ(base:Nat)(w:World)(v:Value)(l:List ByteArray):Prop:=w.ownsRow base 9 1 v l.length (l.map I)
theorem Rk(base:Nat)(w:World):sJ base w (U Y 0 0) []:=World.ownsRow_nil w base 9 1
theorem sJ.below{base:Nat}{w w':World}{v:Value}{l:List ByteArray}(h:sJ base w v l)(hb:Below w.heap.size w w'):sJ base w' v l:=by
 rcases h.2 with⟨rfl,h0⟩|⟨g,c,cur,rfl,dQ,hg,eC,dj,cM,aO⟩
 .exact⟨h.1,.inl ⟨rfl,h0⟩⟩
 .have aL:=(Ia.1 hg).1
  exact⟨h.1,.inr ⟨g,c,cur,rfl,dQ,(hb.block g aL).trans hg,eC,dj,cM,aO⟩⟩
theorem sJ.lt{base:Nat}{w:World}{v:Value}{l:List ByteArray}(h:sJ base w v l)(k:Nat)(hk:v.ownBlock=Z k):base<=k/\k<w.heap.size:=World.ownsRow.lt h k hk
theorem xT{base:Nat}{w:World}{v:Value}{l:List ByteArray}{s:ByteArray}(h:w.ownsRow base 9 1 v (l.length+1) (l.map I++[I s])):sJ base w v (l++[s]):=by
 show w.ownsRow base 9 1 v (l++[s]).length ((l++[s]).map I);rw[List.length_append,QX];exact h
def isLive(m:Mem):Bool:=m.state==1||m.state==2
def eE(ms:List Mem):List ByteArray:=(ms.filter isLive).map Mem.name
theorem KS(ms:List Mem)(k:Nat)(hk:k<ms.length)(h:isLive (ms.getD k dm)=true):eE (ms.take (k+1))=eE (ms.take k)++[(ms.getD k dm).name]:=by
 have e:ms.getD k dm=ms[k]:=by simp[Io,Ic hk]
 rw[e] at h ⊢;unfold eE;rw[Iw hk,JP,QX];simp[h]
theorem Rl(ms:List Mem)(k:Nat)(hk:k<ms.length)(h:isLive (ms.getD k dm)=false):eE (ms.take (k+1))=eE (ms.take k):=by
 have e:ms.getD k dm=ms[k]:=by simp[Io,Ic hk]
 rw[e] at h;unfold eE;rw[Iw hk,JP,QX];simp[h]
theorem KT(ms:List Mem)(k:Nat):(eE (ms.take k)).length<=k:=by
 unfold eE;rw[Oy];exact Ir (Ow _ _) (List.length_take_le _ _)
theorem KU(ms:List Mem)(v:Value)(w:World)(hv:Sl w v ms)(h0:ba ms=0) :
 Calls be 105 #[v] w λe w'=>∃v',e=sh (Il #[v',O J 0])/\Hid (sJ w.heap.size w' v' (eE ms))/\Below w.heap.size w w':=by
 obtain⟨i0,ei,bW,fs,eU⟩:=info_parts Tryz.ad4;have he:(ba ms !=0)=false:=by simpa using h0
 have hz:=aF h0;have hlen:=hz.1;have HV:Hid (Sl w v ms):=hv;obtain⟨pa,ca,rfl,_,ha⟩:=hv;have HA:Hid _:=ha;clear ha h0 hz;generalize yo:ms.length=n at *;have HN:Hid (ms.length=n):=yo;clear yo;go_enter Tryz.func105,Tryz.ntmps105;go_wp2_with fail;refine(aW ms _ _ HV.out).mono ?_;rintro e w1 ⟨rfl,al⟩;go_wp2_with fail;go_loopw [5,15] (λkn i w'=>∃k:Nat,k<=n/\i=O J k/\Below w.heap.size w w'/\Hid (sJ w.heap.size w' kn (eE (ms.take k)))) (λ_ i _=>n-(intOf i).toNat)
 case atStart=>exact⟨0,II _,rfl,al,Rk _ _⟩
 case round=>
  clear al;obtain⟨k,hk,rfl,aU,HO⟩:=hrel;obtain⟨eA,nO⟩:=cH aU;have bA:=aU.size;by_cases aL:k<n
  .obtain⟨b1,o1,lP,eY,yp⟩:∃b off,pa=Z ⟨b,off,Y⟩/\b<w.heap.size/\Row w b off ms:=by
    rcases HA.out with h|h
    .have:=HN.out;rw[h] at this;simp at this;omega
    .exact h
   subst lP;obtain⟨c0,c1,c2,c3,c4⟩:=yp k (by rw[HN.out];exact aL);clear yp;have HY:Hid (isLive (ms.getD k dm)=true->eE (ms.take (k+1))=eE (ms.take k)++[(ms.getD k dm).name]):=λh=>KS ms k (by rw[HN.out];exact aL) h;have HX:Hid (isLive (ms.getD k dm)=false->eE (ms.take (k+1))=eE (ms.take k)):=λh=>Rl ms k (by rw[HN.out];exact aL) h;have XP:=KT ms k;generalize ms.getD k dm=mk at *;obtain⟨nk,sk,lk,ak,vk⟩:=mk;simp only at c0 c1 c2 c3 c4;have gP:sk=1\/sk=2\/(sk≠1/\sk≠2):=by omega
   rcases gP with h|h|⟨h,h'⟩
   .subst h
    have HY2:Hid (eE (ms.take (k+1))=eE (ms.take k)++[nk]):=HY.out rfl;clear HY HX;generalize eE (ms.take k)=L at *;go_wp2_with (at_builtin;refine I5 _ rfl _ _ 111 rfl w.heap.size 9 i0 _ 1 16 Jt ei bW fs eU rfl (by omega) _ L.length (L.map I) rfl ?hown ⟨wr.heap.size+1,0,Y⟩ 1 1 [I nk] rfl rfl ?hnews (by intro u hu;simp at hu;subst hu;rfl) ?h63 ?hbytes ?hbase ?_)
    case hown=>exact HO.out.below (((Ib _ _).alloc (By _) _).alloc (by simp) _)
    case hnews=>(intro j u hj;rw[Addr.add_lit];have hh:=af (Ie (wr.alloc (AT #[I nk,O J 1,O J lk,O J ak,AI vk] 70)) (AT #[I nk] 9)) (0+j);rw[show(wr.alloc (AT #[I nk,O J 1,O J lk,O J ak,AI vk] 70)).heap.size=wr.heap.size+1 by simp] at hh;exact hh.trans (by simpa using hj))
    case h63=>(unfold Ij;omega)
    case hbytes=>omega
    case hbase=>first|omega|(simp;omega)
    intro v' w2 r1 r2 r3;have gv:Hid (sJ w.heap.size w2 v' (L++[nk])):=xT r1;have bw:Hid (Below w.heap.size w w2):=((aU.alloc bA _).alloc (by simp;omega) _).grown r2 (by simp;omega) (λj hj=>(HO.out.lt j hj).1);go_wp2_with fail;exact⟨⟨k+1,by omega,by go_num,bw.out,by rw[HY2.out];exact gv⟩,by simp[intOf];omega⟩
   .subst h
    have HY2:Hid (eE (ms.take (k+1))=eE (ms.take k)++[nk]):=HY.out rfl;clear HY HX;generalize eE (ms.take k)=L at *;go_wp2_with (at_builtin;refine I5 _ rfl _ _ 111 rfl w.heap.size 9 i0 _ 1 16 Jt ei bW fs eU rfl (by omega) _ L.length (L.map I) rfl ?hown ⟨wr.heap.size+1,0,Y⟩ 1 1 [I nk] rfl rfl ?hnews (by intro u hu;simp at hu;subst hu;rfl) ?h63 ?hbytes ?hbase ?_)
    case hown=>exact HO.out.below (((Ib _ _).alloc (By _) _).alloc (by simp) _)
    case hnews=>(intro j u hj;rw[Addr.add_lit];have hh:=af (Ie (wr.alloc (AT #[I nk,O J 2,O J lk,O J ak,AI vk] 70)) (AT #[I nk] 9)) (0+j);rw[show(wr.alloc (AT #[I nk,O J 2,O J lk,O J ak,AI vk] 70)).heap.size=wr.heap.size+1 by simp] at hh;exact hh.trans (by simpa using hj))
    case h63=>(unfold Ij;omega)
    case hbytes=>omega
    case hbase=>first|omega|(simp;omega)
    intro v' w2 r1 r2 r3;have gv:Hid (sJ _ _ _ _):=xT r1;have bw:Hid _:=((aU.alloc bA _).alloc (by simp;omega) _).grown r2 (by simp;omega) (λj hj=>(HO.out.lt j hj).1);go_wp2_with fail;exact⟨⟨k+1,by omega,by go_num,bw.out,by rw[HY2.out];exact gv⟩,by simp[intOf];omega⟩
   .have e1:(sk==1)=false:=by simpa using h
    have e2:(sk==2)=false:=by simpa using h'
    have HX2:Hid _:=HX.out (by simp[isLive,h,h']);clear HY HX h h';go_wp2_with fail;go_roundw
    case rel=>exact⟨k+1,by omega,by go_num,aU.alloc bA _,by rw[HX2.out];exact HO.out.below ((Ib _ _).alloc (By _) _)⟩
    case measure=>simp[intOf];omega
  .have HF:Hid (sJ w.heap.size wr u5 (eE ms)):=by
    have h:=HO.out;rw[List.take_of_length_le (by rw[HN.out];omega)] at h;exact h
   go_wp2_with fail;go_ret2;exact⟨u5,rfl,HF,aU⟩
def zv(rs:List bE)(times:Int)(told:List Mem)(rest:List bE):Prop:=
 (rs=[]/\told=[]/\rest=[])\/(0<rs.length/\∃ord,iJ rs ord/\told=gL rs ord (min 5 rs.length)/\rest=(bump rs ord (min 5 rs.length)).filter (ey times))
theorem Er{rs:List bE}{times:Int}{told:List Mem}{rest:List bE}(h:zv rs times told rest):told.length<=5:=by
 rcases h with⟨_,rfl,_⟩|⟨_,ord,_,rfl,_⟩
 .simp
 .unfold gL;rw[Oy,Iu];omega
theorem KV{rs:List bE}{ord:List Nat}{k:Nat}(h:iJ rs ord){m:Mem}(hm:m∈gL rs ord k):∃r∈rs,r.m=m:=by
 unfold gL at hm;obtain⟨i,hi,rfl⟩:=List.mem_map.1 hm;have hb:=h.bd i (List.mem_of_mem_take hi);refine⟨rs[i],IV _,?_⟩;simp[Io,Ic hb]
theorem BM(rs:List bE):∀(is:List Nat) (r:bE),r∈is.foldl hU rs->(∃x∈rs,x.m=r.m)\/r.m=dm
 |[],r,h=>.inl ⟨r,h,rfl⟩
 |i::is,r,h=>by
  rw[List.foldl_cons] at h;rcases BM (hU rs i) is r h with⟨x,hx,e⟩|e
  .unfold hU at hx
   rcases List.mem_or_eq_of_mem_set hx with hx|rfl
   .exact .inl ⟨x,hx,e⟩
   .by_cases hi:i<rs.length
    .exact .inl ⟨rs[i],IV _,by rw[<- e];simp[Io,Ic hi]⟩
    .exact .inr (by rw[<- e];simp[Io,IP (Nat.le_of_not_lt hi),dr])
  .exact .inr e
theorem KW{rs:List bE}{times:Int}{told:List Mem}{rest:List bE}(h:zv rs times told rest)(hr:∀r∈rs,r.m.name.size<=Ij):(∀m∈told,m.name.size<=Ij)/\∀r∈rest,r.m.name.size<=Ij:=by
 rcases h with⟨_,rfl,rfl⟩|⟨_,ord,ho,rfl,rfl⟩
 .exact⟨λm hm=>by simp at hm,λm hm=>by simp at hm⟩
 .refine⟨λm hm=>?_,λr zG=>?_⟩
  .obtain⟨r,h1,rfl⟩:=KV ho hm;exact hr r h1
  .have h1:=(List.mem_filter.1 zG).1
   rcases BM rs _ r h1 with⟨x,hx,e⟩|e
   .rw[<- e];exact hr x hx
   .rw[e];simp[dm]
theorem KX(rs:List bE)(v:Value)(times:Int)(w:World)(hv:mj w v rs)(h0:ee rs=0)(ht:within times 1 100=true) :
 aP 107 #[v,O J 5,O J times] w λe w'=>∃a k c a2 k2 c2 told rest,e=sh (Il #[U a k c,U a2 k2 c2,O J 0])/\Hid (zv rs times told rest)/\Own w.heap.size w' (U a k c) told/\cd w.heap.size w' (U a2 k2 c2) rest/\Below w.heap.size w w':=by
 by_cases hp:0<rs.length
 .have hT:=El rs v (rs.length-1) (by omega) (by have:=(ll h0).1;omega)
  refine(KG rs v 5 times w hv h0 rfl ht hp hT).mono ?_;rintro e w' ⟨v1,v2,ord,rfl,ho,h1,h2,hb⟩;obtain⟨a,c,rfl,_⟩:=az h1;obtain⟨a2,c2,rfl,_⟩:=az h2;exact⟨a,_,c,a2,_,c2,_,_,rfl,.inr ⟨hp,ord,ho,rfl,rfl⟩,h1,h2,hb⟩
 .have he:rs=[]:=IX (by omega)
  subst he;refine(KK v 5 times w hv h0 rfl ht).mono ?_;rintro e w' ⟨v1,v2,rfl,h1,h2,hb⟩;obtain⟨a,c,rfl,_⟩:=az h1;obtain⟨a2,c2,rfl,_⟩:=az h2;exact⟨a,_,c,a2,_,c2,_,_,rfl,.inl ⟨rfl,rfl,rfl⟩,h1,h2,hb⟩
def tmN(n:Nd):Int:=max (3*(Lib.bitLen (eE n.ms).length:Nat)) 1
def oI(n:Nd)(l:List Mem)(rest:List bE):Prop:=∃told,zv n.rs (tmN n) told rest/\l.Perm told/\Rj l
theorem Rm{ms:List Mem}(h:ms.length<=20):(eE ms).length<=20:=by
 unfold eE;rw[Oy];exact Ir (Ow _ _) h
theorem Wk.pk{L b c:Nat}{W:World}{n:Nd}(h:Wk L W b n)(hc:∃cs,W.heap[c]?=Z (AT cs 57 (0,0)))(i:Nat)(x:Value):Wk L (W.setCell ⟨c,i,Y⟩ x) b n/\∃cs,(W.setCell ⟨c,i,Y⟩ x).heap[c]?=Z (AT cs 57 (0,0)):=by
 obtain⟨cs,hc⟩:=hc;obtain⟨vm,vr,vs,vg,vw,h1,h2,h3,h4⟩:=h;have bu:b≠c:=by
  intro e;rw[e,hc] at h1;injection h1 with h1;injection h1 with _ h1;exact absurd h1 (by decide)
 exact⟨⟨vm,vr,vs,vg,vw,(IB W _ x b bu).trans h1,⟨Iz h2.ms (eJ h2.ms hc (by decide)) _,Iz h2.rs (eJ h2.rs hc (by decide)) _,Iz h2.sv (eJ h2.sv hc (by decide)) _,Iz h2.gw (eJ h2.gw hc (by decide)) _,Iz h2.wh (eJ h2.wh hc (by decide)) _⟩,h3,h4⟩,_,Is (i:=i) hc x⟩
theorem KY(L b:Nat)(n:Nd)(w:World)(h:Wk L w b n)(hL:L<=b)(BA:Sp n) :
 aP 56 #[If (Z ⟨b,0,Y⟩)] w λe w'=>∃a k c l rest,e=sh (Im #[I n.name,AI false,U a k c,U Y 0 0,U Y 0 0,U Y 0 0])/\Hid (oI n l rest)/\Own (w.heap.size+1) w' (U a k c) l/\Sh (λk=>k=b) w w'/\Wk L w' b { n with rs:=rest }:=by
 have sA:Hid (Wk L w b n):=h;have aU:=h.lt;have P0:Hid _:=BA;obtain⟨vm,vr,vs,vg,vw,h1,h2,h3,h4⟩:=h;have ze:Hid _:=h2.is h4;obtain⟨am,cm,sG,_⟩:=az h2.ms;obtain⟨ar,cr,zh,_⟩:=az h2.rs;subst sG zh;have oA:=(aF BA.ms).1;have Fe:Hid _:=Rm oA;have HX:Hid (∀W,Below w.heap.size w W->W.heap[b]?=Z (AT (fD n (U am n.ms.length cm) (U ar n.rs.length cr) vs vg vw) 81 (0,0))):=λW hW=>(hW.block _ aU).trans h1;have aiZ:Hid _:=h4.rs;obtain⟨W0,dK,df,nP,bW⟩:=cR w #[I ⟨#[]⟩,AI false,U Y 0 0,U Y 0 0,U Y 0 0,U Y 0 0] 57;have y2:=af (HX.out W0 df) 2;have dy:Hid _:=df;have xJ:Hid _:=bW;clear h1 h2 h3 h4 BA;go_enter Tryz.func56,Tryz.ntmps56;go_upto_region 1 with fail
 rw[<- dK];clear dK;go_wp2_with fail;refine(KU n.ms _ W0 (ze.out.ms.below dy.out) P0.out.ms).mono ?_;rintro e w1 ⟨v1,rfl,wY,al⟩;obtain⟨a1,c1,Wj,_⟩:=az wY.out;subst Wj;have aR:Hid _:=al;have pK:Hid _:=dy.out.trans (al.mono (by omega));clear wY al y2 df bW;have ai0:within ((eE n.ms).length:Int) 0 20=true:=within_iff.2 ⟨by omega,by have:=Fe.out;omega⟩;go_wp2_with fail;refine(Kk _ w1 ai0).mono ?_;rintro e w2 ⟨rfl,rH⟩;have zN:=rH.symm;subst zN;have y3:=af (HX.out w1 pK.out) 3;go_wp2_with fail;have htm:within (tmN n) 1 100=true:=by
  have aU:∀m,m<21->Lib.bitLen m<=5:=by decide
  have h1:=aU (eE n.ms).length (by have:=Fe.out;omega);refine within_iff.2 ⟨?_,?_⟩<;>(unfold tmN;omega)
 refine(KX n.rs _ (tmN n) w1 (ze.out.rs.below pK.out) P0.out.rs htm).mono ?_;rintro e w3 ⟨a3,k3,c3,a4,k4,c4,told,rest,rfl,HT,nf,Xb,bf⟩;have eB:Hid (Own _ _ _ _):=nf;have o7:Hid (cd _ _ _ _):=Xb;have da:Hid _:=bf;have ai1:=bf.size;clear nf Xb bf y3;go_wp2_with fail;refine(KR w1.heap.size told _ w3 eB.out ai1 (by have:=Er HT.out;omega)).mono ?_;rintro e w4 ⟨rfl,l,hp,hs,ho5,lA,BC⟩;have nT:Hid (Own _ _ _ _):=ho5;have HTL:Hid (oI n l rest):=⟨told,HT.out,hp,hs⟩;have jE:Hid _:=da.out.trans lA;have VJ:Hid _:=pK.out.trans (jE.out.mono pK.out.size);have ny:Hid (cd w1.heap.size w4 (U a4 k4 c4) rest):=by
  rcases o7.out.2 with hq|⟨g,c,cur,e1,e2,e3,e4⟩
  .exact⟨o7.out.1,.inl hq⟩
  .refine⟨o7.out.1,.inr ⟨g,c,cur,e1,e2,(BC.block g (Ia.1 e3).1 (λe=>?_)).trans e3,e4⟩⟩
   exact eJ eB.out e3 (by decide) e
 have hL2:L<=w.heap.size:=by omega
 have gI:w.heap.size+1<=w1.heap.size:=by have:=aR.out.size;omega
 have iQ:=(jE.out.block _ (by omega)).trans ((aR.out.block _ (by omega)).trans xJ.out);have HZ4:Hid _:=iQ;have hx4:=HX.out w4 VJ.out;have x0:=af hx4 0;have x3:=af hx4 3;have xz3:=dZ hx4 3;have hbs:b<w4.heap.size:=by have:=VJ.out.size;omega
 have bu:b≠w.heap.size:=by omega
 have abo:w.heap.size≠b:=by omega
 have aoC:w.heap.size<w4.heap.size:=by have:=jE.out.size;omega
 obtain⟨q0,q1,q2,q3,q4,q5⟩:=gV iQ;obtain⟨FB,Eb,FC,FD,FE,FF⟩:=PM iQ;clear iQ hx4 ho5 lA BC hp hs;go_wp2_with fail;refine Ix (v:=Im #[I n.name,AI false,U a3 k3 c3,U Y 0 0,U Y 0 0,U Y 0 0]) ?_ rfl ?_
 .simp[results,Tryz.results56,go_sem,q0,q1,q2,q3,q4,q5]
 .have k0:=sA.out.PQ hL2 VJ.out (v:=U a4 k4 c4) (l:=rest) (ny.out.base (by omega)) (KW HT.out aiZ.out).2
  have z0:∃cs,(w4.setCell ⟨b,3,Y⟩ (U a4 k4 c4)).heap[w.heap.size]?=Z (AT cs 57 (0,0)):=⟨_,(IB w4 _ _ w.heap.size abo).trans HZ4.out⟩;obtain⟨k1,z1⟩:=k0.pk z0 0 (I n.name);obtain⟨k2,z2⟩:=k1.pk z1 1 (AI false);obtain⟨k3',z3⟩:=k2.pk z2 2 (U a3 k3 c3);obtain⟨k4',z4⟩:=k3'.pk z3 3 (U Y 0 0);obtain⟨k5,z5⟩:=k4'.pk z4 4 (U Y 0 0);obtain⟨k6,z6⟩:=k5.pk z5 5 (U Y 0 0);have ix:=(((((((Ib w.heap.size (w4.setCell ⟨b,3,Y⟩ (U a4 k4 c4))).setCell (p:=⟨w.heap.size,0,Y⟩) (by simp) (I n.name)).setCell (p:=⟨w.heap.size,1,Y⟩) (by simp) (AI false)).setCell (p:=⟨w.heap.size,2,Y⟩) (by simp) (U a3 k3 c3)).setCell (p:=⟨w.heap.size,3,Y⟩) (by simp) (U Y 0 0)).setCell (p:=⟨w.heap.size,4,Y⟩) (by simp) (U Y 0 0)).setCell (p:=⟨w.heap.size,5,Y⟩) (by simp) (U Y 0 0));have s0:Sh (λk=>k=b) w (w4.setCell ⟨b,3,Y⟩ (U a4 k4 c4)):=Sh.setCell (S:=λk=>k=b) (Sh.of VJ.out) (b:=b) (i:=3) rfl _;refine⟨a3,k3,c3,l,rest,rfl,HTL,?_,⟨ix.os.trans s0.os,ix.tape.trans s0.tape,ix.output.trans s0.output,Ir s0.size ix.size,λi hi hn=>(ix.block i hi).trans (s0.block i hi hn)⟩,k6⟩;exact(Ik (Ik (Ik (Ik (Ik (Ik (Ik (nT.out.mono gI) (a:=⟨b,3,Y⟩) (by simp only;omega) _) (a:=⟨w.heap.size,0,Y⟩) (by simp only;omega) _) (a:=⟨w.heap.size,1,Y⟩) (by simp only;omega) _) (a:=⟨w.heap.size,2,Y⟩) (by simp only;omega) _) (a:=⟨w.heap.size,3,Y⟩) (by simp only;omega) _) (a:=⟨w.heap.size,4,Y⟩) (by simp only;omega) _) (a:=⟨w.heap.size,5,Y⟩) (by simp only;omega) _)
theorem KZ(L b tb:Nat)(n:Nd)(w:World)(h:Wk L w b n)(hL:L<=b)(BA:Sp n)(hc:w.heap[tb]?=Z (AT #[I ⟨#[]⟩,AI false,U Y 0 0,U Y 0 0,U Y 0 0,U Y 0 0] 57 (0,0))) :
 aP 55 #[If (Z ⟨b,0,Y⟩),If (Z ⟨tb,0,Y⟩)] w λe w'=>e=sh (O J 0)/\Sh (λk=>k=b\/k=tb) w w'/\∃a k c l rest,Hid (oI n l rest)/\w'.heap[tb]?=Z (AT #[I n.name,AI false,U a k c,U Y 0 0,U Y 0 0,U Y 0 0] 57 (0,0))/\Own (w.heap.size+1) w' (U a k c) l/\Wk L w' b { n with rs:=rest }:=by
 have HC:=KY L b n w h hL BA;have Tu:=(Ia.1 hc).1;have bu:tb≠b:=by
  intro e;obtain⟨_,_,_,_,_,h1,_⟩:=h;rw[<- e,hc] at h1;injection h1 with h1;injection h1 with _ h1;exact absurd h1 (by decide)
 have HCB:Hid _:=hc;clear h BA hc;go_enter Tryz.func55,Tryz.ntmps55;go_wp2_with fail;refine HC.mono ?_;rintro e w1 ⟨a,k,c,l,rest,rfl,HT,ho,hs,hk⟩;have cS:=(hs.block _ Tu bu).trans HCB.out;have Mi:Hid _:=cS;have HO:Hid (Own _ _ _ _):=ho;have zk:Hid _:=hs;have HK:Hid (Wk _ _ _ _):=hk;have aaI:=(Ia.1 cS).1;obtain⟨q0,q1,q2,q3,q4,q5⟩:=gV cS;obtain⟨FB,Eb,FC,FD,FE,FF⟩:=PM cS;clear cS ho hs hk HC;go_wp2_with fail;go_ret;have g0:=HK.out;have z0:∃cs,w1.heap[tb]?=Z (AT cs 57 (0,0)):=⟨_,Mi.out⟩;obtain⟨g1,z1⟩:=g0.pk z0 0 (I n.name);obtain⟨g2,z2⟩:=g1.pk z1 1 (AI false);obtain⟨g3,z3⟩:=g2.pk z2 2 (U a k c);obtain⟨g4,z4⟩:=g3.pk z3 3 (U Y 0 0);obtain⟨g5,z5⟩:=g4.pk z4 4 (U Y 0 0);obtain⟨g6,z6⟩:=g5.pk z5 5 (U Y 0 0);exact⟨rfl,(Sh.setCell (S:=λk=>k=b\/k=tb) (Sh.setCell (S:=λk=>k=b\/k=tb) (Sh.setCell (S:=λk=>k=b\/k=tb) (Sh.setCell (S:=λk=>k=b\/k=tb) (Sh.setCell (S:=λk=>k=b\/k=tb) (Sh.setCell (S:=λk=>k=b\/k=tb) (zk.out.mono (λk hk=>.inl hk)) (b:=tb) (i:=0) (.inr rfl) (I n.name)) (b:=tb) (i:=1) (.inr rfl) (AI false)) (b:=tb) (i:=2) (.inr rfl) (U a k c)) (b:=tb) (i:=3) (.inr rfl) (U Y 0 0)) (b:=tb) (i:=4) (.inr rfl) (U Y 0 0)) (b:=tb) (i:=5) (.inr rfl) (U Y 0 0)),a,k,c,l,rest,HT,(Is (i:=5) (Is (i:=4) (Is (i:=3) (Is (i:=2) (Is (i:=1) (Is (i:=0) Mi.out (I n.name)) (AI false)) (U a k c)) (U Y 0 0)) (U Y 0 0)) (U Y 0 0)),(Ik ((Ik ((Ik ((Ik ((Ik ((Ik (HO.out) (a:=⟨tb,0,Y⟩) (by simp only;omega) (I n.name))) (a:=⟨tb,1,Y⟩) (by simp only;omega) (AI false))) (a:=⟨tb,2,Y⟩) (by simp only;omega) (U a k c))) (a:=⟨tb,3,Y⟩) (by simp only;omega) (U Y 0 0))) (a:=⟨tb,4,Y⟩) (by simp only;omega) (U Y 0 0))) (a:=⟨tb,5,Y⟩) (by simp only;omega) (U Y 0 0)),g6⟩
def mM(n:Nd)(ne:Int)(w:World)(e:Ending)(w':World):Prop:=Below w.heap.size w w' /\
 ((ne≠0/\e=sh (Il #[Im #[I ⟨#[]⟩,I ⟨#[]⟩,U Y 0 0,U Y 0 0,U Y 0 0,U Y 0 0,O J 0,O J 0,O J 0,O J 0,O J 0,U Y 0 0],Im #[I ⟨#[]⟩,AI false,U Y 0 0,U Y 0 0,U Y 0 0,U Y 0 0],O J ne])) \/
 (ne=0/\∃n' um ur us ug uw a k c l,e=sh (Il #[Im (fD n' um ur us ug uw),Im #[I n.name,AI false,U a k c,U Y 0 0,U Y 0 0,U Y 0 0],O J 0])/\n'={ n with rs:=n'.rs }/\oI n l n'.rs/\gK w.heap.size w' n' um ur us ug uw/\oE n'/\Own w.heap.size w' (U a k c) l))
def FM(n:Nd)(tb B:Nat)(n':Nd)(W:World):Prop:=∃a k c l,n'={ n with rs:=n'.rs }/\oI n l n'.rs/\W.heap[tb]?=Z (AT #[I n.name,AI false,U a k c,U Y 0 0,U Y 0 0,U Y 0 0] 57 (0,0))/\Own B W (U a k c) l
theorem Rn(n:Nd)(vm vr vs vg vw:Value)(w:World)(h:jL w n vm vr vs vg vw) :
 aP 21 #[Im (fD n vm vr vs vg vw)] w λe w'=>mM n n.e w e w':=by
 have ze:Hid _:=h;have xO:Hid (∀W0,Below w.heap.size w W0->W0.heap.size=w.heap.size+4->W0.heap[w.heap.size+3]?=Z (AT #[I ⟨#[]⟩,AI false,U Y 0 0,U Y 0 0,U Y 0 0,U Y 0 0] 57 (0,0))->aP 45 #[Im (fD n vm vr vs vg vw),.func (.func 55) #[] #[If (Z ⟨w.heap.size+3,0,Y⟩)]] W0 λe w'=>kH n.e 0 (λk=>k=w.heap.size+3) (FM n (w.heap.size+3) (W0.heap.size+2)) W0 e w'):=λW0 hb hs hc=>
  xM 55 #[If (Z ⟨w.heap.size+3,0,Y⟩)] (enters_of Tryz.func55 (by kernel_rfl) rfl) n vm vr vs vg vw W0 (h.below hb) (λk=>k=w.heap.size+3) 0 (FM n (w.heap.size+3) (W0.heap.size+2))
   (λhe W b hW aC hk=>by
    refine(KZ (W0.heap.size+2) b (w.heap.size+3) n W hk (by omega) (Nd.sp he) ((hW.block _ (by omega)).trans hc)).mono ?_;rintro e w' ⟨rfl,iZ,a,k,c,l,rest,HT,TB,ho,hwk⟩;have ez:=hk.lt;exact⟨rfl,iZ.mono (λk hk=>by omega),λ_=>⟨_,hwk,a,k,c,l,rfl,HT.out,TB,ho.mono (by omega)⟩⟩)
   (λn' W j x hR=>by
    obtain⟨a,k,c,l,h1,h2,h3,h4⟩:=hR;exact⟨a,k,c,l,h1,h2,(IB _ _ _ _ (by simp only;omega)).trans h3,Ik h4 (by simp only;omega) _⟩)
   (λ_ hk=>by omega)
 have HNM:Hid (∀nd:Nd,nd=n->nd.name=n.name):=λ_ h=>by rw[h]
 generalize Kc:n.e=ne at *;clear Kc;have HN:Hid (∃n0,n0=n):=⟨_,rfl⟩;obtain⟨N,hN⟩:∃N,N=n:=⟨_,rfl⟩;rw[<- hN] at xO ⊢;have sq:Hid (N.name=n.name):=by rw[hN];rfl
 obtain⟨nm,ct,ms,rs,sv,gw,⟨px,py,pz,ph,pq⟩,wh⟩:=n;obtain⟨⟨em,cm,rfl,_,_⟩,⟨wR,cr,rfl,_,_⟩,⟨es,wS,rfl,_,_⟩,⟨wT,cg,rfl,_,_⟩,⟨eh,ch,rfl,_,_⟩,_,_⟩:=h;have hA:fD N (U em ms.length cm) (U wR rs.length cr) (U es sv.length wS) (U wT gw.length cg) (U eh wh.length ch)=#[I nm,I ct,U em ms.length cm,U wR rs.length cr,U es sv.length wS,U wT gw.length cg,O J px,O J py,O J pz,O J ph,O J pq,U eh wh.length ch]:=by rw[hN]
 simp only[hA] at xO ⊢;clear hA hN HN HNM;simp only at sq;generalize ms.length=km at *;generalize rs.length=kr at *;generalize sv.length=ks at *;generalize gw.length=kg at *;generalize wh.length=kh at *;obtain⟨W0,dK,df,nP,Mh,bW,hy0,ht0⟩:=abp w #[I nm,I ct,U em km cm,U wR kr cr,U es ks wS,U wT kg cg,O J px,O J py,O J pz,O J ph,O J pq,U eh kh ch] #[I ⟨#[]⟩,I ⟨#[]⟩,U Y 0 0,U Y 0 0,U Y 0 0,U Y 0 0,O J 0,O J 0,O J 0,O J 0,O J 0,U Y 0 0] #[I ⟨#[]⟩,AI false,U Y 0 0,U Y 0 0,U Y 0 0,U Y 0 0] #[I ⟨#[]⟩,AI false,U Y 0 0,U Y 0 0,U Y 0 0,U Y 0 0] 30 30 57 57;have FH:=xO.out W0 df nP ht0;have dy:Hid _:=df;have xJ:Hid _:=bW;have HY0:Hid _:=hy0;have HT0:Hid _:=ht0;clear df bW hy0 ht0 Mh xO;go_enter Tryz.func21,Tryz.ntmps21;go_wp2_with fail;rw[<- dK];refine FH.mono ?_;rintro e w1 ⟨tm,zL⟩;have gI:w.heap.size+4<=w1.heap.size:=by have:=tm.size;omega
 have aR:Hid _:=dy.out.trans (tm.below (by omega) (λk hk=>by omega));have Mi:Hid _:=(tm.block _ (by omega) (by omega)).trans xJ.out;have HY1:Hid _:=(tm.block _ (by omega) (by omega)).trans HY0.out;clear tm FH dK;obtain⟨u0,u1,b2,m2,e2,b3,m3,e3,b4,m4,e4,b5,m5,e5,u6,u7,u8,u9,u10,b11,m11,e11,r,s0,ta,tk,tc,rfl,SK,PU⟩:∃u0 u1 b2 m2 e2 b3 m3 e3 b4 m4 e4 b5 m5 e5 u6 u7 u8 u9 u10 b11 m11 e11 r s0 ta tk tc,e=sh (Il #[Im #[I u0,I u1,U b2 m2 e2,U b3 m3 e3,U b4 m4 e4,U b5 m5 e5,O J u6,O J u7,O J u8,O J u9,O J u10,U b11 m11 e11],O J r])/\Hid (w1.heap[w.heap.size+3]?=Z (AT #[I s0,AI false,U ta tk tc,U Y 0 0,U Y 0 0,U Y 0 0] 57 (0,0)))/\Hid (∀WF:World,Below w.heap.size w WF->(∀{base n k:Nat} {T:Jc} {v:Value} {xs:List Value},w.heap.size+1+1<base->w1.ownsRow base T k v n xs->WF.ownsRow base T k v n xs)->mM N ne w (sh (Il #[Im #[I u0,I u1,U b2 m2 e2,U b3 m3 e3,U b4 m4 e4,U b5 m5 e5,O J u6,O J u7,O J u8,O J u9,O J u10,U b11 m11 e11],Im #[I s0,AI false,U ta tk tc,U Y 0 0,U Y 0 0,U Y 0 0],O J r])) WF):=by
  rcases zL with⟨bu,rE,rfl⟩|⟨_,BF,_⟩|⟨bu,_,n',um,ur,us,ug,uw,rfl,hown,kM,ta,tk,tc,l,hn',hT,TB,hol⟩
  .exact⟨_,_,_,_,_,_,_,_,_,_,_,_,_,_,_,_,_,_,_,_,_,_,_,_,_,_,_,rfl,(rE.block _ (by omega)).trans HT0.out,λWF hb _=>⟨hb,.inl ⟨bu,rfl⟩⟩⟩
  .exact absurd rfl BF
  .have hf:∀WF:World,(∀{base n k:Nat} {T:Jc} {v:Value} {xs:List Value},w.heap.size+1+1<base->w1.ownsRow base T k v n xs->WF.ownsRow base T k v n xs)->gK w.heap.size WF n' um ur us ug uw/\Own w.heap.size WF (U ta tk tc) l:=λWF how=>⟨⟨Own.mono (how (by omega) hown.ms) (by omega),cd.base (how (by omega) hown.rs) (by omega),Sv.Own.mono (how (by omega) hown.sv) (by omega),Gw.Own.mono (how (by omega) hown.gw) (by omega),Wh.Own.mono (how (by omega) hown.wh) (by omega)⟩,Own.mono (how (by omega) hol) (by omega)⟩
   obtain⟨im2,jm2,sG,_⟩:=az hown.ms;obtain⟨ir2,jr2,zh,_⟩:=az hown.rs;obtain⟨is2,js2,BE,_⟩:=az hown.sv;obtain⟨ig2,jg2,Ec,_⟩:=az hown.gw;obtain⟨ih2,jh2,Ed,_⟩:=az hown.wh;subst sG zh BE Ec Ed;exact⟨_,_,_,_,_,_,_,_,_,_,_,_,_,_,_,_,_,_,_,_,_,_,_,_,ta,tk,tc,rfl,TB,λWF hb how=>⟨hb,.inr ⟨bu,n',_,_,_,_,_,ta,tk,tc,l,rfl,hn',hT,(hf WF how).1,kM,(hf WF how).2⟩⟩⟩
 clear zL;obtain⟨W5,pL,lA,-,Df⟩:=cR w1 #[I u0,I u1,U b2 m2 e2,U b3 m3 e3,U b4 m4 e4,U b5 m5 e5,O J u6,O J u7,O J u8,O J u9,O J u10,U b11 m11 e11] 30;have gG:=(lA.block _ (by omega)).trans Mi.out;have hy5:=(lA.block _ (by omega)).trans HY1.out;have ht5:=(lA.block _ (by omega)).trans SK.out;have WI:w1.heap.size<W5.heap.size:=by rw[pL];simp
 have jE:Hid _:=aR.out.trans (lA.mono aR.out.size);have Vm:Hid _:=gG;have HY5:Hid _:=hy5;have ad5:Hid _:=lA;obtain⟨p0,p1,p2,p3,p4,p5,p6,p7,p8,p9,p10,p11⟩:=bM Df;obtain⟨q0,q1,q2,q3,q4,q5,q6,q7,q8,q9,q10,q11⟩:=bM gG;obtain⟨FB,Eb,FC,FD,FE,FF,VB,VC,VD,VE,zt,zu⟩:=mK gG;obtain⟨r0,r1,r2,r3,r4,r5⟩:=gV hy5;obtain⟨rz0,rz1,rz2,rz3,rz4,rz5⟩:=PM hy5;obtain⟨t0,t1,t2,t3,t4,t5⟩:=gV ht5;clear lA Df gG hy5 ht5;have ne1:w.heap.size+1≠w1.heap.size:=by omega
 have ne2:w.heap.size+2≠w1.heap.size:=by omega
 have ne3:w.heap.size+1≠w.heap.size+3:=by omega
 have ne4:w.heap.size+2≠w.heap.size+3:=by omega
 go_upto_region 3 with fail
 rw[<- pL];clear pL;go_region_held3 (λw'=>w'.cell? ⟨w1.heap.size,0,Y⟩=Z (I u0)/\w'.cell? ⟨w1.heap.size,1,Y⟩=Z (I u1)/\w'.cell? ⟨w1.heap.size,2,Y⟩=Z (U b2 m2 e2)/\w'.cell? ⟨w1.heap.size,3,Y⟩=Z (U b3 m3 e3)/\w'.cell? ⟨w1.heap.size,4,Y⟩=Z (U b4 m4 e4)/\w'.cell? ⟨w1.heap.size,5,Y⟩=Z (U b5 m5 e5)/\w'.cell? ⟨w1.heap.size,6,Y⟩=Z (O J u6)/\w'.cell? ⟨w1.heap.size,7,Y⟩=Z (O J u7)/\w'.cell? ⟨w1.heap.size,8,Y⟩=Z (O J u8)/\w'.cell? ⟨w1.heap.size,9,Y⟩=Z (O J u9)/\w'.cell? ⟨w1.heap.size,10,Y⟩=Z (O J u10)/\w'.cell? ⟨w1.heap.size,11,Y⟩=Z (U b11 m11 e11)/\w'.cell? ⟨w.heap.size+3,0,Y⟩=Z (I s0)/\w'.cell? ⟨w.heap.size+3,1,Y⟩=Z (AI false)/\w'.cell? ⟨w.heap.size+3,2,Y⟩=Z (U ta tk tc)/\w'.cell? ⟨w.heap.size+3,3,Y⟩=Z (U Y 0 0)/\w'.cell? ⟨w.heap.size+3,4,Y⟩=Z (U Y 0 0)/\w'.cell? ⟨w.heap.size+3,5,Y⟩=Z (U Y 0 0)) (simp only[World.cell?_setCell_far,World.cell?_drew,ne_eq,ne1,ne2,ne3,ne4,not_false_eq_true,p0,p1,p2,p3,p4,p5,p6,p7,p8,p9,p10,p11,t0,t1,t2,t3,t4,t5,and_self]) (fail)
 all_goals go_wp2_with fail
 all_goals
  clear q0 FB q1 Eb q2 FC q3 FD q4 FE q5 FF q6 VB q7 VC q8 VD q9 VE q10 zt q11 zu r0 rz0 r1 rz1 r2 rz2 r3 rz3 r4 rz4 r5 rz5 p0 p1 p2 p3 p4 p5 p6 p7 p8 p9 p10 p11 t0 t1 t2 t3 t4 t5;first
  |(obtain⟨WF,hWG⟩:∃WF,WF=World.drew ((((((((((((((((((W5.setCell ⟨w.heap.size+1,0,Y⟩ (I u0)).setCell ⟨w.heap.size+1,1,Y⟩ (I u1)).setCell ⟨w.heap.size+1,2,Y⟩ (U b2 m2 e2)).setCell ⟨w.heap.size+1,3,Y⟩ (U b3 m3 e3)).setCell ⟨w.heap.size+1,4,Y⟩ (U b4 m4 e4)).setCell ⟨w.heap.size+1,5,Y⟩ (U b5 m5 e5)).setCell ⟨w.heap.size+1,6,Y⟩ (O J u6)).setCell ⟨w.heap.size+1,7,Y⟩ (O J u7)).setCell ⟨w.heap.size+1,8,Y⟩ (O J u8)).setCell ⟨w.heap.size+1,9,Y⟩ (O J u9)).setCell ⟨w.heap.size+1,10,Y⟩ (O J u10)).setCell ⟨w.heap.size+1,11,Y⟩ (U b11 m11 e11)).setCell ⟨w.heap.size+1+1,0,Y⟩ (I s0)).setCell ⟨w.heap.size+1+1,1,Y⟩ (AI false)).setCell ⟨w.heap.size+1+1,2,Y⟩ (U ta tk tc)).setCell ⟨w.heap.size+1+1,3,Y⟩ (U Y 0 0)).setCell ⟨w.heap.size+1+1,4,Y⟩ (U Y 0 0)).setCell ⟨w.heap.size+1+1,5,Y⟩ (U Y 0 0)):=⟨_,rfl⟩
    rw[<- hWG];have Ro:WF=World.drew (bU (w.heap.size+1+1) [I s0,AI false,U ta tk tc,U Y 0 0,U Y 0 0,U Y 0 0] 0 (bU (w.heap.size+1) [I u0,I u1,U b2 m2 e2,U b3 m3 e3,U b4 m4 e4,U b5 m5 e5,O J u6,O J u7,O J u8,O J u9,O J u10,U b11 m11 e11] 0 W5)):=by rw[hWG];simp only[bU,IM,OV]
    clear hWG;have hz:WF.heap[w.heap.size+1]?=Z (AT #[I u0,I u1,U b2 m2 e2,U b3 m3 e3,U b4 m4 e4,U b5 m5 e5,O J u6,O J u7,O J u8,O J u9,O J u10,U b11 m11 e11] 30 (0,0)):=by rw[Ro];rw[nF,dA (by omega)];exact(kI Vm.out _ _ _ _ _ _ _ _ _ _ _ _)
    have hy:WF.heap[w.heap.size+1+1]?=Z (AT #[I s0,AI false,U ta tk tc,U Y 0 0,U Y 0 0,U Y 0 0] 57 (0,0)):=by rw[Ro];rw[nF];exact FG ((dA (by omega) _ _ _).trans HY5.out) _ _ _ _ _ _
    have kX:Hid (Below w.heap.size w WF):=by rw[Ro];exact uO (cz (by omega) _ _ (cz (by omega) _ _ jE.out))
    have DY:Hid (∀{base n k:Nat} {T:Jc} {v:Value} {xs:List Value},w.heap.size+1+1<base->w1.ownsRow base T k v n xs->WF.ownsRow base T k v n xs):=λhbs h=>by rw[Ro];exact xN (bZ (by omega) _ _ (bZ (by omega) _ _ (uN h ad5.out)))
    clear Ro)
  |(obtain⟨WF,hWG⟩:∃WF,WF=World.drew ((((((((((((((((((W5.setCell ⟨w.heap.size+1+1,0,Y⟩ (I s0)).setCell ⟨w.heap.size+1+1,1,Y⟩ (AI false)).setCell ⟨w.heap.size+1+1,2,Y⟩ (U ta tk tc)).setCell ⟨w.heap.size+1+1,3,Y⟩ (U Y 0 0)).setCell ⟨w.heap.size+1+1,4,Y⟩ (U Y 0 0)).setCell ⟨w.heap.size+1+1,5,Y⟩ (U Y 0 0)).setCell ⟨w.heap.size+1,0,Y⟩ (I u0)).setCell ⟨w.heap.size+1,1,Y⟩ (I u1)).setCell ⟨w.heap.size+1,2,Y⟩ (U b2 m2 e2)).setCell ⟨w.heap.size+1,3,Y⟩ (U b3 m3 e3)).setCell ⟨w.heap.size+1,4,Y⟩ (U b4 m4 e4)).setCell ⟨w.heap.size+1,5,Y⟩ (U b5 m5 e5)).setCell ⟨w.heap.size+1,6,Y⟩ (O J u6)).setCell ⟨w.heap.size+1,7,Y⟩ (O J u7)).setCell ⟨w.heap.size+1,8,Y⟩ (O J u8)).setCell ⟨w.heap.size+1,9,Y⟩ (O J u9)).setCell ⟨w.heap.size+1,10,Y⟩ (O J u10)).setCell ⟨w.heap.size+1,11,Y⟩ (U b11 m11 e11)):=⟨_,rfl⟩
    rw[<- hWG];have Ro:WF=World.drew (bU (w.heap.size+1) [I u0,I u1,U b2 m2 e2,U b3 m3 e3,U b4 m4 e4,U b5 m5 e5,O J u6,O J u7,O J u8,O J u9,O J u10,U b11 m11 e11] 0 (bU (w.heap.size+1+1) [I s0,AI false,U ta tk tc,U Y 0 0,U Y 0 0,U Y 0 0] 0 W5)):=by rw[hWG];simp only[bU,IM,OV]
    clear hWG;have hz:WF.heap[w.heap.size+1]?=Z (AT #[I u0,I u1,U b2 m2 e2,U b3 m3 e3,U b4 m4 e4,U b5 m5 e5,O J u6,O J u7,O J u8,O J u9,O J u10,U b11 m11 e11] 30 (0,0)):=by rw[Ro];rw[nF];exact kI ((dA (by omega) _ _ _).trans Vm.out) _ _ _ _ _ _ _ _ _ _ _ _
    have hy:WF.heap[w.heap.size+1+1]?=Z (AT #[I s0,AI false,U ta tk tc,U Y 0 0,U Y 0 0,U Y 0 0] 57 (0,0)):=by rw[Ro];rw[nF,dA (by omega)];exact(FG HY5.out _ _ _ _ _ _)
    have kX:Hid (Below w.heap.size w WF):=by rw[Ro];exact uO (cz (by omega) _ _ (cz (by omega) _ _ jE.out))
    have DY:Hid (∀{base n k:Nat} {T:Jc} {v:Value} {xs:List Value},w.heap.size+1+1<base->w1.ownsRow base T k v n xs->WF.ownsRow base T k v n xs):=λhbs h=>by rw[Ro];exact xN (bZ (by omega) _ _ (bZ (by omega) _ _ (uN h ad5.out)))
    clear Ro)
  obtain⟨q0,q1,q2,q3,q4,q5,q6,q7,q8,q9,q10,q11⟩:=bM hz;obtain⟨r0,r1,r2,r3,r4,r5⟩:=gV hy;exact Ix (v:=Il #[Im #[I u0,I u1,U b2 m2 e2,U b3 m3 e3,U b4 m4 e4,U b5 m5 e5,O J u6,O J u7,O J u8,O J u9,O J u10,U b11 m11 e11],Im #[I s0,AI false,U ta tk tc,U Y 0 0,U Y 0 0,U Y 0 0],O J r]) (by simp[results,Tryz.results21,go_sem,q0,q1,q2,q3,q4,q5,q6,q7,q8,q9,q10,q11,r0,r1,r2,r3,r4,r5]) rfl (PU.out _ kX.out DY.out)
end Go.Proofs.YtfidjlcdlakceaaGreatDoor
