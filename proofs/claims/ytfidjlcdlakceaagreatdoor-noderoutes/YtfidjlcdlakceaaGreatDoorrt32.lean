import Derived.Test.YtfidjlcdlakceaaGreatDoorrt29
import Derived.OneCell
set_option maxHeartbeats 12800000
set_option maxRecDepth 100000
open Go.Value renaming string→I,int→O,slice→U,agg→Ip,bool→AT,pointer→Ig,ownBlock→I2
open Go.IntKind renaming i64→J
open Go renaming maxLen→Ii,TypeId→I8,heap_alloc_new→Ie,info_parts→Jd,wpList_append_own→Ja,ownsRow_setCell_other→IG,MemPlace→OS
open Option renaming none→Y,some→Z,isNone_none→Qf,isNone_some→Qg
open Nat renaming le_refl→By
open Go.Obj renaming cells→AI
open List renaming getD→Io,mem_map→Oo,length_nil→Ou,getElem?_eq_some_iff→I9,range→JS
open Array renaming getElem?_eq_some_iff→Ib
open Go.RowKit.Below renaming refl→Ia,heap_setCell→IH
open Go.Lib renaming run_eql_slice_nil→Js
open Go.Proofs.Tryz renaming prog→be,underlying24→OI,underlying9→Iv
open Go.World renaming cell?_alloc_past→J0,ownsRow_made→Qh,frozen?→Ih
open Go.RowKit renaming ownsRow_setCell_below→Ik
open Go.Joins renaming block_setCell→Is
open Go.DataW renaming trod→OT,trod_struct→OJ,trod_string→JD
namespace Go.Proofs.YtfidjlcdlakceaaGreatDoor
open Go.RowKit
abbrev fB(n:Nd)(vm vr vs vg vw:Value):Array Value:=#[I n.name,I n.ai,vm,vr,vs,vg,O J n.p.x,O J n.p.y,O J n.p.z,O J n.p.h,O J n.p.s,vw]
structure ix(w:World)(n:Nd)(vm vr vs vg vw:Value):Prop where
 ms:Sl w vm n.ms
 rs:kB w vr n.rs
 sv:Sv.Sl w vs n.sv
 gw:Gw.Sl w vg n.gw
 wh:Wh.Sl w vw n.wh
 name:n.name.size<=Ii
 ai:n.ai.size<=Ii
theorem ix.below{w w':World}{n:Nd}{vm vr vs vg vw:Value}(h:ix w n vm vr vs vg vw)(hb:Below w.heap.size w w'):ix w' n vm vr vs vg vw:=⟨h.ms.below hb,h.rs.below hb,h.sv.below hb,h.gw.below hb,h.wh.below hb,h.name,h.ai⟩
theorem tp(w:World):Sl w (U Y 0 0) []:=⟨Y,0,rfl,bN (λm hm=>by simp at hm),.inl rfl⟩
theorem Sv.tp(w:World):Sv.Sl w (U Y 0 0) []:=⟨Y,0,rfl,Sv.bN (λm hm=>by simp at hm),.inl rfl⟩
theorem Gw.tp(w:World):Gw.Sl w (U Y 0 0) []:=⟨Y,0,rfl,Gw.bN (λm hm=>by simp at hm),.inl rfl⟩
theorem LZ{nm:ByteArray}{wh:List Wh.cd}(h:aA nm=true):Pk.e ⟨nm,true,[],[],[],wh⟩=Wh.aM wh:=by
 unfold Pk.e;rw[if_pos (by simp[h])];rfl
theorem FD:Roomy (U Y 0 0):=by unfold Roomy;exact By _
theorem xb(nm:ByteArray)(wh:List Wh.cd)(vw:Value)(W:World)(Ah:Wh.Sl W vw wh)(eX:nm.size<=Ii)(hl:aA nm=true) :
 ij 94 #[Ip #[I nm,AT true,U Y 0 0,U Y 0 0,U Y 0 0,vw]] W (O J (Wh.aM wh)):=by
 have hp:sY W ⟨nm,true,[],[],[],wh⟩ (U Y 0 0) (U Y 0 0) (U Y 0 0) vw:=⟨tp W,Sv.tp W,Gw.tp W,Ah,eX,FD⟩;rw[<- LZ hl];exact sZ ⟨nm,true,[],[],[],wh⟩ (U Y 0 0) (U Y 0 0) (U Y 0 0) vw W hp (.inl rfl)
theorem vI{W:World}{cs:Array Value}{t:I8}{g k:Nat}(hg:g=W.heap.size):((W.alloc (AI cs t)).drew).cell? ⟨g,k,Y⟩=cs[k]?:=by subst hg;exact af (Ie W _) k
theorem ze(a b:ByteArray)(ha:a.size<=Ii)(hb:b.size<=Ii)(g c:Nat)(W:World)(h0:W.cell? ⟨g,0,Y⟩=Z (I a))(h1:W.cell? ⟨g,1,Y⟩=Z (I b)) :
 aT 43 #[U (Z ⟨g,0,Y⟩) 2 c] W λe w'=>e=.returned (AT (aA a&&aA b))/\w'=W:=by
 have h:=mT [a,b] g c W (λj hj=>by
  have:j=0\/j=1:=by simp at hj;omega
  rcases this with rfl|rfl
  .exact h0
  .exact h1) (λj=>by
  match j with
  |0=>exact ha
  |1=>exact hb
  |_+2=>simp[Io]) (by simp)
 rw[show[a,b].all aA=(aA a&&aA b) by simp] at h;exact h
theorem tq(n:Nd)(b:Nat)(vm vr vs vg vw:Value)(w:World)(h:ix w n vm vr vs vg vw)(hg:w.heap[b]?=Z (AI (fB n vm vr vs vg vw) 81 (0,0))) :
 ij 76 #[Ig (Z ⟨b,0,Y⟩)] w (O J n.pE):=by
 obtain⟨nm,ct,ms,rs,sv,gw,⟨px,py,pz,ph,pq⟩,wh⟩:=n;obtain⟨jj,oQ,CU,mA,Ah,eX,Cq⟩:=h;simp only at jj oQ CU mA Ah eX Cq hg;have hb:=(Ib.1 hg).1;have HM:Hid (∀W,Below w.heap.size w W->aT _ _ _ _):=λW hW=>aR ms vm W (jj.below hW);have A7:Hid (∀W,Below w.heap.size w W->aT _ _ _ _):=λW hW=>fu rs vr W (oQ.below hW);have HS:Hid (∀W,Below w.heap.size w W->aT _ _ _ _):=λW hW=>Sv.aR sv vs W (CU.below hW);have HG:Hid (∀W,Below w.heap.size w W->aT _ _ _ _):=λW hW=>Gw.aR gw vg W (mA.below hW);have HP:Hid (∀W,Below w.heap.size w W->aT _ _ _ _):=λW _=>iN ⟨px,py,pz,ph,pq⟩ W;have HX:Hid (∀W,Below w.heap.size w W->W.cell? ⟨b,0,Y⟩=Z (I nm)/\W.cell? ⟨b,1,Y⟩=Z (I ct)/\W.cell? ⟨b,2,Y⟩=Z vm/\W.cell? ⟨b,3,Y⟩=Z vr/\W.cell? ⟨b,4,Y⟩=Z vs/\W.cell? ⟨b,5,Y⟩=Z vg/\W.cell? ⟨b,6,Y⟩=Z (O J px)/\W.cell? ⟨b,7,Y⟩=Z (O J py)/\W.cell? ⟨b,8,Y⟩=Z (O J pz)/\W.cell? ⟨b,9,Y⟩=Z (O J ph)/\W.cell? ⟨b,10,Y⟩=Z (O J pq)/\W.cell? ⟨b,11,Y⟩=Z vw):=λW hW=>
  have mF:=(hW.block _ hb).trans hg
  ⟨af mF 0,af mF 1,af mF 2,af mF 3,af mF 4,af mF 5,af mF 6,af mF 7,af mF 8,af mF 9,af mF 10,af mF 11⟩
 have HE:Nd.pE ⟨nm,ct,ms,rs,sv,gw,⟨px,py,pz,ph,pq⟩,wh⟩=if(aA nm&&aA ct)=true then
  (if aM ms=0 then(if cI rs=0 then(if Sv.aM sv=0 then(if Gw.aM gw=0 then(if bF ⟨px,py,pz,ph,pq⟩=0 then Wh.aM wh else bF ⟨px,py,pz,ph,pq⟩) else Gw.aM gw) else Sv.aM sv) else cI rs) else aM ms) else 1:=by unfold Nd.pE;with_reducible rfl
 have HL:Hid (∀(W:World) (g:Nat),W.cell? ⟨g,0,Y⟩=Z (I nm)->W.cell? ⟨g,1,Y⟩=Z (I ct)->aT _ _ _ _):=λW g h0 h1=>ze nm ct eX Cq g 2 W h0 h1;have HW:Hid (aA nm=true->∀W,Below w.heap.size w W->ij 94 #[Ip #[I nm,AT true,U Y 0 0,U Y 0 0,U Y 0 0,vw]] W (O J (Wh.aM wh))):=λhl W hW=>xb nm wh vw W (Ah.below hW) eX hl;have Sj:Hid ((aA nm&&aA ct)=true->aA nm=true):=λh=>by rw[Bool.and_eq_true] at h;exact h.1
 generalize(aA nm&&aA ct)=lb at *;generalize Nd.pE ⟨nm,ct,ms,rs,sv,gw,⟨px,py,pz,ph,pq⟩,wh⟩=res at *;generalize aM ms=m1 at *;generalize cI rs=r1 at *;generalize Sv.aM sv=s1 at *;generalize Gw.aM gw=g1 at *;generalize bF ⟨px,py,pz,ph,pq⟩=p1 at *;generalize Wh.aM wh=wz at *;obtain⟨a5,c5,rfl,_,_⟩:=Ah;generalize wh.length=n5 at *;clear jj oQ CU mA;obtain⟨y0,y1,y2,y3,y4,y5,y6,y7,y8,y9,y10,y11⟩:=HX.out w (Ia _ _);clear hg;go_enter Tryz.func76,Tryz.ntmps76;go_wp2_with fail;go_region_held3 (λw'=>w'.cell? ⟨b,0,Y⟩=Z (I nm)/\w'.cell? ⟨b,1,Y⟩=Z (I ct)) (go_keep) (first|(go_at_call 43;refine(HL.out _ _ (vI rfl) (vI rfl)).mono ?_;rintro e w' ⟨rfl,rfl⟩))
 obtain⟨W0,eu⟩:∃W0,W0=(w.alloc (AI #[I nm,I ct] 9)).drew:=⟨_,rfl⟩;have dB:Hid (Below w.heap.size w W0):=by rw[eu];exact((Ia _ _).alloc (By _) _).drew
 rw[<- eu];clear eu HL y0 y1 y2 y3 y4 y5 y6 y7 y8 y9 y10 y11;obtain⟨y0,y1,y2,y3,y4,y5,y6,y7,y8,y9,y10,y11⟩:=HX.out W0 dB.out;cases lb
 .rw[if_neg (by simp)] at HE
  have HR:Hid _:=HE;clear HE;go_wp2_with fail;go_ret;exact⟨aj HR.out.symm,dB.out⟩
 rw[if_pos rfl] at HE;have HW:Hid (∀W,Below w.heap.size w W->aT _ _ _ _):=HW.out (Sj.out rfl);go_wp2_with fail;refine(HM.out _ dB.out).mono ?_;rintro e w1 ⟨rfl,an⟩;have aK:Hid _:=dB.out.trans (an.mono dB.out.size);clear an y0 y1 y2 y3 y4 y5 y6 y7 y8 y9 y10 y11;obtain⟨y0,y1,y2,y3,y4,y5,y6,y7,y8,y9,y10,y11⟩:=HX.out w1 aK.out;by_cases mW:m1=0
 .rw[if_pos mW] at HE
  subst mW;go_wp2_with fail;refine(A7.out _ aK.out).mono ?_;rintro e w2 ⟨rfl,aD⟩;have bD:Hid _:=aK.out.trans (aD.mono aK.out.size);clear aD y0 y1 y2 y3 y4 y5 y6 y7 y8 y9 y10 y11;obtain⟨y0,y1,y2,y3,y4,y5,y6,y7,y8,y9,y10,y11⟩:=HX.out w2 bD.out;by_cases kF:r1=0
  .rw[if_pos kF] at HE
   subst kF;go_wp2_with fail;refine(HS.out _ bD.out).mono ?_;rintro e w3 ⟨rfl,bn⟩;have cT:Hid _:=bD.out.trans (bn.mono bD.out.size);clear bn y0 y1 y2 y3 y4 y5 y6 y7 y8 y9 y10 y11;obtain⟨y0,y1,y2,y3,y4,y5,y6,y7,y8,y9,y10,y11⟩:=HX.out w3 cT.out;by_cases gi:s1=0
   .rw[if_pos gi] at HE
    subst gi;go_wp2_with fail;refine(HG.out _ cT.out).mono ?_;rintro e w4 ⟨rfl,e9⟩;have fb:Hid _:=cT.out.trans (e9.mono cT.out.size);clear e9 y0 y1 y2 y3 y4 y5 y6 y7 y8 y9 y10 y11;obtain⟨y0,y1,y2,y3,y4,y5,y6,y7,y8,y9,y10,y11⟩:=HX.out w4 fb.out;by_cases bf:g1=0
    .rw[if_pos bf] at HE
     subst bf;go_wp2_with fail;refine(HP.out _ fb.out).mono ?_;rintro e w5 ⟨rfl,jI⟩;have ia:Hid _:=fb.out.trans (jI.mono fb.out.size);clear jI y0 y1 y2 y3 y4 y5 y6 y7 y8 y9 y10 y11;obtain⟨y0,y1,y2,y3,y4,y5,y6,y7,y8,y9,y10,y11⟩:=HX.out w5 ia.out;by_cases hZ:p1=0
     .rw[if_pos hZ] at HE
      subst hZ;go_wp2_with fail;go_region_held3 (λw'=>w'.cell? ⟨b,0,Y⟩=Z (I nm)/\w'.cell? ⟨b,11,Y⟩=Z (U a5 n5 c5)) (first|assumption|go_keep) (first|(go_at_call 94;refine(HW.out _ ia.out.drew).mono ?_;rintro e w9 ⟨rfl,tY⟩;have rI:Hid (Below w.heap.size w w9):=ia.out.drew.trans (tY.mono ia.out.size);have hS:w9.cell? ⟨b,0,Y⟩=Z (I nm)/\w9.cell? ⟨b,11,Y⟩=Z (U a5 n5 c5):=⟨(HX.out w9 rI.out).1,(HX.out w9 rI.out).2.2.2.2.2.2.2.2.2.2.2⟩))
      go_wp2_with fail;go_ret;exact⟨aj HE.symm,rI.out⟩
     .have aga:(p1 !=0)=true:=by simpa using hZ
      rw[if_neg hZ] at HE;have HR:Hid _:=HE;clear hZ HE;go_wp2_with fail;go_ret;exact⟨aj HR.out.symm,ia.out⟩
    .have agb:(g1 !=0)=true:=by simpa using bf
     rw[if_neg bf] at HE;have HR:Hid _:=HE;clear bf HE;go_wp2_with fail;go_ret;exact⟨aj HR.out.symm,fb.out⟩
   .have TH:(s1 !=0)=true:=by simpa using gi
    rw[if_neg gi] at HE;have HR:Hid _:=HE;clear gi HE;go_wp2_with fail;go_ret;exact⟨aj HR.out.symm,cT.out⟩
  .have agc:(r1 !=0)=true:=by simpa using kF
   rw[if_neg kF] at HE;have HR:Hid _:=HE;clear kF HE;go_wp2_with fail;go_ret;exact⟨aj HR.out.symm,bD.out⟩
 .have agd:(m1 !=0)=true:=by simpa using mW
  rw[if_neg mW] at HE;have HR:Hid _:=HE;clear mW HE;go_wp2_with fail;go_ret;exact⟨aj HR.out.symm,aK.out⟩
theorem V0{a b:Mem}(ha:a.e=0)(hb:b.e=0)(hn:a.name=b.name):fX a b=0:=by
 unfold fX;have h:aY [a] [b]=0:=by
  unfold aY;rw[iI,iI,if_pos ha,hb]
 rw[if_pos h,if_pos hn]
theorem pP{ms:List Mem}(h:aM ms=0):∀m∈ms,m.e=0:=by
 obtain⟨_,_,h3⟩:=aI h;exact dw ms h3
theorem jo{rs:List bu}(h:cI rs=0):rs.length<=20/\(∀r∈rs,r.m.e=0)/\fo rs/\dS rs:=by
 unfold cI at h;split at h
 .cases h
 .rename_i hn
  split at h
  .rename_i h1
   split at h
   .rename_i h2
    split at h
    .rename_i h3
     refine⟨by omega,λr hr=>?_,h2,h3⟩;exact dw _ h1 r.m (Oo.2 ⟨r,hr,rfl⟩)
    .cases h
   .cases h
  .rename_i h1;exact absurd h h1
theorem FE{ms:List Mem}{r:bu}(h:aM ms=0)(hr:r.m.e=0):dd ms r=fN ms r:=by
 unfold dd fN;rcases hf:cM ms r.m.name with _|k
 .rfl
 .have hk:=od hf
  simp only;rw[V0 hr (pP h k hk.1) hk.2.symm];simp
theorem FF{ms:List Mem}{rs:List bu}(h:aM ms=0)(hr:cI rs=0):rs.any (dd ms)=rs.any (fN ms):=by
 have h2:=(jo hr).2.1;clear hr;induction rs with
 |nil=>rfl
 |cons r l ih=>
  rw[List.any_cons,List.any_cons,FE h (h2 r (by simp)),ih (λx hx=>h2 x (by simp[hx]))]
theorem tr(n:Nd)(b:Nat)(vm vr vs vg vw:Value)(w:World)(h:ix w n vm vr vs vg vw)(hg:w.heap[b]?=Z (AI (fB n vm vr vs vg vw) 81 (0,0)))(hp:n.pE=0) :
 ij 77 #[Ig (Z ⟨b,0,Y⟩)] w (O J n.wE):=by
 have V1:Hid n.Sq:=Nd.parts hp;have hb:b<w.heap.size:=(Ib.1 hg).1;have nI:n.ms.length<=20:=(aI V1.out.ms).1;have hrl:n.rs.length<=20:=(jo V1.out.rs).1;have HWE:Hid (n.wE=match cM n.ms n.name with
  |none=>5
  |some m=>if m.state=2\/m.state=3 then 4 else if n.rs.any (dd n.ms)=true then 4 else 0):=by
  show n.wE=_;rw[FF V1.out.ms V1.out.rs];rfl
 obtain⟨nm,ct,ms,rs,sv,gw,⟨px,py,pz,ph,pq⟩,wh⟩:=n;obtain⟨jj,oQ,_,_,_,_,_⟩:=h;simp only at jj oQ hg nI hrl HWE;generalize Nd.wE ⟨nm,ct,ms,rs,sv,gw,⟨px,py,pz,ph,pq⟩,wh⟩=res at *;obtain⟨am,cm,rfl,L0,L1⟩:=jj;have jj:Sl w (U am ms.length cm) ms:=⟨am,cm,rfl,L0,L1⟩;clear L0 L1;have HX:Hid (∀W,Below w.heap.size w W->W.cell? ⟨b,0,Y⟩=Z (I nm)/\W.cell? ⟨b,2,Y⟩=Z (U am ms.length cm)/\W.cell? ⟨b,3,Y⟩=Z vr):=λW hW=>
  have mF:=(hW.block _ hb).trans hg
  ⟨af mF 0,af mF 2,af mF 3⟩
 have PY:Hid (∀(W:World) (t:ByteArray),Below w.heap.size w W->ij 104 #[Ig (Z ⟨b,0,Y⟩),I t] W (.tuple #[Ip #[I (dZ ms t).name,O J (dZ ms t).state,O J (dZ ms t).aP,O J (dZ ms t).addr,AT (dZ ms t).server],AT (cM ms t).isSome])):=λW t hW=>
  jk b am ms.length cm ms t W (HX.out W hW).2.1 (jj.below hW) (by omega)
 have HCF:Hid (∀W,Below w.heap.size w W->ij 132 #[vr,.func (.func 133) #[Ig (Z ⟨b,0,Y⟩)] #[]] W (AT (rs.any (dd ms)))):=λW hW=>
  wW b am ms.length cm ms rs vr W (oQ.below hW) (HX.out W hW).2.1 (jj.below hW) (by omega) (by omega)
 clear jj oQ;generalize rs.any (dd ms)=ab at *;obtain⟨y0,y2,y3⟩:=HX.out w (Ia _ _);clear hg;go_enter Tryz.func77,Tryz.ntmps77;go_wp2_with fail;refine(PY.out _ nm (Ia _ _)).mono ?_;rintro e w1 ⟨rfl,an⟩;have aK:Hid _:=an;clear an y0 y2 y3;rcases hf:cM ms nm with _|m
 .have HR:Hid _:=HWE.out.trans (by rw[hf])
  have D0:=th hf;rw[D0];clear hf D0;go_wp2_with fail;go_ret;exact⟨aj HR.out.symm,aK.out.alloc aK.out.size _⟩
 .have HR:Hid _:=HWE.out.trans (by rw[hf])
  have D0:=jT hf;rw[D0];clear hf D0;obtain⟨mn,st,lf,ad,SO⟩:=m;simp only at HR;by_cases h2:st=2
  .subst h2
   have j8:Hid (res=4):=HR.out.trans (by simp);go_wp2_with fail;go_ret;exact⟨aj j8.out.symm,aK.out.alloc aK.out.size _⟩
  .by_cases h3:st=3
   .subst h3
    have j8:Hid (res=4):=HR.out.trans (by simp);go_wp2_with fail;go_ret;exact⟨aj j8.out.symm,aK.out.alloc aK.out.size _⟩
   .have j8:Hid _:=HR.out.trans (if_neg (by omega))
    have vB:(st==2)=false:=by simpa using h2
    have Vc:(st==3)=false:=by simpa using h3
    clear h2 h3 HR;obtain⟨W2,eW⟩:∃W2,W2=w1.alloc (AI #[I mn,O J st,O J lf,O J ad,AT SO] 70):=⟨_,rfl⟩;have bD:Hid (Below w.heap.size w W2):=by rw[eW];exact aK.out.alloc aK.out.size _
    obtain⟨y0,y2,y3⟩:=HX.out W2 bD.out;rw[eW] at y0 y2 y3;go_wp2_with fail;rw[<- eW];refine(HCF.out _ bD.out).mono ?_;rintro e w3 ⟨rfl,bn⟩;have cT:Hid _:=bD.out.trans (bn.mono bD.out.size);clear bn y0 y2 y3 eW;cases ab
    .go_wp2_with fail
     go_ret;exact⟨aj j8.out.symm,cT.out⟩
    .go_wp2_with fail
     go_ret;exact⟨aj j8.out.symm,cT.out⟩
theorem nB(n:Nd)(vm vr vs vg vw:Value)(w:World)(h:ix w n vm vr vs vg vw) :
 ij 30 #[Ip (fB n vm vr vs vg vw)] w (O J n.e):=by
 have HI:Hid _:=h;have HE:Hid (n.e=if n.pE=0 then n.wE else n.pE):=rfl;obtain⟨W,hW⟩:∃W,W=(w.alloc (AI (fB n vm vr vs vg vw) 30)).alloc (AI (fB n vm vr vs vg vw) 81):=⟨_,rfl⟩;have eG:Below w.heap.size w W:=by rw[hW];exact((Ia _ _).alloc (By _) _).alloc (by simp) _
 have hg:W.heap[w.heap.size+1]?=Z (AI (fB n vm vr vs vg vw) 81 (0,0)):=by
  have h:=Ie (w.alloc (AI (fB n vm vr vs vg vw) 30)) (AI (fB n vm vr vs vg vw) 81);rw[hW];simpa using h
 have pY:W.heap.size=w.heap.size+2:=by rw[hW];simp
 have uv:Hid _:=eG;have HC:Hid (aT _ _ _ _):=tq n (w.heap.size+1) vm vr vs vg vw W (h.below eG) hg;have HD:Hid (n.pE=0->∀W1,Below W.heap.size W W1->ij 77 #[Ig (Z ⟨w.heap.size+1,0,Y⟩)] W1 (O J n.wE)):=λhp W1 h1=>
  tr n (w.heap.size+1) vm vr vs vg vw W1 ((h.below eG).below h1) ((h1.block _ (by omega)).trans hg) hp
 obtain⟨nm,ct,ms,rs,sv,gw,⟨px,py,pz,ph,pq⟩,wh⟩:=n;obtain⟨⟨am,cm,rfl,_,_⟩,⟨ar,cr,rfl,_,_⟩,⟨aq,cq,rfl,_,_⟩,⟨ag,cg,rfl,_,_⟩,⟨aw,cw,rfl,_,_⟩,_,_⟩:=h;generalize Nd.e ⟨nm,ct,ms,rs,sv,gw,⟨px,py,pz,ph,pq⟩,wh⟩=res at *;generalize Nd.pE ⟨nm,ct,ms,rs,sv,gw,⟨px,py,pz,ph,pq⟩,wh⟩=pe at *;generalize Nd.wE ⟨nm,ct,ms,rs,sv,gw,⟨px,py,pz,ph,pq⟩,wh⟩=we at *;simp only[fB] at hW ⊢;clear hg eG;generalize ms.length=L3 at *;generalize rs.length=PZ at *;generalize sv.length=nsv at *;generalize gw.length=ngw at *;generalize wh.length=nwh at *;go_enter Tryz.func30,Tryz.ntmps30;go_wp2_with fail;rw[<- hW];refine HC.out.mono ?_;rintro e w1 ⟨rfl,an⟩;have aK:Hid _:=an;have ow:Hid _:=uv.out.trans (an.mono (by omega));clear an;by_cases hp:pe=0
 .have kP:=HD.out hp w1 aK.out
  have HR:Hid _:=HE.out.trans (if_pos hp);subst hp;clear HD HE;go_wp2_with fail;refine kP.mono ?_;rintro e w2 ⟨rfl,aD⟩;have Bt:Hid _:=ow.out.trans (aD.mono ow.out.size);clear aD;go_wp2_with fail;go_ret;exact⟨aj HR.out.symm,Bt.out⟩
 .have hp':(pe !=0)=true:=by simpa using hp
  have HR:Hid _:=HE.out.trans (if_neg hp);clear hp HD HE;go_wp2_with fail;go_ret;exact⟨aj HR.out.symm,ow.out⟩
end Go.Proofs.YtfidjlcdlakceaaGreatDoor
namespace Go.Proofs.YtfidjlcdlakceaaGreatDoor
namespace Sv
open Go.RowKit
theorem fD(ms:List ba)(v:Value)(w:World)(h:Sl w v ms)(hn:ms.length<=1000) :
 aT 91 #[v] w λe w'=>∃v',e=.returned v'/\Own w.heap.size w' v' ms/\Below w.heap.size w w':=by
 obtain⟨a,cap,rfl,hs,h⟩:=h;obtain⟨i0,eP,cE,gn,ga⟩:=Jd Tryz.Le;cases a with
 |none=>
  have he:ms=[]:=by
   rcases h with h|⟨b,off,h,_⟩
   .exact h
   .cases h
  subst he;clear h hs;have gY:=λ(w:World)=>Js (P:=be) w 24 52 Y 0 cap 0 0 OI;simp only[Ou,Qf] at gY ⊢;go_enter Tryz.func91,Tryz.ntmps91;go_wp2_with fail;go_ret;exact⟨_,rfl,bz _ _,Ia _ _⟩
 |some a=>
  have gY:=λ(w:World)=>Js (P:=be) w 24 52 (Z a) ms.length cap 0 0 OI;simp only[Qg] at gY;have hnews:Hid (∀j u,(fl ms)[j]?=Z u->(w.alloc (AI #[] 52)).cell? (a.add j)=Z u):=by
   intro j u hj;rcases h with h|⟨b,off,h,hb,hr⟩
   .subst h;simp[fl] at hj
   .cases h
    have MW:j<ms.length*9:=by rw[<- cS];exact(I9.1 hj).1
    have h1:=eD ms (j/9) (by omega) (j%9) (by omega);rw[show j/9*9+j%9=j by omega,hj] at h1;rw[Addr.add_lit,J0 (w:=w) _ b _ hb];obtain⟨c0,c1,c2,c3,c4,c5,c6,c7,c8⟩:=hr (j/9) (by omega);have cJ:j%9=0\/j%9=1\/j%9=2\/j%9=3\/j%9=4\/j%9=5\/j%9=6\/j%9=7\/j%9=8:=by omega
    rcases cJ with e|e|e|e|e|e|e|e|e
    .rw[show off+j=off+j/9*9 by omega,c0];rw[e] at h1;simpa[ba.cs] using h1.symm
    .rw[show off+j=off+j/9*9+1 by omega,c1];rw[e] at h1;simpa[ba.cs] using h1.symm
    .rw[show off+j=off+j/9*9+2 by omega,c2];rw[e] at h1;simpa[ba.cs] using h1.symm
    .rw[show off+j=off+j/9*9+3 by omega,c3];rw[e] at h1;simpa[ba.cs] using h1.symm
    .rw[show off+j=off+j/9*9+4 by omega,c4];rw[e] at h1;simpa[ba.cs] using h1.symm
    .rw[show off+j=off+j/9*9+5 by omega,c5];rw[e] at h1;simpa[ba.cs] using h1.symm
    .rw[show off+j=off+j/9*9+6 by omega,c6];rw[e] at h1;simpa[ba.cs] using h1.symm
    .rw[show off+j=off+j/9*9+7 by omega,c7];rw[e] at h1;simpa[ba.cs] using h1.symm
    .rw[show off+j=off+j/9*9+8 by omega,c8];rw[e] at h1;simpa[ba.cs] using h1.symm
  have HO:Hid ((w.alloc (AI #[] 52)).ownsRow w.heap.size 52 9 (U (Z ⟨w.heap.size,0,Y⟩) 0 0) 0 []):=Qh w #[] 0 (By _) (by unfold Ii;omega) rfl;clear h hs;go_enter Tryz.func91,Tryz.ntmps91;go_wp2_with (at_builtin;refine Ja _ rfl _ _ 24 rfl w.heap.size 52 i0 _ 9 104 OI eP cE gn ga rfl (by omega) _ 0 [] rfl HO.out a ms.length cap (fl ms) rfl (cS ms) hnews.out (fL ms) (by unfold Ii;omega) (by omega) (by simp) ?_);intro v' w' r1 r2 r3;go_wp2_with fail;go_ret;refine⟨v',rfl,?_,?_⟩
  .simpa using r1
  .exact((Ia _ _).alloc (By _) _).grown r2 (by simp) (λk hk=>by simp[I2] at hk;omega)
end Sv
namespace Gw
open Go.RowKit
theorem fD(ms:List cW)(v:Value)(w:World)(h:Sl w v ms)(hn:ms.length<=1000) :
 aT 92 #[v] w λe w'=>∃v',e=.returned v'/\Own w.heap.size w' v' ms/\Below w.heap.size w w':=by
 obtain⟨a,cap,rfl,hs,h⟩:=h;obtain⟨i0,eP,cE,gn,ga⟩:=Jd Tryz.VU;cases a with
 |none=>
  have he:ms=[]:=by
   rcases h with h|⟨b,off,h,_⟩
   .exact h
   .cases h
  subst he;clear h hs;have gY:=λ(w:World)=>Js (P:=be) w 25 49 Y 0 cap 0 0 Tryz.underlying25;simp only[Ou,Qf] at gY ⊢;go_enter Tryz.func92,Tryz.ntmps92;go_wp2_with fail;go_ret;exact⟨_,rfl,bz _ _,Ia _ _⟩
 |some a=>
  have gY:=λ(w:World)=>Js (P:=be) w 25 49 (Z a) ms.length cap 0 0 Tryz.underlying25;simp only[Qg] at gY;have hnews:Hid (∀j u,(fl ms)[j]?=Z u->(w.alloc (AI #[] 49)).cell? (a.add j)=Z u):=by
   intro j u hj;rcases h with h|⟨b,off,h,hb,hr⟩
   .subst h;simp[fl] at hj
   .cases h
    have MW:j<ms.length*3:=by rw[<- cS];exact(I9.1 hj).1
    have h1:=eD ms (j/3) (by omega) (j%3) (by omega);rw[show j/3*3+j%3=j by omega,hj] at h1;rw[Addr.add_lit,J0 (w:=w) _ b _ hb];obtain⟨c0,c1,c2⟩:=hr (j/3) (by omega);have cJ:j%3=0\/j%3=1\/j%3=2:=by omega
    rcases cJ with e|e|e
    .rw[show off+j=off+j/3*3 by omega,c0];rw[e] at h1;simpa[cW.cs] using h1.symm
    .rw[show off+j=off+j/3*3+1 by omega,c1];rw[e] at h1;simpa[cW.cs] using h1.symm
    .rw[show off+j=off+j/3*3+2 by omega,c2];rw[e] at h1;simpa[cW.cs] using h1.symm
  have HO:Hid ((w.alloc (AI #[] 49)).ownsRow w.heap.size 49 3 (U (Z ⟨w.heap.size,0,Y⟩) 0 0) 0 []):=Qh w #[] 0 (By _) (by unfold Ii;omega) rfl;clear h hs;go_enter Tryz.func92,Tryz.ntmps92;go_wp2_with (at_builtin;refine Ja _ rfl _ _ 25 rfl w.heap.size 49 i0 _ 3 32 Tryz.underlying25 eP cE gn ga rfl (by omega) _ 0 [] rfl HO.out a ms.length cap (fl ms) rfl (cS ms) hnews.out (fL ms) (by unfold Ii;omega) (by omega) (by simp) ?_);intro v' w' r1 r2 r3;go_wp2_with fail;go_ret;refine⟨v',rfl,?_,?_⟩
  .simpa using r1
  .exact((Ia _ _).alloc (By _) _).grown r2 (by simp) (λk hk=>by simp[I2] at hk;omega)
end Gw
namespace Wh
open Go.RowKit
theorem fD(ms:List cd)(v:Value)(w:World)(h:Sl w v ms)(hn:ms.length<=1000) :
 aT 93 #[v] w λe w'=>∃v',e=.returned v'/\Own w.heap.size w' v' ms/\Below w.heap.size w w':=by
 obtain⟨a,cap,rfl,hs,h⟩:=h;obtain⟨i0,eP,cE,gn,ga⟩:=Jd Tryz.Ph;cases a with
 |none=>
  have he:ms=[]:=by
   rcases h with h|⟨b,off,h,_⟩
   .exact h
   .cases h
  subst he;clear h hs;have gY:=λ(w:World)=>Js (P:=be) w 28 142 Y 0 cap 0 0 Tryz.underlying28;simp only[Ou,Qf] at gY ⊢;go_enter Tryz.func93,Tryz.ntmps93;go_wp2_with fail;go_ret;exact⟨_,rfl,bz _ _,Ia _ _⟩
 |some a=>
  have gY:=λ(w:World)=>Js (P:=be) w 28 142 (Z a) ms.length cap 0 0 Tryz.underlying28;simp only[Qg] at gY;have hnews:Hid (∀j u,(fl ms)[j]?=Z u->(w.alloc (AI #[] 142)).cell? (a.add j)=Z u):=by
   intro j u hj;rcases h with h|⟨b,off,h,hb,hr⟩
   .subst h;simp[fl] at hj
   .cases h
    have MW:j<ms.length*6:=by rw[<- cS];exact(I9.1 hj).1
    have h1:=eD ms (j/6) (by omega) (j%6) (by omega);rw[show j/6*6+j%6=j by omega,hj] at h1;rw[Addr.add_lit,J0 (w:=w) _ b _ hb];obtain⟨c0,c1,c2,c3,c4,c5⟩:=hr (j/6) (by omega);have cJ:j%6=0\/j%6=1\/j%6=2\/j%6=3\/j%6=4\/j%6=5:=by omega
    rcases cJ with e|e|e|e|e|e
    .rw[show off+j=off+j/6*6 by omega,c0];rw[e] at h1;simpa[cd.cs] using h1.symm
    .rw[show off+j=off+j/6*6+1 by omega,c1];rw[e] at h1;simpa[cd.cs] using h1.symm
    .rw[show off+j=off+j/6*6+2 by omega,c2];rw[e] at h1;simpa[cd.cs] using h1.symm
    .rw[show off+j=off+j/6*6+3 by omega,c3];rw[e] at h1;simpa[cd.cs] using h1.symm
    .rw[show off+j=off+j/6*6+4 by omega,c4];rw[e] at h1;simpa[cd.cs] using h1.symm
    .rw[show off+j=off+j/6*6+5 by omega,c5];rw[e] at h1;simpa[cd.cs] using h1.symm
  have HO:Hid ((w.alloc (AI #[] 142)).ownsRow w.heap.size 142 6 (U (Z ⟨w.heap.size,0,Y⟩) 0 0) 0 []):=Qh w #[] 0 (By _) (by unfold Ii;omega) rfl;clear h hs;go_enter Tryz.func93,Tryz.ntmps93;go_wp2_with (at_builtin;refine Ja _ rfl _ _ 28 rfl w.heap.size 142 i0 _ 6 56 Tryz.underlying28 eP cE gn ga rfl (by omega) _ 0 [] rfl HO.out a ms.length cap (fl ms) rfl (cS ms) hnews.out (fL ms) (by unfold Ii;omega) (by omega) (by simp) ?_);intro v' w' r1 r2 r3;go_wp2_with fail;go_ret;refine⟨v',rfl,?_,?_⟩
  .simpa using r1
  .exact((Ia _ _).alloc (By _) _).grown r2 (by simp) (λk hk=>by simp[I2] at hk;omega)
end Wh
end Go.Proofs.YtfidjlcdlakceaaGreatDoor
namespace Go.Proofs.YtfidjlcdlakceaaGreatDoor
open Go.RowKit
theorem bT{W:World}{b:Nat}{T:I8}{f:Nat×Nat}{c0 c1 c2 c3 c4 c5 c6 c7 c8 c9 c10 c11:Value}(h:W.heap[b]?=Z (AI #[c0,c1,c2,c3,c4,c5,c6,c7,c8,c9,c10,c11] T f)):W.cell? ⟨b,0,Y⟩=Z c0/\W.cell? ⟨b,1,Y⟩=Z c1/\W.cell? ⟨b,2,Y⟩=Z c2/\W.cell? ⟨b,3,Y⟩=Z c3/\W.cell? ⟨b,4,Y⟩=Z c4/\W.cell? ⟨b,5,Y⟩=Z c5/\W.cell? ⟨b,6,Y⟩=Z c6/\W.cell? ⟨b,7,Y⟩=Z c7/\W.cell? ⟨b,8,Y⟩=Z c8/\W.cell? ⟨b,9,Y⟩=Z c9/\W.cell? ⟨b,10,Y⟩=Z c10/\W.cell? ⟨b,11,Y⟩=Z c11:=⟨af h 0,af h 1,af h 2,af h 3,af h 4,af h 5,af h 6,af h 7,af h 8,af h 9,af h 10,af h 11⟩
theorem tt{W:World}{b:Nat}{T:I8}{cs:Array Value}(h:W.heap[b]?=Z (AI cs T (0,0))):W.frozen? ⟨b,0,Y⟩=false/\W.frozen? ⟨b,1,Y⟩=false/\W.frozen? ⟨b,2,Y⟩=false/\W.frozen? ⟨b,3,Y⟩=false/\W.frozen? ⟨b,4,Y⟩=false/\W.frozen? ⟨b,5,Y⟩=false/\W.frozen? ⟨b,6,Y⟩=false/\W.frozen? ⟨b,7,Y⟩=false/\W.frozen? ⟨b,8,Y⟩=false/\W.frozen? ⟨b,9,Y⟩=false/\W.frozen? ⟨b,10,Y⟩=false/\W.frozen? ⟨b,11,Y⟩=false:=by simp[Ih,h]
theorem ko{W:World}{b:Nat}{T:I8}{f:Nat×Nat}{c0 c1 c2 c3 c4 c5:Value}(h:W.heap[b]?=Z (AI #[c0,c1,c2,c3,c4,c5] T f)):W.cell? ⟨b,0,Y⟩=Z c0/\W.cell? ⟨b,1,Y⟩=Z c1/\W.cell? ⟨b,2,Y⟩=Z c2/\W.cell? ⟨b,3,Y⟩=Z c3/\W.cell? ⟨b,4,Y⟩=Z c4/\W.cell? ⟨b,5,Y⟩=Z c5:=⟨af h 0,af h 1,af h 2,af h 3,af h 4,af h 5⟩
theorem L4{W:World}{b:Nat}{T:I8}{cs:Array Value}(h:W.heap[b]?=Z (AI cs T (0,0))):W.frozen? ⟨b,0,Y⟩=false/\W.frozen? ⟨b,1,Y⟩=false/\W.frozen? ⟨b,2,Y⟩=false/\W.frozen? ⟨b,3,Y⟩=false/\W.frozen? ⟨b,4,Y⟩=false/\W.frozen? ⟨b,5,Y⟩=false:=by simp[Ih,h]
theorem xc{W:World}{b:Nat}{T:I8}{f:Nat×Nat}{c0 c1 c2 c3 c4:Value}(h:W.heap[b]?=Z (AI #[c0,c1,c2,c3,c4] T f)):W.cell? ⟨b,0,Y⟩=Z c0/\W.cell? ⟨b,1,Y⟩=Z c1/\W.cell? ⟨b,2,Y⟩=Z c2/\W.cell? ⟨b,3,Y⟩=Z c3/\W.cell? ⟨b,4,Y⟩=Z c4:=⟨af h 0,af h 1,af h 2,af h 3,af h 4⟩
theorem fI{B b:Nat}{a w:World}(h:Below B a w)(hb:B<=b)(x0 x1 x2 x3 x4 x5 x6 x7 x8 x9 x10 x11:Value):Below B a ((((((((((((w.setCell ⟨b,0,Y⟩ x0).setCell ⟨b,1,Y⟩ x1).setCell ⟨b,2,Y⟩ x2).setCell ⟨b,3,Y⟩ x3).setCell ⟨b,4,Y⟩ x4).setCell ⟨b,5,Y⟩ x5).setCell ⟨b,6,Y⟩ x6).setCell ⟨b,7,Y⟩ x7).setCell ⟨b,8,Y⟩ x8).setCell ⟨b,9,Y⟩ x9).setCell ⟨b,10,Y⟩ x10).setCell ⟨b,11,Y⟩ x11):=((((((((((((h).setCell (p:=⟨b,0,Y⟩) hb _).setCell (p:=⟨b,1,Y⟩) hb _).setCell (p:=⟨b,2,Y⟩) hb _).setCell (p:=⟨b,3,Y⟩) hb _).setCell (p:=⟨b,4,Y⟩) hb _).setCell (p:=⟨b,5,Y⟩) hb _).setCell (p:=⟨b,6,Y⟩) hb _).setCell (p:=⟨b,7,Y⟩) hb _).setCell (p:=⟨b,8,Y⟩) hb _).setCell (p:=⟨b,9,Y⟩) hb _).setCell (p:=⟨b,10,Y⟩) hb _).setCell (p:=⟨b,11,Y⟩) hb _
theorem bK{base b n k:Nat}{T:I8}{w:World}{v:Value}{xs:List Value}(h:w.ownsRow base T k v n xs)(hb:b<base)(x0 x1 x2 x3 x4 x5 x6 x7 x8 x9 x10 x11:Value):((((((((((((w.setCell ⟨b,0,Y⟩ x0).setCell ⟨b,1,Y⟩ x1).setCell ⟨b,2,Y⟩ x2).setCell ⟨b,3,Y⟩ x3).setCell ⟨b,4,Y⟩ x4).setCell ⟨b,5,Y⟩ x5).setCell ⟨b,6,Y⟩ x6).setCell ⟨b,7,Y⟩ x7).setCell ⟨b,8,Y⟩ x8).setCell ⟨b,9,Y⟩ x9).setCell ⟨b,10,Y⟩ x10).setCell ⟨b,11,Y⟩ x11).ownsRow base T k v n xs:=Ik (Ik (Ik (Ik (Ik (Ik (Ik (Ik (Ik (Ik (Ik (Ik (h) (a:=⟨b,0,Y⟩) hb _) (a:=⟨b,1,Y⟩) hb _) (a:=⟨b,2,Y⟩) hb _) (a:=⟨b,3,Y⟩) hb _) (a:=⟨b,4,Y⟩) hb _) (a:=⟨b,5,Y⟩) hb _) (a:=⟨b,6,Y⟩) hb _) (a:=⟨b,7,Y⟩) hb _) (a:=⟨b,8,Y⟩) hb _) (a:=⟨b,9,Y⟩) hb _) (a:=⟨b,10,Y⟩) hb _) (a:=⟨b,11,Y⟩) hb _
structure gT(B:Nat)(w:World)(n:Nd)(vm vr vs vg vw:Value):Prop where
 ms:Own B w vm n.ms
 rs:bX B w vr n.rs
 sv:Sv.Own B w vs n.sv
 gw:Gw.Own B w vg n.gw
 wh:Wh.Own B w vw n.wh
theorem ax{base n k:Nat}{T:I8}{w:World}{v:Value}{xs:List Value}(h:w.ownsRow base T k v n xs):∃a c,v=U a n c/\n<=c:=by
 rcases h.2 with⟨h1,h2⟩|⟨g,c,cur,h1,_,_,hn,_⟩
 .subst h2;exact⟨Y,0,h1,By _⟩
 .exact⟨_,c,h1,hn⟩
theorem gT.below{B:Nat}{w w':World}{n:Nd}{vm vr vs vg vw:Value}(h:gT B w n vm vr vs vg vw)(hb:Below w.heap.size w w'):gT B w' n vm vr vs vg vw:=⟨h.ms.below hb,h.rs.below hb,h.sv.below hb,h.gw.below hb,h.wh.below hb⟩
structure ri(n:Nd):Prop where
 ms:∀m∈n.ms,m.name.size<=Ii
 rs:∀r∈n.rs,r.m.name.size<=Ii
 sv:∀m∈n.sv,m.ok
 gw:∀m∈n.gw,m.ok
 wh:∀m∈n.wh,m.ok
 name:n.name.size<=Ii
 ai:n.ai.size<=Ii
theorem ix.ok{w:World}{n:Nd}{vm vr vs vg vw:Value}(h:ix w n vm vr vs vg vw):ri n:=by
 obtain⟨⟨_,_,_,h1,_⟩,⟨_,_,_,h2,_⟩,⟨_,_,_,h3,_⟩,⟨_,_,_,h4,_⟩,⟨_,_,_,h5,_⟩,h6,h7⟩:=h;exact⟨eK h1,PO h2,Sv.eK h3,Gw.eK h4,Wh.eK h5,h6,h7⟩
theorem gT.is{B:Nat}{w:World}{n:Nd}{vm vr vs vg vw:Value}(h:gT B w n vm vr vs vg vw)(hk:ri n):ix w n vm vr vs vg vw:=
 ⟨h.ms.sl (bN hk.ms),h.rs.sl (wV hk.rs),h.sv.sl (Sv.bN hk.sv),h.gw.sl (Gw.bN hk.gw),h.wh.sl (Wh.bN hk.wh),hk.name,hk.ai⟩
theorem vJ(n:Nd)(vm vr vs vg vw:Value)(w:World)(h:ix w n vm vr vs vg vw)(l1:n.ms.length<=1000)(l2:n.rs.length<=1000)(l3:n.sv.length<=1000)(l4:n.gw.length<=1000)(l5:n.wh.length<=1000) :
 aT 48 #[Ip (fB n vm vr vs vg vw)] w λe w'=>∃um ur us ug uw,e=.returned (Ip (fB n um ur us ug uw))/\gT w.heap.size w' n um ur us ug uw/\Below w.heap.size w w':=by
 obtain⟨nm,ct,ms,rs,sv,gw,⟨px,py,pz,ph,pq⟩,wh⟩:=n;obtain⟨hm,hr,hs,mA,hh,_,_⟩:=h;simp only at hm hr hs mA hh l1 l2 l3 l4 l5;have Hm:Hid (∀W,Below w.heap.size w W->aT _ _ _ _):=λW hW=>fD ms vm W (hm.below hW) l1;have Hr:Hid (∀W,Below w.heap.size w W->aT _ _ _ _):=λW hW=>fA rs vr W (hr.below hW) l2;have Hs:Hid (∀W,Below w.heap.size w W->aT _ _ _ _):=λW hW=>Sv.fD sv vs W (hs.below hW) l3;have Hg:Hid (∀W,Below w.heap.size w W->aT _ _ _ _):=λW hW=>Gw.fD gw vg W (mA.below hW) l4;have Hh:Hid (∀W,Below w.heap.size w W->aT _ _ _ _):=λW hW=>Wh.fD wh vw W (hh.below hW) l5;obtain⟨em,cm,rfl,_,_⟩:=hm;obtain⟨er,cr,rfl,_,_⟩:=hr;obtain⟨es,cs,rfl,_,_⟩:=hs;obtain⟨eg,cg,rfl,_,_⟩:=mA;obtain⟨eh,ch,rfl,_,_⟩:=hh;generalize hNm:ms.length=km at *;have HNm:Hid _:=hNm;clear hNm;generalize hNr:rs.length=kr at *;have HNr:Hid _:=hNr;clear hNr;generalize hNs:sv.length=ks at *;have HNs:Hid _:=hNs;clear hNs;generalize hNg:gw.length=kg at *;have HNg:Hid _:=hNg;clear hNg;generalize hNh:wh.length=kh at *;have HNh:Hid _:=hNh;clear hNh;simp only[fB];obtain⟨W0,eu⟩:∃W0,W0=(w.alloc (AI #[I nm,I ct,U em km cm,U er kr cr,U es ks cs,U eg kg cg,O J px,O J py,O J pz,O J ph,O J pq,U eh kh ch] 30)).alloc (AI #[I ⟨#[]⟩,I ⟨#[]⟩,U Y 0 0,U Y 0 0,U Y 0 0,U Y 0 0,O J 0,O J 0,O J 0,O J 0,O J 0,U Y 0 0] 30):=⟨_,rfl⟩;have eN:Below w.heap.size w W0:=by rw[eu];exact((Ia _ _).alloc (By _) _).alloc (by simp) _
 have eo:W0.heap[w.heap.size]?=Z (AI #[I nm,I ct,U em km cm,U er kr cr,U es ks cs,U eg kg cg,O J px,O J py,O J pz,O J ph,O J pq,U eh kh ch] 30 (0,0)):=by
  rw[eu,Below.heap_alloc _ _ _ (by simp)];exact Ie w _
 have cE:W0.heap[w.heap.size+1]?=Z (AI #[I ⟨#[]⟩,I ⟨#[]⟩,U Y 0 0,U Y 0 0,U Y 0 0,U Y 0 0,O J 0,O J 0,O J 0,O J 0,O J 0,U Y 0 0] 30 (0,0)):=by
  have h:=Ie (w.alloc (AI #[I nm,I ct,U em km cm,U er kr cr,U es ks cs,U eg kg cg,O J px,O J py,O J pz,O J ph,O J pq,U eh kh ch] 30)) (AI #[I ⟨#[]⟩,I ⟨#[]⟩,U Y 0 0,U Y 0 0,U Y 0 0,U Y 0 0,O J 0,O J 0,O J 0,O J 0,O J 0,U Y 0 0] 30);rw[eu];simpa using h
 have r8:w.heap.size+1<W0.heap.size:=by rw[eu];simp
 have dB:Hid _:=eN;have yO:Hid _:=eo;have C8:Hid _:=cE;clear eN eo cE;go_enter Tryz.func48,Tryz.ntmps48;go_wp2_with fail;rw[<- eu];clear eu;refine(Hm.out W0 dB.out).mono ?_;rintro e X1 ⟨v',rfl,ho,hx⟩;obtain⟨bm,FG,qf,_⟩:=ax ho;rw[HNm.out] at qf;subst qf;have eL:=(hx.block _ (by omega)).trans yO.out;obtain⟨y0,y1,y2,y3,y4,y5,y6,y7,y8,y9,y10,y11⟩:=bT eL;have z2:X1.frozen? ⟨w.heap.size,2,Y⟩=false:=by simp[Ih,eL]
 have P0:w.heap.size<X1.heap.size:=by have:=hx.size;omega
 obtain⟨W1,gA⟩:∃W1,W1=X1.setCell ⟨w.heap.size,2,Y⟩ (U bm km FG):=⟨_,rfl⟩;have ji:Hid (W1.heap[w.heap.size]?=Z (AI #[I nm,I ct,U bm km FG,U er kr cr,U es ks cs,U eg kg cg,O J px,O J py,O J pz,O J ph,O J pq,U eh kh ch] 30 (0,0))):=by rw[gA];exact Is (i:=2) eL _
 have GW:Hid (W1.heap[w.heap.size+1]?=Z (AI #[I ⟨#[]⟩,I ⟨#[]⟩,U Y 0 0,U Y 0 0,U Y 0 0,U Y 0 0,O J 0,O J 0,O J 0,O J 0,O J 0,U Y 0 0] 30 (0,0))):=by rw[gA];exact(IH _ _ _ _ (by simp)).trans ((hx.block _ (by omega)).trans C8.out)
 have agf:Hid (Own (w.heap.size+2) W1 (U bm km FG) ms):=by rw[gA];exact Ik (ho.mono (by omega)) (by simp) _
 have aK:Hid (Below w.heap.size w W1):=by rw[gA];exact(dB.out.trans (hx.mono dB.out.size)).setCell (p:=⟨w.heap.size,2,Y⟩) (by simp) _
 have gi:=(Ib.1 GW.out).1;clear ho hx eL r8;go_wp2_with fail;rw[<- gA];clear gA y0 y1 y2 y3 y4 y5 y6 y7 y8 y9 y10 y11 z2 P0;refine(Hr.out W1 aK.out).mono ?_;rintro e X2 ⟨v',rfl,ho,hx⟩;obtain⟨br,L5,qf,_⟩:=ax ho;rw[HNr.out] at qf;subst qf;have eL:=(hx.block _ (by omega)).trans ji.out;obtain⟨y0,y1,y2,y3,y4,y5,y6,y7,y8,y9,y10,y11⟩:=bT eL;have z3:X2.frozen? ⟨w.heap.size,3,Y⟩=false:=by simp[Ih,eL]
 have P0:w.heap.size<X2.heap.size:=by have:=hx.size;omega
 obtain⟨W2,eW⟩:∃W2,W2=X2.setCell ⟨w.heap.size,3,Y⟩ (U br kr L5):=⟨_,rfl⟩;have oP:Hid (W2.heap[w.heap.size]?=Z (AI #[I nm,I ct,U bm km FG,U br kr L5,U es ks cs,U eg kg cg,O J px,O J py,O J pz,O J ph,O J pq,U eh kh ch] 30 (0,0))):=by rw[eW];exact Is (i:=3) eL _
 have fm:Hid (W2.heap[w.heap.size+1]?=Z (AI #[I ⟨#[]⟩,I ⟨#[]⟩,U Y 0 0,U Y 0 0,U Y 0 0,U Y 0 0,O J 0,O J 0,O J 0,O J 0,O J 0,U Y 0 0] 30 (0,0))):=by rw[eW];exact(IH _ _ _ _ (by simp)).trans ((hx.block _ (by omega)).trans GW.out)
 have agh:Hid (bX (w.heap.size+2) W2 (U br kr L5) rs):=by rw[eW];exact Ik (ho.base (by omega)) (by simp) _
 have agi:Hid (Own (w.heap.size+2) W2 (U bm km FG) ms):=by rw[eW];exact Ik (agf.out.below hx) (by simp) _
 have bD:Hid (Below w.heap.size w W2):=by rw[eW];exact(aK.out.trans (hx.mono aK.out.size)).setCell (p:=⟨w.heap.size,3,Y⟩) (by simp) _
 have nP:=(Ib.1 fm.out).1;clear ho hx eL gi;go_wp2_with fail;rw[<- eW];clear eW y0 y1 y2 y3 y4 y5 y6 y7 y8 y9 y10 y11 z3 P0;refine(Hs.out W2 bD.out).mono ?_;rintro e X3 ⟨v',rfl,ho,hx⟩;obtain⟨bs,P1,qf,_⟩:=ax ho;rw[HNs.out] at qf;subst qf;have eL:=(hx.block _ (by omega)).trans oP.out;obtain⟨y0,y1,y2,y3,y4,y5,y6,y7,y8,y9,y10,y11⟩:=bT eL;have z4:X3.frozen? ⟨w.heap.size,4,Y⟩=false:=by simp[Ih,eL]
 have P0:w.heap.size<X3.heap.size:=by have:=hx.size;omega
 obtain⟨W3,lR⟩:∃W3,W3=X3.setCell ⟨w.heap.size,4,Y⟩ (U bs ks P1):=⟨_,rfl⟩;have PK:Hid (W3.heap[w.heap.size]?=Z (AI #[I nm,I ct,U bm km FG,U br kr L5,U bs ks P1,U eg kg cg,O J px,O J py,O J pz,O J ph,O J pq,U eh kh ch] 30 (0,0))):=by rw[lR];exact Is (i:=4) eL _
 have jM:Hid (W3.heap[w.heap.size+1]?=Z (AI #[I ⟨#[]⟩,I ⟨#[]⟩,U Y 0 0,U Y 0 0,U Y 0 0,U Y 0 0,O J 0,O J 0,O J 0,O J 0,O J 0,U Y 0 0] 30 (0,0))):=by rw[lR];exact(IH _ _ _ _ (by simp)).trans ((hx.block _ (by omega)).trans fm.out)
 have agj:Hid (Sv.Own (w.heap.size+2) W3 (U bs ks P1) sv):=by rw[lR];exact Ik (ho.mono (by omega)) (by simp) _
 have agk:Hid (Own (w.heap.size+2) W3 (U bm km FG) ms):=by rw[lR];exact Ik (agi.out.below hx) (by simp) _
 have agl:Hid (bX (w.heap.size+2) W3 (U br kr L5) rs):=by rw[lR];exact Ik (agh.out.below hx) (by simp) _
 have cT:Hid (Below w.heap.size w W3):=by rw[lR];exact(bD.out.trans (hx.mono bD.out.size)).setCell (p:=⟨w.heap.size,4,Y⟩) (by simp) _
 have Ni:=(Ib.1 jM.out).1;clear ho hx eL nP;go_wp2_with fail;rw[<- lR];clear lR y0 y1 y2 y3 y4 y5 y6 y7 y8 y9 y10 y11 z4 P0;refine(Hg.out W3 cT.out).mono ?_;rintro e X4 ⟨v',rfl,ho,hx⟩;obtain⟨bg,V2,qf,_⟩:=ax ho;rw[HNg.out] at qf;subst qf;have eL:=(hx.block _ (by omega)).trans PK.out;obtain⟨y0,y1,y2,y3,y4,y5,y6,y7,y8,y9,y10,y11⟩:=bT eL;have z5:X4.frozen? ⟨w.heap.size,5,Y⟩=false:=by simp[Ih,eL]
 have P0:w.heap.size<X4.heap.size:=by have:=hx.size;omega
 obtain⟨W4,Ak⟩:∃W4,W4=X4.setCell ⟨w.heap.size,5,Y⟩ (U bg kg V2):=⟨_,rfl⟩;have HG4:Hid (W4.heap[w.heap.size]?=Z (AI #[I nm,I ct,U bm km FG,U br kr L5,U bs ks P1,U bg kg V2,O J px,O J py,O J pz,O J ph,O J pq,U eh kh ch] 30 (0,0))):=by rw[Ak];exact Is (i:=5) eL _
 have XA:Hid (W4.heap[w.heap.size+1]?=Z (AI #[I ⟨#[]⟩,I ⟨#[]⟩,U Y 0 0,U Y 0 0,U Y 0 0,U Y 0 0,O J 0,O J 0,O J 0,O J 0,O J 0,U Y 0 0] 30 (0,0))):=by rw[Ak];exact(IH _ _ _ _ (by simp)).trans ((hx.block _ (by omega)).trans jM.out)
 have agm:Hid (Gw.Own (w.heap.size+2) W4 (U bg kg V2) gw):=by rw[Ak];exact Ik (ho.mono (by omega)) (by simp) _
 have agn:Hid (Own (w.heap.size+2) W4 (U bm km FG) ms):=by rw[Ak];exact Ik (agk.out.below hx) (by simp) _
 have ago:Hid (bX (w.heap.size+2) W4 (U br kr L5) rs):=by rw[Ak];exact Ik (agl.out.below hx) (by simp) _
 have agp:Hid (Sv.Own (w.heap.size+2) W4 (U bs ks P1) sv):=by rw[Ak];exact Ik (agj.out.below hx) (by simp) _
 have fb:Hid (Below w.heap.size w W4):=by rw[Ak];exact(cT.out.trans (hx.mono cT.out.size)).setCell (p:=⟨w.heap.size,5,Y⟩) (by simp) _
 have yw:=(Ib.1 XA.out).1;clear ho hx eL Ni;go_wp2_with fail;rw[<- Ak];clear Ak y0 y1 y2 y3 y4 y5 y6 y7 y8 y9 y10 y11 z5 P0;refine(Hh.out W4 fb.out).mono ?_;rintro e X5 ⟨v',rfl,ho,hx⟩;obtain⟨bh,dh',qf,_⟩:=ax ho;rw[HNh.out] at qf;subst qf;have eL:=(hx.block _ (by omega)).trans HG4.out;obtain⟨y0,y1,y2,y3,y4,y5,y6,y7,y8,y9,y10,y11⟩:=bT eL;have z11:X5.frozen? ⟨w.heap.size,11,Y⟩=false:=by simp[Ih,eL]
 have P0:w.heap.size<X5.heap.size:=by have:=hx.size;omega
 obtain⟨W5,ud⟩:∃W5,W5=X5.setCell ⟨w.heap.size,11,Y⟩ (U bh kh dh'):=⟨_,rfl⟩;have C9:Hid (W5.heap[w.heap.size]?=Z (AI #[I nm,I ct,U bm km FG,U br kr L5,U bs ks P1,U bg kg V2,O J px,O J py,O J pz,O J ph,O J pq,U bh kh dh'] 30 (0,0))):=by rw[ud];exact Is (i:=11) eL _
 have HZ5:Hid (W5.heap[w.heap.size+1]?=Z (AI #[I ⟨#[]⟩,I ⟨#[]⟩,U Y 0 0,U Y 0 0,U Y 0 0,U Y 0 0,O J 0,O J 0,O J 0,O J 0,O J 0,U Y 0 0] 30 (0,0))):=by rw[ud];exact(IH _ _ _ _ (by simp)).trans ((hx.block _ (by omega)).trans XA.out)
 have agq:Hid (Wh.Own (w.heap.size+2) W5 (U bh kh dh') wh):=by rw[ud];exact Ik (ho.mono (by omega)) (by simp) _
 have agr:Hid (Own (w.heap.size+2) W5 (U bm km FG) ms):=by rw[ud];exact Ik (agn.out.below hx) (by simp) _
 have ags:Hid (bX (w.heap.size+2) W5 (U br kr L5) rs):=by rw[ud];exact Ik (ago.out.below hx) (by simp) _
 have agt:Hid (Sv.Own (w.heap.size+2) W5 (U bs ks P1) sv):=by rw[ud];exact Ik (agp.out.below hx) (by simp) _
 have agu:Hid (Gw.Own (w.heap.size+2) W5 (U bg kg V2) gw):=by rw[ud];exact Ik (agm.out.below hx) (by simp) _
 have ia:Hid (Below w.heap.size w W5):=by rw[ud];exact(fb.out.trans (hx.mono fb.out.size)).setCell (p:=⟨w.heap.size,11,Y⟩) (by simp) _
 have SH:=(Ib.1 HZ5.out).1;have fW:=HZ5.out;have q0:=af fW 0;have p0:=af C9.out 0;have zz0:W5.frozen? ⟨w.heap.size+1,0,Y⟩=false:=by simp[Ih,fW]
 have q1:=af fW 1;have p1:=af C9.out 1;have zz1:W5.frozen? ⟨w.heap.size+1,1,Y⟩=false:=by simp[Ih,fW]
 have q2:=af fW 2;have p2:=af C9.out 2;have zz2:W5.frozen? ⟨w.heap.size+1,2,Y⟩=false:=by simp[Ih,fW]
 have q3:=af fW 3;have p3:=af C9.out 3;have zz3:W5.frozen? ⟨w.heap.size+1,3,Y⟩=false:=by simp[Ih,fW]
 have q4:=af fW 4;have p4:=af C9.out 4;have zz4:W5.frozen? ⟨w.heap.size+1,4,Y⟩=false:=by simp[Ih,fW]
 have q5:=af fW 5;have p5:=af C9.out 5;have zz5:W5.frozen? ⟨w.heap.size+1,5,Y⟩=false:=by simp[Ih,fW]
 have q6:=af fW 6;have p6:=af C9.out 6;have zz6:W5.frozen? ⟨w.heap.size+1,6,Y⟩=false:=by simp[Ih,fW]
 have q7:=af fW 7;have p7:=af C9.out 7;have zz7:W5.frozen? ⟨w.heap.size+1,7,Y⟩=false:=by simp[Ih,fW]
 have q8:=af fW 8;have p8:=af C9.out 8;have zz8:W5.frozen? ⟨w.heap.size+1,8,Y⟩=false:=by simp[Ih,fW]
 have q9:=af fW 9;have p9:=af C9.out 9;have zz9:W5.frozen? ⟨w.heap.size+1,9,Y⟩=false:=by simp[Ih,fW]
 have q10:=af fW 10;have p10:=af C9.out 10;have aml:W5.frozen? ⟨w.heap.size+1,10,Y⟩=false:=by simp[Ih,fW]
 have q11:=af fW 11;have p11:=af C9.out 11;have amm:W5.frozen? ⟨w.heap.size+1,11,Y⟩=false:=by simp[Ih,fW]
 clear ho hx eL yw fW;go_upto_region 6 with fail
 rw[<- ud];clear ud y0 y1 y2 y3 y4 y5 y6 y7 y8 y9 y10 y11 z11 P0;go_wp2_with fail;refine bodyPost_ret (v:=Ip #[I nm,I ct,U bm km FG,U br kr L5,U bs ks P1,U bg kg V2,O J px,O J py,O J pz,O J ph,O J pq,U bh kh dh']) ?_ rfl ⟨U bm km FG,U br kr L5,U bs ks P1,U bg kg V2,U bh kh dh',rfl,⟨?_,?_,?_,?_,?_⟩,?_⟩
 .simp[results,Tryz.results48,go_sem,q0,q1,q2,q3,q4,q5,q6,q7,q8,q9,q10,q11]
 .exact Own.mono (bK (agr.out) (by simp) _ _ _ _ _ _ _ _ _ _ _ _) (by omega)
 .exact bX.base (bK (ags.out) (by simp) _ _ _ _ _ _ _ _ _ _ _ _) (by omega)
 .exact Sv.Own.mono (bK (agt.out) (by simp) _ _ _ _ _ _ _ _ _ _ _ _) (by omega)
 .exact Gw.Own.mono (bK (agu.out) (by simp) _ _ _ _ _ _ _ _ _ _ _ _) (by omega)
 .exact Wh.Own.mono (bK (agq.out) (by simp) _ _ _ _ _ _ _ _ _ _ _ _) (by omega)
 .exact fI ia.out (by simp) _ _ _ _ _ _ _ _ _ _ _ _
structure Sh(S:Nat->Prop)(w w':World):Prop where
 os:w'.os=w.os
 tape:w'.tape=w.tape
 output:w'.output=w.output
 size:w.heap.size<=w'.heap.size
 block:∀k,k<w.heap.size->¬ S k->w'.heap[k]?=w.heap[k]?
theorem Sh.refl(S:Nat->Prop)(w:World):Sh S w w:=⟨rfl,rfl,rfl,By _,λ_ _ _=>rfl⟩
theorem Sh.trans{S:Nat->Prop}{a b c:World}(h:Sh S a b)(k:Sh S b c):Sh S a c:=⟨k.os.trans h.os,k.tape.trans h.tape,k.output.trans h.output,Nat.le_trans h.size k.size,λi hi hn=>(k.block i (Nat.lt_of_lt_of_le hi h.size) hn).trans (h.block i hi hn)⟩
theorem Sh.of{S:Nat->Prop}{w w':World}(h:Below w.heap.size w w'):Sh S w w':=⟨h.os,h.tape,h.output,h.size,λk hk _=>h.block k hk⟩
theorem Sh.next{S:Nat->Prop}{a w w':World}(h:Sh S a w)(k:Below w.heap.size w w'):Sh S a w':=h.trans (.of k)
theorem Sh.alloc{S:Nat->Prop}{a w:World}(h:Sh S a w)(o:Obj):Sh S a (w.alloc o):=h.next ((Ia _ _).alloc (By _) _)
theorem Sh.setCell{S:Nat->Prop}{a w:World}(h:Sh S a w){b i:Nat}(hb:S b)(x:Value):Sh S a (w.setCell ⟨b,i,Y⟩ x):=
 h.trans ⟨rfl,rfl,rfl,by simp[World.setCell],λk _ hn=>IH w _ x k (λe=>hn (by simp only at e;rw[e];exact hb))⟩
theorem Sh.below{S:Nat->Prop}{w w':World}{B:Nat}(h:Sh S w w')(hB:B<=w.heap.size)(hS:∀k,S k->B<=k):Below B w w':=⟨h.os,h.tape,h.output,h.size,λk hk=>h.block k (by omega) (λe=>by have:=hS k e;omega)⟩
theorem Sh.mono{S T:Nat->Prop}{w w':World}(h:Sh S w w')(hS:∀k,S k->T k):Sh T w w':=⟨h.os,h.tape,h.output,h.size,λk hk hn=>h.block k hk (λe=>hn (hS k e))⟩
theorem fJ{w:World}{b:Nat}{cs:Array Value}{T:I8}(h:w.heap[b]?=Z (AI cs T (0,0)))(o:Nat):w.frozen? ⟨b,o,Y⟩=false:=by simp[Ih,h]
def Wk(L:Nat)(w:World)(b:Nat)(n:Nd):Prop:=∃vm vr vs vg vw,w.heap[b]?=Z (AI (fB n vm vr vs vg vw) 81 (0,0))/\gT L w n vm vr vs vg vw /\
 (vm.ownBlock≠Z b/\vr.ownBlock≠Z b/\vs.ownBlock≠Z b/\vg.ownBlock≠Z b/\vw.ownBlock≠Z b)/\ri n
theorem Wk.below{L b:Nat}{w w':World}{n:Nd}(h:Wk L w b n)(hb:Below w.heap.size w w'):Wk L w' b n:=by
 obtain⟨vm,vr,vs,vg,vw,h1,h2,h3,h4⟩:=h;exact⟨vm,vr,vs,vg,vw,(hb.block _ (Ib.1 h1).1).trans h1,h2.below hb,h3,h4⟩
theorem Wk.lt{L b:Nat}{w:World}{n:Nd}(h:Wk L w b n):b<w.heap.size:=by
 obtain⟨vm,vr,vs,vg,vw,h1,_⟩:=h;exact(Ib.1 h1).1
theorem Wk.L6{L b:Nat}{W w1:World}{n:Nd}(h:Wk L W b n)(hL:L<=W.heap.size)(hb:Below W.heap.size W w1){v:Value}{l:List Mem}(ho:Own W.heap.size w1 v l)(hl:(∀m∈l,m.name.size<=Ii)):Wk L (w1.setCell ⟨b,2,Y⟩ v) b { n with ms:=l }:=by
 obtain⟨vm,vr,vs,vg,vw,h1,h2,h3,h4⟩:=h;have aL:=(Ib.1 h1).1;refine⟨v,vr,vs,vg,vw,?_,⟨IG (ho.mono hL) (λe=>by have:=ho.lt b e;omega) _,IG (h2.rs.below hb) h3.2.1 _,IG (h2.sv.below hb) h3.2.2.1 _,IG (h2.gw.below hb) h3.2.2.2.1 _,IG (h2.wh.below hb) h3.2.2.2.2 _⟩,⟨λe=>by have:=ho.lt b e;omega,h3.2.1,h3.2.2.1,h3.2.2.2.1,h3.2.2.2.2⟩,⟨hl,h4.rs,h4.sv,h4.gw,h4.wh,h4.name,h4.ai⟩⟩;exact Is (i:=2) ((hb.block _ aL).trans h1) v
theorem Wk.L7{L b:Nat}{W w1:World}{n:Nd}(h:Wk L W b n)(hL:L<=W.heap.size)(hb:Below W.heap.size W w1){v:Value}{l:List bu}(ho:bX W.heap.size w1 v l)(hl:(∀r∈l,r.m.name.size<=Ii)):Wk L (w1.setCell ⟨b,3,Y⟩ v) b { n with rs:=l }:=by
 obtain⟨vm,vr,vs,vg,vw,h1,h2,h3,h4⟩:=h;have aL:=(Ib.1 h1).1;refine⟨vm,v,vs,vg,vw,?_,⟨IG (h2.ms.below hb) h3.1 _,IG (ho.base hL) (λe=>by have:=ho.lt b e;omega) _,IG (h2.sv.below hb) h3.2.2.1 _,IG (h2.gw.below hb) h3.2.2.2.1 _,IG (h2.wh.below hb) h3.2.2.2.2 _⟩,⟨h3.1,λe=>by have:=ho.lt b e;omega,h3.2.2.1,h3.2.2.2.1,h3.2.2.2.2⟩,⟨h4.ms,hl,h4.sv,h4.gw,h4.wh,h4.name,h4.ai⟩⟩;exact Is (i:=3) ((hb.block _ aL).trans h1) v
theorem Wk.V3{L b:Nat}{W w1:World}{n:Nd}(h:Wk L W b n)(hL:L<=W.heap.size)(hb:Below W.heap.size W w1){v:Value}{l:List Sv.ba}(ho:Sv.Own W.heap.size w1 v l)(hl:(∀m∈l,m.ok)):Wk L (w1.setCell ⟨b,4,Y⟩ v) b { n with sv:=l }:=by
 obtain⟨vm,vr,vs,vg,vw,h1,h2,h3,h4⟩:=h;have aL:=(Ib.1 h1).1;refine⟨vm,vr,v,vg,vw,?_,⟨IG (h2.ms.below hb) h3.1 _,IG (h2.rs.below hb) h3.2.1 _,IG (ho.mono hL) (λe=>by have:=ho.lt b e;omega) _,IG (h2.gw.below hb) h3.2.2.2.1 _,IG (h2.wh.below hb) h3.2.2.2.2 _⟩,⟨h3.1,h3.2.1,λe=>by have:=ho.lt b e;omega,h3.2.2.2.1,h3.2.2.2.2⟩,⟨h4.ms,h4.rs,hl,h4.gw,h4.wh,h4.name,h4.ai⟩⟩;exact Is (i:=4) ((hb.block _ aL).trans h1) v
theorem Wk.V4{L b:Nat}{W w1:World}{n:Nd}(h:Wk L W b n)(hL:L<=W.heap.size)(hb:Below W.heap.size W w1){v:Value}{l:List Gw.cW}(ho:Gw.Own W.heap.size w1 v l)(hl:(∀m∈l,m.ok)):Wk L (w1.setCell ⟨b,5,Y⟩ v) b { n with gw:=l }:=by
 obtain⟨vm,vr,vs,vg,vw,h1,h2,h3,h4⟩:=h;have aL:=(Ib.1 h1).1;refine⟨vm,vr,vs,v,vw,?_,⟨IG (h2.ms.below hb) h3.1 _,IG (h2.rs.below hb) h3.2.1 _,IG (h2.sv.below hb) h3.2.2.1 _,IG (ho.mono hL) (λe=>by have:=ho.lt b e;omega) _,IG (h2.wh.below hb) h3.2.2.2.2 _⟩,⟨h3.1,h3.2.1,h3.2.2.1,λe=>by have:=ho.lt b e;omega,h3.2.2.2.2⟩,⟨h4.ms,h4.rs,h4.sv,hl,h4.wh,h4.name,h4.ai⟩⟩;exact Is (i:=5) ((hb.block _ aL).trans h1) v
end Go.Proofs.YtfidjlcdlakceaaGreatDoor
namespace Go.Proofs.YtfidjlcdlakceaaGreatDoor
open Go.ChangeShapes Go.WideShapes Go.ChangeAt Go.RowKit
section
variable {H:Type} {enc:TypeId × Value→H} {w:World} {base:Nat} {spare:Nat→Bool} {held:Bool}
theorem Tryz.kcR:Tryz.prog.cellsOf 95=6:=by kernel_rfl
theorem Tryz.agv:Tryz.prog.cellsOf 23=1:=by kernel_rfl
theorem Tryz.kcN:Tryz.prog.cellsOf 30=12:=by kernel_rfl
theorem Tryz.agw:Tryz.prog.cellsOf 70=5:=by kernel_rfl
theorem xd{fuel:Nat}{cs:List Value}{x:DataW H×List OS}(h:OT enc be w base spare held fuel 95 cs=Z x) :
 ∃m:bu,cs=m.cs/\m.m.name.size<=Ii:=by
 obtain⟨xs,n,_,_,hl,hlen,hf⟩:=OJ Tryz.underlying95 h;rw[Tryz.kcR] at hl
 match cs,hl with
 |[c0,c1,c2,c3,c4,c5],_=>
  match xs,hlen with
  |[y0,y1],_=>
   have h0:=hf 0 _ rfl;have h1:=hf 1 _ rfl;simp[Tryz.agw] at h0;simp[Tryz.zh] at h1;obtain⟨m,e0,w0⟩:=ed h0;obtain⟨t,e1,_,_⟩:=DataW.trod_int Tryz.underlying3 h1;simp only[List.cons.injEq,and_true] at e0 e1;obtain⟨r1,r2,r3,r4,r5⟩:=e0;subst r1 r2 r3 r4 r5 e1;exact⟨⟨m,t⟩,rfl,w0⟩
theorem uH{fuel:Nat}{cs:List Value}{x:DataW H×List OS}(h:OT enc be w base spare held fuel 23 cs=Z x) :
 ∃(p:Option Addr) (n c:Nat) (ms:List bu),cs=[U p n c]/\kB w (U p n c) ms/\ms.length<=Ii:=by
 rcases Go.Deep.open_slice Tryz.underlying23 h with⟨cJ,_⟩|⟨x,len,cap,m,n,D,Pl,cJ,hb,hl,hm,oS,_,hx⟩
 .exact⟨Y,0,0,[],cJ,⟨Y,0,rfl,wV (by simp),.inl rfl⟩,by simp⟩
 .have Vw:len<=m:=by rw[oS];split<;>omega
  have cX:∀i,i<len->∃q:bu,(∀t,t<6->w.cell? (x.add (i*6+t))=q.cs[t]?)/\(q).m.name.size<=Ii:=λi hi=>by
   obtain⟨cs',h1,h2⟩:=hx i (by omega);obtain⟨q,hq,hs⟩:=xd h2;rw[Tryz.kcR] at h1;obtain⟨_,_,h3⟩:=World.cells?_some h1;refine⟨q,λt ht=>?_,hs⟩;rw[<- Go.Deep.add_add,h3 t ht,hq]
  have L8:Inhabited bu:=⟨dr⟩;obtain⟨F,hF⟩:=Go.Deep.choose_lt (α:=bu) (p:=λi q=>(∀t,t<6->w.cell? (x.add (i*6+t))=q.cs[t]?)/\(q).m.name.size<=Ii) cX;have fT:∀j,j<len->((JS len).map F).getD j dr=F j:=λj hj=>by simp[Io,hj]
  refine⟨Z x,len,cap,(JS len).map F,cJ,⟨Z x,cap,by simp,wV (λq hq=>?_),?_⟩,by simp;omega⟩
  .obtain⟨j,hj,rfl⟩:=Oo.1 hq
   exact(hF j (List.mem_range.1 hj)).2
  .by_cases h0:len=0
   .left;simp[h0]
   .right
    obtain⟨b,off,spot⟩:=x;have mJ:=(hF 0 (by omega)).1 0 (by omega);have oz:spot=Y:=by simpa[Addr.add] using World.cell?_spot mJ
    subst oz;have bj:∀j,j<len->∀t,t<6->w.cell? ⟨b,off+j*6+t,Y⟩=(F j).cs[t]?:=λj hj t ht=>by
     have:=(hF j hj).1 t ht
     rwa [Go.WideShapes.add_plain,<- Nat.add_assoc] at this
    refine⟨b,off,rfl,World.block_lt_of_cell? w ⟨b,off+0*6+0,Y⟩ (bj 0 (by omega) 0 (by omega)),λj hj=>?_⟩;have gd:j<len:=by simpa using hj
    rw[fT j gd];exact⟨bj j gd 0 (by omega),bj j gd 1 (by omega),bj j gd 2 (by omega),bj j gd 3 (by omega),bj j gd 4 (by omega),bj j gd 5 (by omega)⟩
theorem BB{fuel:Nat}{cs:List Value}{x:DataW H×List OS}(h:OT enc be w base spare held fuel 30 cs=Z x) :
 ∃(n:Nd) (vm vr vs vg vw:Value),cs=(fB n vm vr vs vg vw).toList/\ix w n vm vr vs vg vw:=by
 obtain⟨xs,n,_,_,hl,hlen,hf⟩:=OJ Tryz.underlying30 h;rw[Tryz.kcN] at hl
 match cs,hl with
 |[c0,c1,c2,c3,c4,c5,c6,c7,c8,c9,c10,c11],_=>
  match xs,hlen with
  |[y0,y1,y2,y3,y4,y5,y6,y7],_=>
   have h0:=hf 0 _ rfl;have h1:=hf 1 _ rfl;have h2:=hf 2 _ rfl;have h3:=hf 3 _ rfl;have h4:=hf 4 _ rfl;have h5:=hf 5 _ rfl;have h6:=hf 6 _ rfl;have h7:=hf 7 _ rfl;simp[Tryz.Ag] at h0;simp[Tryz.Ag] at h1;simp[Tryz.kcM] at h2;simp[Tryz.agv] at h3;simp[Tryz.kcS] at h4;simp[Tryz.kcG] at h5;simp[Wh.kcP] at h6;simp[Tryz.kcW] at h7;obtain⟨s,e0,_,w0⟩:=JD Iv h0;obtain⟨t,e1,_,w1⟩:=JD Iv h1;obtain⟨pm,nm,cm,ms,e2,k2,_⟩:=ej h2;obtain⟨pr,nr,cr,rs,e3,k3,_⟩:=uH h3;obtain⟨ps,ns,cn,sv,e4,k4,_⟩:=Sv.ej h4;obtain⟨pg,ng,cg,gw,e5,k5,_⟩:=Gw.ej h5;obtain⟨a,b,c,d,e,e6⟩:=Wh.qp h6;obtain⟨pw,nw,cw,wh,e7,k7,_⟩:=Wh.ej h7;simp only[List.cons.injEq,and_true] at e0 e1 e2 e3 e4 e5 e6 e7;obtain⟨r1,r2,r3,r4,r5⟩:=e6;subst e0 e1 e2 e3 e4 e5 r1 r2 r3 r4 r5 e7;exact⟨⟨s,t,ms,rs,sv,gw,⟨a,b,c,d,e⟩,wh⟩,_,_,_,_,_,rfl,k2,k3,k4,k5,k7,w0,w1⟩
theorem DR{r:Reach}{b0:Nat}{v:Value}{d:DataW H}{p:List OS}(hv:Value.okWide be w r b0 30 v)(h:DataW.Trod enc be w base spare held 30 v d p) :
 ∃(n:Nd) (vm vr vs vg vw:Value),v=Ip (fB n vm vr vs vg vw)/\ix w n vm vr vs vg vw:=by
 obtain⟨cs,rfl,bb⟩:=okWide_struct Tryz.underlying30 hv;obtain⟨fuel,hf⟩:=h;obtain⟨n,vm,vr,vs,vg,vw,hm,hs⟩:=BB hf;refine⟨n,vm,vr,vs,vg,vw,?_,hs⟩;simp only[Value.cells] at hm;congr 1;apply Array.ext';exact hm
end
end Go.Proofs.YtfidjlcdlakceaaGreatDoor
