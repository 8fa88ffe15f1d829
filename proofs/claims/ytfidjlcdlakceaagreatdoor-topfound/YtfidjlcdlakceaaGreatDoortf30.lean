import Derived.Test.YtfidjlcdlakceaaGreatDoortf29
import Derived.OneCell
set_option maxHeartbeats 12800000
set_option maxRecDepth 100000
open Go.Value renaming string→I,int→O,slice→U,agg→Im,bool→AI,pointer→If
open Go.IntKind renaming i64→J
open Go renaming maxLen→Ij,TypeId→Jc,heap_alloc_new→Ie,ownsRow_setCell_other→Iz
open Option renaming none→Y,some→Z
open Nat renaming le_refl→By
open Go.Obj renaming cells→AT
open Array renaming getElem?_eq_some_iff→Ia
open Go.RowKit.Below renaming refl→Ib,heap_setCell→IB
open Go.World renaming frozen?→Ig
open Go.RowKit renaming ownsRow_setCell_below→Ik
open Go.Joins renaming block_setCell→Is
namespace Go.Proofs.YtfidjlcdlakceaaGreatDoor
open Go.RowKit
abbrev fD(n:Nd)(vm vr vs vg vw:Value):Array Value:=#[I n.name,I n.ai,vm,vr,vs,vg,O J n.p.x,O J n.p.y,O J n.p.z,O J n.p.h,O J n.p.s,vw]
structure jL(w:World)(n:Nd)(vm vr vs vg vw:Value):Prop where
 ms:Sl w vm n.ms
 rs:mj w vr n.rs
 sv:Sv.Sl w vs n.sv
 gw:Gw.Sl w vg n.gw
 wh:Wh.Sl w vw n.wh
 name:n.name.size<=Ij
 ai:n.ai.size<=Ij
theorem jL.below{w w':World}{n:Nd}{vm vr vs vg vw:Value}(h:jL w n vm vr vs vg vw)(hb:Below w.heap.size w w'):jL w' n vm vr vs vg vw:=⟨h.ms.below hb,h.rs.below hb,h.sv.below hb,h.gw.below hb,h.wh.below hb,h.name,h.ai⟩
theorem uC(w:World):Sl w (U Y 0 0) []:=⟨Y,0,rfl,cB (λm hm=>by simp at hm),.inl rfl⟩
theorem Sv.uC(w:World):Sv.Sl w (U Y 0 0) []:=⟨Y,0,rfl,Sv.cB (λm hm=>by simp at hm),.inl rfl⟩
theorem Gw.uC(w:World):Gw.Sl w (U Y 0 0) []:=⟨Y,0,rfl,Gw.cB (λm hm=>by simp at hm),.inl rfl⟩
theorem PL{nm:ByteArray}{wh:List Wh.bC}(h:aN nm=true):Pk.e ⟨nm,true,[],[],[],wh⟩=Wh.ba wh:=by
 unfold Pk.e;rw[if_pos (by simp[h])];rfl
theorem Kg:Roomy (U Y 0 0):=by unfold Roomy;exact By _
theorem zc(nm:ByteArray)(wh:List Wh.bC)(vw:Value)(W:World)(Ma:Wh.Sl W vw wh)(ft:nm.size<=Ij)(hl:aN nm=true) :
 nZ 94 #[Im #[I nm,AI true,U Y 0 0,U Y 0 0,U Y 0 0,vw]] W (O J (Wh.ba wh)):=by
 have hp:pJ W ⟨nm,true,[],[],[],wh⟩ (U Y 0 0) (U Y 0 0) (U Y 0 0) vw:=⟨uC W,Sv.uC W,Gw.uC W,Ma,ft,Kg⟩;rw[<- PL hl];exact oC ⟨nm,true,[],[],[],wh⟩ (U Y 0 0) (U Y 0 0) (U Y 0 0) vw W hp (.inl rfl)
theorem xH{W:World}{cs:Array Value}{t:Jc}{g k:Nat}(hg:g=W.heap.size):((W.alloc (AT cs t)).drew).cell? ⟨g,k,Y⟩=cs[k]?:=by subst hg;exact af (Ie W _) k
theorem Bk(a b:ByteArray)(ha:a.size<=Ij)(hb:b.size<=Ij)(g c:Nat)(W:World)(h0:W.cell? ⟨g,0,Y⟩=Z (I a))(h1:W.cell? ⟨g,1,Y⟩=Z (I b)) :
 aP 43 #[U (Z ⟨g,0,Y⟩) 2 c] W λe w'=>e=.returned (AI (aN a&&aN b))/\w'=W:=by
 have h:=n9 [a,b] g c W (λj hj=>by
  have:j=0\/j=1:=by simp at hj;omega
  rcases this with rfl|rfl
  .exact h0
  .exact h1) (λj=>by
  match j with
  |0=>exact ha
  |1=>exact hb
  |_+2=>simp[List.getD]) (by simp)
 rw[show[a,b].all aN=(aN a&&aN b) by simp] at h;exact h
theorem uD(n:Nd)(b:Nat)(vm vr vs vg vw:Value)(w:World)(h:jL w n vm vr vs vg vw)(hg:w.heap[b]?=Z (AT (fD n vm vr vs vg vw) 81 (0,0))) :
 nZ 76 #[If (Z ⟨b,0,Y⟩)] w (O J n.pE):=by
 obtain⟨nm,ct,ms,rs,sv,gw,⟨px,py,pz,ph,pq⟩,wh⟩:=n;obtain⟨j5,sX,Cy,nN,Ma,ft,Sn⟩:=h;simp only at j5 sX Cy nN Ma ft Sn hg;have hb:=(Ia.1 hg).1;have HM:Hid (∀W,Below w.heap.size w W->aP _ _ _ _):=λW hW=>aW ms vm W (j5.below hW);have Hj:Hid (∀W,Below w.heap.size w W->aP _ _ _ _):=λW hW=>fT rs vr W (sX.below hW);have HS:Hid (∀W,Below w.heap.size w W->aP _ _ _ _):=λW hW=>Sv.aW sv vs W (Cy.below hW);have HG:Hid (∀W,Below w.heap.size w W->aP _ _ _ _):=λW hW=>Gw.aW gw vg W (nN.below hW);have HP:Hid (∀W,Below w.heap.size w W->aP _ _ _ _):=λW _=>jy ⟨px,py,pz,ph,pq⟩ W;have HX:Hid (∀W,Below w.heap.size w W->W.cell? ⟨b,0,Y⟩=Z (I nm)/\W.cell? ⟨b,1,Y⟩=Z (I ct)/\W.cell? ⟨b,2,Y⟩=Z vm/\W.cell? ⟨b,3,Y⟩=Z vr/\W.cell? ⟨b,4,Y⟩=Z vs/\W.cell? ⟨b,5,Y⟩=Z vg/\W.cell? ⟨b,6,Y⟩=Z (O J px)/\W.cell? ⟨b,7,Y⟩=Z (O J py)/\W.cell? ⟨b,8,Y⟩=Z (O J pz)/\W.cell? ⟨b,9,Y⟩=Z (O J ph)/\W.cell? ⟨b,10,Y⟩=Z (O J pq)/\W.cell? ⟨b,11,Y⟩=Z vw):=λW hW=>
  have tV:=(hW.block _ hb).trans hg
  ⟨af tV 0,af tV 1,af tV 2,af tV 3,af tV 4,af tV 5,af tV 6,af tV 7,af tV 8,af tV 9,af tV 10,af tV 11⟩
 have HE:Nd.pE ⟨nm,ct,ms,rs,sv,gw,⟨px,py,pz,ph,pq⟩,wh⟩=if(aN nm&&aN ct)=true then
  (if ba ms=0 then(if ee rs=0 then(if Sv.ba sv=0 then(if Gw.ba gw=0 then(if cJ ⟨px,py,pz,ph,pq⟩=0 then Wh.ba wh else cJ ⟨px,py,pz,ph,pq⟩) else Gw.ba gw) else Sv.ba sv) else ee rs) else ba ms) else 1:=by unfold Nd.pE;with_reducible rfl
 have HL:Hid (∀(W:World) (g:Nat),W.cell? ⟨g,0,Y⟩=Z (I nm)->W.cell? ⟨g,1,Y⟩=Z (I ct)->aP _ _ _ _):=λW g h0 h1=>Bk nm ct ft Sn g 2 W h0 h1;have HW:Hid (aN nm=true->∀W,Below w.heap.size w W->nZ 94 #[Im #[I nm,AI true,U Y 0 0,U Y 0 0,U Y 0 0,vw]] W (O J (Wh.ba wh))):=λhl W hW=>zc nm wh vw W (Ma.below hW) ft hl;have Sy:Hid ((aN nm&&aN ct)=true->aN nm=true):=λh=>by rw[Bool.and_eq_true] at h;exact h.1
 generalize(aN nm&&aN ct)=lb at *;generalize Nd.pE ⟨nm,ct,ms,rs,sv,gw,⟨px,py,pz,ph,pq⟩,wh⟩=res at *;generalize ba ms=m1 at *;generalize ee rs=r1 at *;generalize Sv.ba sv=s1 at *;generalize Gw.ba gw=g1 at *;generalize cJ ⟨px,py,pz,ph,pq⟩=p1 at *;generalize Wh.ba wh=wz at *;obtain⟨a5,c5,rfl,_,_⟩:=Ma;generalize wh.length=n5 at *;clear j5 sX Cy nN;obtain⟨y0,y1,y2,y3,y4,y5,y6,y7,y8,y9,y10,y11⟩:=HX.out w (Ib _ _);clear hg;go_enter Tryz.func76,Tryz.ntmps76;go_wp2_with fail;go_region_held3 (λw'=>w'.cell? ⟨b,0,Y⟩=Z (I nm)/\w'.cell? ⟨b,1,Y⟩=Z (I ct)) (go_keep) (first|(go_at_call 43;refine(HL.out _ _ (xH rfl) (xH rfl)).mono ?_;rintro e w' ⟨rfl,rfl⟩))
 obtain⟨W0,dK⟩:∃W0,W0=(w.alloc (AT #[I nm,I ct] 9)).drew:=⟨_,rfl⟩;have dy:Hid (Below w.heap.size w W0):=by rw[dK];exact((Ib _ _).alloc (By _) _).drew
 rw[<- dK];clear dK HL y0 y1 y2 y3 y4 y5 y6 y7 y8 y9 y10 y11;obtain⟨y0,y1,y2,y3,y4,y5,y6,y7,y8,y9,y10,y11⟩:=HX.out W0 dy.out;cases lb
 .rw[if_neg (by simp)] at HE
  have HR:Hid _:=HE;clear HE;go_wp2_with fail;go_ret;exact⟨aj HR.out.symm,dy.out⟩
 rw[if_pos rfl] at HE;have HW:Hid (∀W,Below w.heap.size w W->aP _ _ _ _):=HW.out (Sy.out rfl);go_wp2_with fail;refine(HM.out _ dy.out).mono ?_;rintro e w1 ⟨rfl,al⟩;have aR:Hid _:=dy.out.trans (al.mono dy.out.size);clear al y0 y1 y2 y3 y4 y5 y6 y7 y8 y9 y10 y11;obtain⟨y0,y1,y2,y3,y4,y5,y6,y7,y8,y9,y10,y11⟩:=HX.out w1 aR.out;by_cases oO:m1=0
 .rw[if_pos oO] at HE
  subst oO;go_wp2_with fail;refine(Hj.out _ aR.out).mono ?_;rintro e w2 ⟨rfl,aC⟩;have bw:Hid _:=aR.out.trans (aC.mono aR.out.size);clear aC y0 y1 y2 y3 y4 y5 y6 y7 y8 y9 y10 y11;obtain⟨y0,y1,y2,y3,y4,y5,y6,y7,y8,y9,y10,y11⟩:=HX.out w2 bw.out;by_cases yp:r1=0
  .rw[if_pos yp] at HE
   subst yp;go_wp2_with fail;refine(HS.out _ bw.out).mono ?_;rintro e w3 ⟨rfl,bf⟩;have da:Hid _:=bw.out.trans (bf.mono bw.out.size);clear bf y0 y1 y2 y3 y4 y5 y6 y7 y8 y9 y10 y11;obtain⟨y0,y1,y2,y3,y4,y5,y6,y7,y8,y9,y10,y11⟩:=HX.out w3 da.out;by_cases gI:s1=0
   .rw[if_pos gI] at HE
    subst gI;go_wp2_with fail;refine(HG.out _ da.out).mono ?_;rintro e w4 ⟨rfl,fa⟩;have gJ:Hid _:=da.out.trans (fa.mono da.out.size);clear fa y0 y1 y2 y3 y4 y5 y6 y7 y8 y9 y10 y11;obtain⟨y0,y1,y2,y3,y4,y5,y6,y7,y8,y9,y10,y11⟩:=HX.out w4 gJ.out;by_cases bb:g1=0
    .rw[if_pos bb] at HE
     subst bb;go_wp2_with fail;refine(HP.out _ gJ.out).mono ?_;rintro e w5 ⟨rfl,lA⟩;have jE:Hid _:=gJ.out.trans (lA.mono gJ.out.size);clear lA y0 y1 y2 y3 y4 y5 y6 y7 y8 y9 y10 y11;obtain⟨y0,y1,y2,y3,y4,y5,y6,y7,y8,y9,y10,y11⟩:=HX.out w5 jE.out;by_cases lP:p1=0
     .rw[if_pos lP] at HE
      subst lP;go_wp2_with fail;go_region_held3 (λw'=>w'.cell? ⟨b,0,Y⟩=Z (I nm)/\w'.cell? ⟨b,11,Y⟩=Z (U a5 n5 c5)) (first|assumption|go_keep) (first|(go_at_call 94;refine(HW.out _ jE.out.drew).mono ?_;rintro e w9 ⟨rfl,vB⟩;have qi:Hid (Below w.heap.size w w9):=jE.out.drew.trans (vB.mono jE.out.size);have hS:w9.cell? ⟨b,0,Y⟩=Z (I nm)/\w9.cell? ⟨b,11,Y⟩=Z (U a5 n5 c5):=⟨(HX.out w9 qi.out).1,(HX.out w9 qi.out).2.2.2.2.2.2.2.2.2.2.2⟩))
      go_wp2_with fail;go_ret;exact⟨aj HE.symm,qi.out⟩
     .have anB:(p1 !=0)=true:=by simpa using lP
      rw[if_neg lP] at HE;have HR:Hid _:=HE;clear lP HE;go_wp2_with fail;go_ret;exact⟨aj HR.out.symm,jE.out⟩
    .have anC:(g1 !=0)=true:=by simpa using bb
     rw[if_neg bb] at HE;have HR:Hid _:=HE;clear bb HE;go_wp2_with fail;go_ret;exact⟨aj HR.out.symm,gJ.out⟩
   .have Gl:(s1 !=0)=true:=by simpa using gI
    rw[if_neg gI] at HE;have HR:Hid _:=HE;clear gI HE;go_wp2_with fail;go_ret;exact⟨aj HR.out.symm,da.out⟩
  .have anD:(r1 !=0)=true:=by simpa using yp
   rw[if_neg yp] at HE;have HR:Hid _:=HE;clear yp HE;go_wp2_with fail;go_ret;exact⟨aj HR.out.symm,bw.out⟩
 .have anE:(m1 !=0)=true:=by simpa using oO
  rw[if_neg oO] at HE;have HR:Hid _:=HE;clear oO HE;go_wp2_with fail;go_ret;exact⟨aj HR.out.symm,aR.out⟩
theorem aa0{a b:Mem}(ha:a.e=0)(hb:b.e=0)(hn:a.name=b.name):cP a b=0:=by
 unfold cP;have h:aJ [a] [b]=0:=by
  unfold aJ;rw[jf,jf,if_pos ha,hb]
 rw[if_pos h,if_pos hn]
theorem qR{ms:List Mem}(h:ba ms=0):∀m∈ms,m.e=0:=by
 obtain⟨_,_,h3⟩:=aF h;exact dh ms h3
theorem ll{rs:List bE}(h:ee rs=0):rs.length<=20/\(∀r∈rs,r.m.e=0)/\gy rs/\ev rs:=by
 unfold ee at h;split at h
 .cases h
 .rename_i hn
  split at h
  .rename_i h1
   split at h
   .rename_i h2
    split at h
    .rename_i h3
     refine⟨by omega,λr hr=>?_,h2,h3⟩;exact dh _ h1 r.m (List.mem_map.2 ⟨r,hr,rfl⟩)
    .cases h
   .cases h
  .rename_i h1;exact absurd h h1
theorem Kh{ms:List Mem}{r:bE}(h:ba ms=0)(hr:r.m.e=0):dz ms r=yx ms r:=by
 unfold dz yx;rcases hf:du ms r.m.name with _|k
 .rfl
 .have hk:=o5 hf
  simp only;rw[aa0 hr (qR h k hk.1) hk.2.symm];simp
theorem Ki{ms:List Mem}{rs:List bE}(h:ba ms=0)(hr:ee rs=0):rs.any (dz ms)=rs.any (yx ms):=by
 have h2:=(ll hr).2.1;clear hr;induction rs with
 |nil=>rfl
 |cons r l ih=>
  rw[List.any_cons,List.any_cons,Kh h (h2 r (by simp)),ih (λx hx=>h2 x (by simp[hx]))]
theorem uE(n:Nd)(b:Nat)(vm vr vs vg vw:Value)(w:World)(h:jL w n vm vr vs vg vw)(hg:w.heap[b]?=Z (AT (fD n vm vr vs vg vw) 81 (0,0)))(hp:n.pE=0) :
 nZ 77 #[If (Z ⟨b,0,Y⟩)] w (O J n.wE):=by
 have SO:Hid n.WC:=Nd.parts hp;have hb:b<w.heap.size:=(Ia.1 hg).1;have oA:n.ms.length<=20:=(aF SO.out.ms).1;have hrl:n.rs.length<=20:=(ll SO.out.rs).1;have HWE:Hid (n.wE=match du n.ms n.name with
  |none=>5
  |some m=>if m.state=2\/m.state=3 then 4 else if n.rs.any (dz n.ms)=true then 4 else 0):=by
  show n.wE=_;rw[Ki SO.out.ms SO.out.rs];rfl
 obtain⟨nm,ct,ms,rs,sv,gw,⟨px,py,pz,ph,pq⟩,wh⟩:=n;obtain⟨j5,sX,_,_,_,_,_⟩:=h;simp only at j5 sX hg oA hrl HWE;generalize Nd.wE ⟨nm,ct,ms,rs,sv,gw,⟨px,py,pz,ph,pq⟩,wh⟩=res at *;obtain⟨am,cm,rfl,Bl,Bm⟩:=j5;have j5:Sl w (U am ms.length cm) ms:=⟨am,cm,rfl,Bl,Bm⟩;clear Bl Bm;have HX:Hid (∀W,Below w.heap.size w W->W.cell? ⟨b,0,Y⟩=Z (I nm)/\W.cell? ⟨b,2,Y⟩=Z (U am ms.length cm)/\W.cell? ⟨b,3,Y⟩=Z vr):=λW hW=>
  have tV:=(hW.block _ hb).trans hg
  ⟨af tV 0,af tV 2,af tV 3⟩
 have Vj:Hid (∀(W:World) (t:ByteArray),Below w.heap.size w W->nZ 104 #[If (Z ⟨b,0,Y⟩),I t] W (.tuple #[Im #[I (eD ms t).name,O J (eD ms t).state,O J (eD ms t).aX,O J (eD ms t).addr,AI (eD ms t).server],AI (du ms t).isSome])):=λW t hW=>
  jW b am ms.length cm ms t W (HX.out W hW).2.1 (j5.below hW) (by omega)
 have HCF:Hid (∀W,Below w.heap.size w W->nZ 132 #[vr,.func (.func 133) #[If (Z ⟨b,0,Y⟩)] #[]] W (AI (rs.any (dz ms)))):=λW hW=>
  yZ b am ms.length cm ms rs vr W (sX.below hW) (HX.out W hW).2.1 (j5.below hW) (by omega) (by omega)
 clear j5 sX;generalize rs.any (dz ms)=ab at *;obtain⟨y0,y2,y3⟩:=HX.out w (Ib _ _);clear hg;go_enter Tryz.func77,Tryz.ntmps77;go_wp2_with fail;refine(Vj.out _ nm (Ib _ _)).mono ?_;rintro e w1 ⟨rfl,al⟩;have aR:Hid _:=al;clear al y0 y2 y3;rcases hf:du ms nm with _|m
 .have HR:Hid _:=HWE.out.trans (by rw[hf])
  have Gh:=uA hf;rw[Gh];clear hf Gh;go_wp2_with fail;go_ret;exact⟨aj HR.out.symm,aR.out.alloc aR.out.size _⟩
 .have HR:Hid _:=HWE.out.trans (by rw[hf])
  have Gh:=kG hf;rw[Gh];clear hf Gh;obtain⟨mn,st,lf,ad,WZ⟩:=m;simp only at HR;by_cases h2:st=2
  .subst h2
   have my:Hid (res=4):=HR.out.trans (by simp);go_wp2_with fail;go_ret;exact⟨aj my.out.symm,aR.out.alloc aR.out.size _⟩
  .by_cases h3:st=3
   .subst h3
    have my:Hid (res=4):=HR.out.trans (by simp);go_wp2_with fail;go_ret;exact⟨aj my.out.symm,aR.out.alloc aR.out.size _⟩
   .have my:Hid _:=HR.out.trans (if_neg (by omega))
    have yA:(st==2)=false:=by simpa using h2
    have h3':(st==3)=false:=by simpa using h3
    clear h2 h3 HR;obtain⟨W2,eX⟩:∃W2,W2=w1.alloc (AT #[I mn,O J st,O J lf,O J ad,AI WZ] 70):=⟨_,rfl⟩;have bw:Hid (Below w.heap.size w W2):=by rw[eX];exact aR.out.alloc aR.out.size _
    obtain⟨y0,y2,y3⟩:=HX.out W2 bw.out;rw[eX] at y0 y2 y3;go_wp2_with fail;rw[<- eX];refine(HCF.out _ bw.out).mono ?_;rintro e w3 ⟨rfl,bf⟩;have da:Hid _:=bw.out.trans (bf.mono bw.out.size);clear bf y0 y2 y3 eX;cases ab
    .go_wp2_with fail
     go_ret;exact⟨aj my.out.symm,da.out⟩
    .go_wp2_with fail
     go_ret;exact⟨aj my.out.symm,da.out⟩
theorem oD(n:Nd)(vm vr vs vg vw:Value)(w:World)(h:jL w n vm vr vs vg vw) :
 nZ 30 #[Im (fD n vm vr vs vg vw)] w (O J n.e):=by
 have HI:Hid _:=h;have HE:Hid (n.e=if n.pE=0 then n.wE else n.pE):=rfl;obtain⟨W,hW⟩:∃W,W=(w.alloc (AT (fD n vm vr vs vg vw) 30)).alloc (AT (fD n vm vr vs vg vw) 81):=⟨_,rfl⟩;have ez:Below w.heap.size w W:=by rw[hW];exact((Ib _ _).alloc (By _) _).alloc (by simp) _
 have hg:W.heap[w.heap.size+1]?=Z (AT (fD n vm vr vs vg vw) 81 (0,0)):=by
  have h:=Ie (w.alloc (AT (fD n vm vr vs vg vw) 30)) (AT (fD n vm vr vs vg vw) 81);rw[hW];simpa using h
 have oX:W.heap.size=w.heap.size+2:=by rw[hW];simp
 have wm:Hid _:=ez;have HC:Hid (aP _ _ _ _):=uD n (w.heap.size+1) vm vr vs vg vw W (h.below ez) hg;have HD:Hid (n.pE=0->∀W1,Below W.heap.size W W1->nZ 77 #[If (Z ⟨w.heap.size+1,0,Y⟩)] W1 (O J n.wE)):=λhp W1 h1=>
  uE n (w.heap.size+1) vm vr vs vg vw W1 ((h.below ez).below h1) ((h1.block _ (by omega)).trans hg) hp
 obtain⟨nm,ct,ms,rs,sv,gw,⟨px,py,pz,ph,pq⟩,wh⟩:=n;obtain⟨⟨am,cm,rfl,_,_⟩,⟨ar,cr,rfl,_,_⟩,⟨aq,cq,rfl,_,_⟩,⟨ag,cg,rfl,_,_⟩,⟨aw,cw,rfl,_,_⟩,_,_⟩:=h;generalize Nd.e ⟨nm,ct,ms,rs,sv,gw,⟨px,py,pz,ph,pq⟩,wh⟩=res at *;generalize Nd.pE ⟨nm,ct,ms,rs,sv,gw,⟨px,py,pz,ph,pq⟩,wh⟩=pe at *;generalize Nd.wE ⟨nm,ct,ms,rs,sv,gw,⟨px,py,pz,ph,pq⟩,wh⟩=we at *;simp only[fD] at hW ⊢;clear hg ez;generalize ms.length=nms at *;generalize rs.length=nrs at *;generalize sv.length=nsv at *;generalize gw.length=ngw at *;generalize wh.length=nwh at *;go_enter Tryz.func30,Tryz.ntmps30;go_wp2_with fail;rw[<- hW];refine HC.out.mono ?_;rintro e w1 ⟨rfl,al⟩;have aR:Hid _:=al;have pK:Hid _:=wm.out.trans (al.mono (by omega));clear al;by_cases hp:pe=0
 .have lQ:=HD.out hp w1 aR.out
  have HR:Hid _:=HE.out.trans (if_pos hp);subst hp;clear HD HE;go_wp2_with fail;refine lQ.mono ?_;rintro e w2 ⟨rfl,aC⟩;have DN:Hid _:=pK.out.trans (aC.mono pK.out.size);clear aC;go_wp2_with fail;go_ret;exact⟨aj HR.out.symm,DN.out⟩
 .have hp':(pe !=0)=true:=by simpa using hp
  have HR:Hid _:=HE.out.trans (if_neg hp);clear hp HD HE;go_wp2_with fail;go_ret;exact⟨aj HR.out.symm,pK.out⟩
theorem bM{W:World}{b:Nat}{T:Jc}{f:Nat×Nat}{c0 c1 c2 c3 c4 c5 c6 c7 c8 c9 c10 c11:Value}(h:W.heap[b]?=Z (AT #[c0,c1,c2,c3,c4,c5,c6,c7,c8,c9,c10,c11] T f)):W.cell? ⟨b,0,Y⟩=Z c0/\W.cell? ⟨b,1,Y⟩=Z c1/\W.cell? ⟨b,2,Y⟩=Z c2/\W.cell? ⟨b,3,Y⟩=Z c3/\W.cell? ⟨b,4,Y⟩=Z c4/\W.cell? ⟨b,5,Y⟩=Z c5/\W.cell? ⟨b,6,Y⟩=Z c6/\W.cell? ⟨b,7,Y⟩=Z c7/\W.cell? ⟨b,8,Y⟩=Z c8/\W.cell? ⟨b,9,Y⟩=Z c9/\W.cell? ⟨b,10,Y⟩=Z c10/\W.cell? ⟨b,11,Y⟩=Z c11:=⟨af h 0,af h 1,af h 2,af h 3,af h 4,af h 5,af h 6,af h 7,af h 8,af h 9,af h 10,af h 11⟩
theorem mK{W:World}{b:Nat}{T:Jc}{cs:Array Value}(h:W.heap[b]?=Z (AT cs T (0,0))):W.frozen? ⟨b,0,Y⟩=false/\W.frozen? ⟨b,1,Y⟩=false/\W.frozen? ⟨b,2,Y⟩=false/\W.frozen? ⟨b,3,Y⟩=false/\W.frozen? ⟨b,4,Y⟩=false/\W.frozen? ⟨b,5,Y⟩=false/\W.frozen? ⟨b,6,Y⟩=false/\W.frozen? ⟨b,7,Y⟩=false/\W.frozen? ⟨b,8,Y⟩=false/\W.frozen? ⟨b,9,Y⟩=false/\W.frozen? ⟨b,10,Y⟩=false/\W.frozen? ⟨b,11,Y⟩=false:=by simp[Ig,h]
theorem qS{W:World}{b:Nat}{T:Jc}{f:Nat×Nat}{c0 c1 c2 c3 c4 c5 c6 c7 c8:Value}(h:W.heap[b]?=Z (AT #[c0,c1,c2,c3,c4,c5,c6,c7,c8] T f)):W.cell? ⟨b,0,Y⟩=Z c0/\W.cell? ⟨b,1,Y⟩=Z c1/\W.cell? ⟨b,2,Y⟩=Z c2/\W.cell? ⟨b,3,Y⟩=Z c3/\W.cell? ⟨b,4,Y⟩=Z c4/\W.cell? ⟨b,5,Y⟩=Z c5/\W.cell? ⟨b,6,Y⟩=Z c6/\W.cell? ⟨b,7,Y⟩=Z c7/\W.cell? ⟨b,8,Y⟩=Z c8:=⟨af h 0,af h 1,af h 2,af h 3,af h 4,af h 5,af h 6,af h 7,af h 8⟩
theorem ah0{W:World}{b:Nat}{T:Jc}{cs:Array Value}(h:W.heap[b]?=Z (AT cs T (0,0))):W.frozen? ⟨b,0,Y⟩=false/\W.frozen? ⟨b,1,Y⟩=false/\W.frozen? ⟨b,2,Y⟩=false/\W.frozen? ⟨b,3,Y⟩=false/\W.frozen? ⟨b,4,Y⟩=false/\W.frozen? ⟨b,5,Y⟩=false/\W.frozen? ⟨b,6,Y⟩=false/\W.frozen? ⟨b,7,Y⟩=false/\W.frozen? ⟨b,8,Y⟩=false:=by simp[Ig,h]
theorem gV{W:World}{b:Nat}{T:Jc}{f:Nat×Nat}{c0 c1 c2 c3 c4 c5:Value}(h:W.heap[b]?=Z (AT #[c0,c1,c2,c3,c4,c5] T f)):W.cell? ⟨b,0,Y⟩=Z c0/\W.cell? ⟨b,1,Y⟩=Z c1/\W.cell? ⟨b,2,Y⟩=Z c2/\W.cell? ⟨b,3,Y⟩=Z c3/\W.cell? ⟨b,4,Y⟩=Z c4/\W.cell? ⟨b,5,Y⟩=Z c5:=⟨af h 0,af h 1,af h 2,af h 3,af h 4,af h 5⟩
theorem PM{W:World}{b:Nat}{T:Jc}{cs:Array Value}(h:W.heap[b]?=Z (AT cs T (0,0))):W.frozen? ⟨b,0,Y⟩=false/\W.frozen? ⟨b,1,Y⟩=false/\W.frozen? ⟨b,2,Y⟩=false/\W.frozen? ⟨b,3,Y⟩=false/\W.frozen? ⟨b,4,Y⟩=false/\W.frozen? ⟨b,5,Y⟩=false:=by simp[Ig,h]
theorem zd{W:World}{b:Nat}{T:Jc}{f:Nat×Nat}{c0 c1 c2 c3 c4:Value}(h:W.heap[b]?=Z (AT #[c0,c1,c2,c3,c4] T f)):W.cell? ⟨b,0,Y⟩=Z c0/\W.cell? ⟨b,1,Y⟩=Z c1/\W.cell? ⟨b,2,Y⟩=Z c2/\W.cell? ⟨b,3,Y⟩=Z c3/\W.cell? ⟨b,4,Y⟩=Z c4:=⟨af h 0,af h 1,af h 2,af h 3,af h 4⟩
theorem gj{B b:Nat}{a w:World}(h:Below B a w)(hb:B<=b)(x0 x1 x2 x3 x4 x5 x6 x7 x8 x9 x10 x11:Value):Below B a ((((((((((((w.setCell ⟨b,0,Y⟩ x0).setCell ⟨b,1,Y⟩ x1).setCell ⟨b,2,Y⟩ x2).setCell ⟨b,3,Y⟩ x3).setCell ⟨b,4,Y⟩ x4).setCell ⟨b,5,Y⟩ x5).setCell ⟨b,6,Y⟩ x6).setCell ⟨b,7,Y⟩ x7).setCell ⟨b,8,Y⟩ x8).setCell ⟨b,9,Y⟩ x9).setCell ⟨b,10,Y⟩ x10).setCell ⟨b,11,Y⟩ x11):=((((((((((((h).setCell (p:=⟨b,0,Y⟩) hb _).setCell (p:=⟨b,1,Y⟩) hb _).setCell (p:=⟨b,2,Y⟩) hb _).setCell (p:=⟨b,3,Y⟩) hb _).setCell (p:=⟨b,4,Y⟩) hb _).setCell (p:=⟨b,5,Y⟩) hb _).setCell (p:=⟨b,6,Y⟩) hb _).setCell (p:=⟨b,7,Y⟩) hb _).setCell (p:=⟨b,8,Y⟩) hb _).setCell (p:=⟨b,9,Y⟩) hb _).setCell (p:=⟨b,10,Y⟩) hb _).setCell (p:=⟨b,11,Y⟩) hb _
theorem bN{base b n k:Nat}{T:Jc}{w:World}{v:Value}{xs:List Value}(h:w.ownsRow base T k v n xs)(hb:b<base)(x0 x1 x2 x3 x4 x5 x6 x7 x8 x9 x10 x11:Value):((((((((((((w.setCell ⟨b,0,Y⟩ x0).setCell ⟨b,1,Y⟩ x1).setCell ⟨b,2,Y⟩ x2).setCell ⟨b,3,Y⟩ x3).setCell ⟨b,4,Y⟩ x4).setCell ⟨b,5,Y⟩ x5).setCell ⟨b,6,Y⟩ x6).setCell ⟨b,7,Y⟩ x7).setCell ⟨b,8,Y⟩ x8).setCell ⟨b,9,Y⟩ x9).setCell ⟨b,10,Y⟩ x10).setCell ⟨b,11,Y⟩ x11).ownsRow base T k v n xs:=Ik (Ik (Ik (Ik (Ik (Ik (Ik (Ik (Ik (Ik (Ik (Ik (h) (a:=⟨b,0,Y⟩) hb _) (a:=⟨b,1,Y⟩) hb _) (a:=⟨b,2,Y⟩) hb _) (a:=⟨b,3,Y⟩) hb _) (a:=⟨b,4,Y⟩) hb _) (a:=⟨b,5,Y⟩) hb _) (a:=⟨b,6,Y⟩) hb _) (a:=⟨b,7,Y⟩) hb _) (a:=⟨b,8,Y⟩) hb _) (a:=⟨b,9,Y⟩) hb _) (a:=⟨b,10,Y⟩) hb _) (a:=⟨b,11,Y⟩) hb _
structure gK(B:Nat)(w:World)(n:Nd)(vm vr vs vg vw:Value):Prop where
 ms:Own B w vm n.ms
 rs:cd B w vr n.rs
 sv:Sv.Own B w vs n.sv
 gw:Gw.Own B w vg n.gw
 wh:Wh.Own B w vw n.wh
theorem az{base n k:Nat}{T:Jc}{w:World}{v:Value}{xs:List Value}(h:w.ownsRow base T k v n xs):∃a c,v=U a n c/\n<=c:=by
 rcases h.2 with⟨h1,h2⟩|⟨g,c,cur,h1,_,_,hn,_⟩
 .subst h2;exact⟨Y,0,h1,By _⟩
 .exact⟨_,c,h1,hn⟩
theorem gK.below{B:Nat}{w w':World}{n:Nd}{vm vr vs vg vw:Value}(h:gK B w n vm vr vs vg vw)(hb:Below w.heap.size w w'):gK B w' n vm vr vs vg vw:=⟨h.ms.below hb,h.rs.below hb,h.sv.below hb,h.gw.below hb,h.wh.below hb⟩
structure oE(n:Nd):Prop where
 ms:∀m∈n.ms,m.name.size<=Ij
 rs:∀r∈n.rs,r.m.name.size<=Ij
 sv:∀m∈n.sv,m.ok
 gw:∀m∈n.gw,m.ok
 wh:∀m∈n.wh,m.ok
 name:n.name.size<=Ij
 ai:n.ai.size<=Ij
theorem jL.ok{w:World}{n:Nd}{vm vr vs vg vw:Value}(h:jL w n vm vr vs vg vw):oE n:=by
 obtain⟨⟨_,_,_,h1,_⟩,⟨_,_,_,h2,_⟩,⟨_,_,_,h3,_⟩,⟨_,_,_,h4,_⟩,⟨_,_,_,h5,_⟩,h6,h7⟩:=h;exact⟨cZ h1,Ts h2,Sv.cZ h3,Gw.cZ h4,Wh.cZ h5,h6,h7⟩
theorem gK.is{B:Nat}{w:World}{n:Nd}{vm vr vs vg vw:Value}(h:gK B w n vm vr vs vg vw)(hk:oE n):jL w n vm vr vs vg vw:=
 ⟨h.ms.sl (cB hk.ms),h.rs.sl (Tr hk.rs),h.sv.sl (Sv.cB hk.sv),h.gw.sl (Gw.cB hk.gw),h.wh.sl (Wh.cB hk.wh),hk.name,hk.ai⟩
theorem xI(n:Nd)(vm vr vs vg vw:Value)(w:World)(h:jL w n vm vr vs vg vw)(l1:n.ms.length<=1000)(l2:n.rs.length<=1000)(l3:n.sv.length<=1000)(l4:n.gw.length<=1000)(l5:n.wh.length<=1000) :
 aP 48 #[Im (fD n vm vr vs vg vw)] w λe w'=>∃um ur us ug uw,e=.returned (Im (fD n um ur us ug uw))/\gK w.heap.size w' n um ur us ug uw/\Below w.heap.size w w':=by
 obtain⟨nm,ct,ms,rs,sv,gw,⟨px,py,pz,ph,pq⟩,wh⟩:=n;obtain⟨hm,hr,hs,nN,hh,_,_⟩:=h;simp only at hm hr hs nN hh l1 l2 l3 l4 l5;have Hm:Hid (∀W,Below w.heap.size w W->aP _ _ _ _):=λW hW=>fZ ms vm W (hm.below hW) l1;have Hr:Hid (∀W,Below w.heap.size w W->aP _ _ _ _):=λW hW=>fU rs vr W (hr.below hW) l2;have Hs:Hid (∀W,Below w.heap.size w W->aP _ _ _ _):=λW hW=>Sv.fZ sv vs W (hs.below hW) l3;have Hg:Hid (∀W,Below w.heap.size w W->aP _ _ _ _):=λW hW=>Gw.fZ gw vg W (nN.below hW) l4;have Hh:Hid (∀W,Below w.heap.size w W->aP _ _ _ _):=λW hW=>Wh.fZ wh vw W (hh.below hW) l5;obtain⟨em,cm,rfl,_,_⟩:=hm;obtain⟨er,cr,rfl,_,_⟩:=hr;obtain⟨es,cs,rfl,_,_⟩:=hs;obtain⟨eg,cg,rfl,_,_⟩:=nN;obtain⟨eh,ch,rfl,_,_⟩:=hh;generalize hNm:ms.length=km at *;have HNm:Hid _:=hNm;clear hNm;generalize hNr:rs.length=kr at *;have HNr:Hid _:=hNr;clear hNr;generalize hNs:sv.length=ks at *;have XG:Hid _:=hNs;clear hNs;generalize hNg:gw.length=kg at *;have HNg:Hid _:=hNg;clear hNg;generalize hNh:wh.length=kh at *;have HNh:Hid _:=hNh;clear hNh;simp only[fD];obtain⟨W0,dK⟩:∃W0,W0=(w.alloc (AT #[I nm,I ct,U em km cm,U er kr cr,U es ks cs,U eg kg cg,O J px,O J py,O J pz,O J ph,O J pq,U eh kh ch] 30)).alloc (AT #[I ⟨#[]⟩,I ⟨#[]⟩,U Y 0 0,U Y 0 0,U Y 0 0,U Y 0 0,O J 0,O J 0,O J 0,O J 0,O J 0,U Y 0 0] 30):=⟨_,rfl⟩;have df:Below w.heap.size w W0:=by rw[dK];exact((Ib _ _).alloc (By _) _).alloc (by simp) _
 have dt:W0.heap[w.heap.size]?=Z (AT #[I nm,I ct,U em km cm,U er kr cr,U es ks cs,U eg kg cg,O J px,O J py,O J pz,O J ph,O J pq,U eh kh ch] 30 (0,0)):=by
  rw[dK,Below.heap_alloc _ _ _ (by simp)];exact Ie w _
 have bW:W0.heap[w.heap.size+1]?=Z (AT #[I ⟨#[]⟩,I ⟨#[]⟩,U Y 0 0,U Y 0 0,U Y 0 0,U Y 0 0,O J 0,O J 0,O J 0,O J 0,O J 0,U Y 0 0] 30 (0,0)):=by
  have h:=Ie (w.alloc (AT #[I nm,I ct,U em km cm,U er kr cr,U es ks cs,U eg kg cg,O J px,O J py,O J pz,O J ph,O J pq,U eh kh ch] 30)) (AT #[I ⟨#[]⟩,I ⟨#[]⟩,U Y 0 0,U Y 0 0,U Y 0 0,U Y 0 0,O J 0,O J 0,O J 0,O J 0,O J 0,U Y 0 0] 30);rw[dK];simpa using h
 have nP:w.heap.size+1<W0.heap.size:=by rw[dK];simp
 have dy:Hid _:=df;have wB:Hid _:=dt;have xJ:Hid _:=bW;clear df dt bW;go_enter Tryz.func48,Tryz.ntmps48;go_wp2_with fail;rw[<- dK];clear dK;refine(Hm.out W0 dy.out).mono ?_;rintro e X1 ⟨v',rfl,ho,hx⟩;obtain⟨bm,Kj,rO,_⟩:=az ho;rw[HNm.out] at rO;subst rO;have eu:=(hx.block _ (by omega)).trans wB.out;obtain⟨y0,y1,y2,y3,y4,y5,y6,y7,y8,y9,y10,y11⟩:=bM eu;have z2:X1.frozen? ⟨w.heap.size,2,Y⟩=false:=by simp[Ig,eu]
 have Vk:w.heap.size<X1.heap.size:=by have:=hx.size;omega
 obtain⟨W1,e9⟩:∃W1,W1=X1.setCell ⟨w.heap.size,2,Y⟩ (U bm km Kj):=⟨_,rfl⟩;have jo:Hid (W1.heap[w.heap.size]?=Z (AT #[I nm,I ct,U bm km Kj,U er kr cr,U es ks cs,U eg kg cg,O J px,O J py,O J pz,O J ph,O J pq,U eh kh ch] 30 (0,0))):=by rw[e9];exact Is (i:=2) eu _
 have Mi:Hid (W1.heap[w.heap.size+1]?=Z (AT #[I ⟨#[]⟩,I ⟨#[]⟩,U Y 0 0,U Y 0 0,U Y 0 0,U Y 0 0,O J 0,O J 0,O J 0,O J 0,O J 0,U Y 0 0] 30 (0,0))):=by rw[e9];exact(IB _ _ _ _ (by simp)).trans ((hx.block _ (by omega)).trans xJ.out)
 have ah1:Hid (Own (w.heap.size+2) W1 (U bm km Kj) ms):=by rw[e9];exact Ik (ho.mono (by omega)) (by simp) _
 have aR:Hid (Below w.heap.size w W1):=by rw[e9];exact(dy.out.trans (hx.mono dy.out.size)).setCell (p:=⟨w.heap.size,2,Y⟩) (by simp) _
 have gI:=(Ia.1 Mi.out).1;clear ho hx eu nP;go_wp2_with fail;rw[<- e9];clear e9 y0 y1 y2 y3 y4 y5 y6 y7 y8 y9 y10 y11 z2 Vk;refine(Hr.out W1 aR.out).mono ?_;rintro e X2 ⟨v',rfl,ho,hx⟩;obtain⟨br,PN,rO,_⟩:=az ho;rw[HNr.out] at rO;subst rO;have eu:=(hx.block _ (by omega)).trans jo.out;obtain⟨y0,y1,y2,y3,y4,y5,y6,y7,y8,y9,y10,y11⟩:=bM eu;have z3:X2.frozen? ⟨w.heap.size,3,Y⟩=false:=by simp[Ig,eu]
 have Vk:w.heap.size<X2.heap.size:=by have:=hx.size;omega
 obtain⟨W2,eX⟩:∃W2,W2=X2.setCell ⟨w.heap.size,3,Y⟩ (U br kr PN):=⟨_,rfl⟩;have oq:Hid (W2.heap[w.heap.size]?=Z (AT #[I nm,I ct,U bm km Kj,U br kr PN,U es ks cs,U eg kg cg,O J px,O J py,O J pz,O J ph,O J pq,U eh kh ch] 30 (0,0))):=by rw[eX];exact Is (i:=3) eu _
 have iS:Hid (W2.heap[w.heap.size+1]?=Z (AT #[I ⟨#[]⟩,I ⟨#[]⟩,U Y 0 0,U Y 0 0,U Y 0 0,U Y 0 0,O J 0,O J 0,O J 0,O J 0,O J 0,U Y 0 0] 30 (0,0))):=by rw[eX];exact(IB _ _ _ _ (by simp)).trans ((hx.block _ (by omega)).trans Mi.out)
 have ah2:Hid (cd (w.heap.size+2) W2 (U br kr PN) rs):=by rw[eX];exact Ik (ho.base (by omega)) (by simp) _
 have ah3:Hid (Own (w.heap.size+2) W2 (U bm km Kj) ms):=by rw[eX];exact Ik (ah1.out.below hx) (by simp) _
 have bw:Hid (Below w.heap.size w W2):=by rw[eX];exact(aR.out.trans (hx.mono aR.out.size)).setCell (p:=⟨w.heap.size,3,Y⟩) (by simp) _
 have iZ:=(Ia.1 iS.out).1;clear ho hx eu gI;go_wp2_with fail;rw[<- eX];clear eX y0 y1 y2 y3 y4 y5 y6 y7 y8 y9 y10 y11 z3 Vk;refine(Hs.out W2 bw.out).mono ?_;rintro e X3 ⟨v',rfl,ho,hx⟩;obtain⟨bs,Vl,rO,_⟩:=az ho;rw[XG.out] at rO;subst rO;have eu:=(hx.block _ (by omega)).trans oq.out;obtain⟨y0,y1,y2,y3,y4,y5,y6,y7,y8,y9,y10,y11⟩:=bM eu;have z4:X3.frozen? ⟨w.heap.size,4,Y⟩=false:=by simp[Ig,eu]
 have Vk:w.heap.size<X3.heap.size:=by have:=hx.size;omega
 obtain⟨W3,kL⟩:∃W3,W3=X3.setCell ⟨w.heap.size,4,Y⟩ (U bs ks Vl):=⟨_,rfl⟩;have Nq:Hid (W3.heap[w.heap.size]?=Z (AT #[I nm,I ct,U bm km Kj,U br kr PN,U bs ks Vl,U eg kg cg,O J px,O J py,O J pz,O J ph,O J pq,U eh kh ch] 30 (0,0))):=by rw[kL];exact Is (i:=4) eu _
 have mr:Hid (W3.heap[w.heap.size+1]?=Z (AT #[I ⟨#[]⟩,I ⟨#[]⟩,U Y 0 0,U Y 0 0,U Y 0 0,U Y 0 0,O J 0,O J 0,O J 0,O J 0,O J 0,U Y 0 0] 30 (0,0))):=by rw[kL];exact(IB _ _ _ _ (by simp)).trans ((hx.block _ (by omega)).trans iS.out)
 have ah4:Hid (Sv.Own (w.heap.size+2) W3 (U bs ks Vl) sv):=by rw[kL];exact Ik (ho.mono (by omega)) (by simp) _
 have ah5:Hid (Own (w.heap.size+2) W3 (U bm km Kj) ms):=by rw[kL];exact Ik (ah3.out.below hx) (by simp) _
 have ah6:Hid (cd (w.heap.size+2) W3 (U br kr PN) rs):=by rw[kL];exact Ik (ah2.out.below hx) (by simp) _
 have da:Hid (Below w.heap.size w W3):=by rw[kL];exact(bw.out.trans (hx.mono bw.out.size)).setCell (p:=⟨w.heap.size,4,Y⟩) (by simp) _
 have Np:=(Ia.1 mr.out).1;clear ho hx eu iZ;go_wp2_with fail;rw[<- kL];clear kL y0 y1 y2 y3 y4 y5 y6 y7 y8 y9 y10 y11 z4 Vk;refine(Hg.out W3 da.out).mono ?_;rintro e X4 ⟨v',rfl,ho,hx⟩;obtain⟨bg,dg',rO,_⟩:=az ho;rw[HNg.out] at rO;subst rO;have eu:=(hx.block _ (by omega)).trans Nq.out;obtain⟨y0,y1,y2,y3,y4,y5,y6,y7,y8,y9,y10,y11⟩:=bM eu;have z5:X4.frozen? ⟨w.heap.size,5,Y⟩=false:=by simp[Ig,eu]
 have Vk:w.heap.size<X4.heap.size:=by have:=hx.size;omega
 obtain⟨W4,Cz⟩:∃W4,W4=X4.setCell ⟨w.heap.size,5,Y⟩ (U bg kg dg'):=⟨_,rfl⟩;have HG4:Hid (W4.heap[w.heap.size]?=Z (AT #[I nm,I ct,U bm km Kj,U br kr PN,U bs ks Vl,U bg kg dg',O J px,O J py,O J pz,O J ph,O J pq,U eh kh ch] 30 (0,0))):=by rw[Cz];exact Is (i:=5) eu _
 have HZ4:Hid (W4.heap[w.heap.size+1]?=Z (AT #[I ⟨#[]⟩,I ⟨#[]⟩,U Y 0 0,U Y 0 0,U Y 0 0,U Y 0 0,O J 0,O J 0,O J 0,O J 0,O J 0,U Y 0 0] 30 (0,0))):=by rw[Cz];exact(IB _ _ _ _ (by simp)).trans ((hx.block _ (by omega)).trans mr.out)
 have ah7:Hid (Gw.Own (w.heap.size+2) W4 (U bg kg dg') gw):=by rw[Cz];exact Ik (ho.mono (by omega)) (by simp) _
 have ah8:Hid (Own (w.heap.size+2) W4 (U bm km Kj) ms):=by rw[Cz];exact Ik (ah5.out.below hx) (by simp) _
 have ah9:Hid (cd (w.heap.size+2) W4 (U br kr PN) rs):=by rw[Cz];exact Ik (ah6.out.below hx) (by simp) _
 have aia:Hid (Sv.Own (w.heap.size+2) W4 (U bs ks Vl) sv):=by rw[Cz];exact Ik (ah4.out.below hx) (by simp) _
 have gJ:Hid (Below w.heap.size w W4):=by rw[Cz];exact(da.out.trans (hx.mono da.out.size)).setCell (p:=⟨w.heap.size,5,Y⟩) (by simp) _
 have Db:=(Ia.1 HZ4.out).1;clear ho hx eu Np;go_wp2_with fail;rw[<- Cz];clear Cz y0 y1 y2 y3 y4 y5 y6 y7 y8 y9 y10 y11 z5 Vk;refine(Hh.out W4 gJ.out).mono ?_;rintro e X5 ⟨v',rfl,ho,hx⟩;obtain⟨bh,dh',rO,_⟩:=az ho;rw[HNh.out] at rO;subst rO;have eu:=(hx.block _ (by omega)).trans HG4.out;obtain⟨y0,y1,y2,y3,y4,y5,y6,y7,y8,y9,y10,y11⟩:=bM eu;have z11:X5.frozen? ⟨w.heap.size,11,Y⟩=false:=by simp[Ig,eu]
 have Vk:w.heap.size<X5.heap.size:=by have:=hx.size;omega
 obtain⟨W5,pL⟩:∃W5,W5=X5.setCell ⟨w.heap.size,11,Y⟩ (U bh kh dh'):=⟨_,rfl⟩;have CA:Hid (W5.heap[w.heap.size]?=Z (AT #[I nm,I ct,U bm km Kj,U br kr PN,U bs ks Vl,U bg kg dg',O J px,O J py,O J pz,O J ph,O J pq,U bh kh dh'] 30 (0,0))):=by rw[pL];exact Is (i:=11) eu _
 have Vm:Hid (W5.heap[w.heap.size+1]?=Z (AT #[I ⟨#[]⟩,I ⟨#[]⟩,U Y 0 0,U Y 0 0,U Y 0 0,U Y 0 0,O J 0,O J 0,O J 0,O J 0,O J 0,U Y 0 0] 30 (0,0))):=by rw[pL];exact(IB _ _ _ _ (by simp)).trans ((hx.block _ (by omega)).trans HZ4.out)
 have aib:Hid (Wh.Own (w.heap.size+2) W5 (U bh kh dh') wh):=by rw[pL];exact Ik (ho.mono (by omega)) (by simp) _
 have aic:Hid (Own (w.heap.size+2) W5 (U bm km Kj) ms):=by rw[pL];exact Ik (ah8.out.below hx) (by simp) _
 have aid:Hid (cd (w.heap.size+2) W5 (U br kr PN) rs):=by rw[pL];exact Ik (ah9.out.below hx) (by simp) _
 have aie:Hid (Sv.Own (w.heap.size+2) W5 (U bs ks Vl) sv):=by rw[pL];exact Ik (aia.out.below hx) (by simp) _
 have aif:Hid (Gw.Own (w.heap.size+2) W5 (U bg kg dg') gw):=by rw[pL];exact Ik (ah7.out.below hx) (by simp) _
 have jE:Hid (Below w.heap.size w W5):=by rw[pL];exact(gJ.out.trans (hx.mono gJ.out.size)).setCell (p:=⟨w.heap.size,11,Y⟩) (by simp) _
 have WI:=(Ia.1 Vm.out).1;have gG:=Vm.out;have q0:=af gG 0;have p0:=af CA.out 0;have zz0:W5.frozen? ⟨w.heap.size+1,0,Y⟩=false:=by simp[Ig,gG]
 have q1:=af gG 1;have p1:=af CA.out 1;have zz1:W5.frozen? ⟨w.heap.size+1,1,Y⟩=false:=by simp[Ig,gG]
 have q2:=af gG 2;have p2:=af CA.out 2;have zz2:W5.frozen? ⟨w.heap.size+1,2,Y⟩=false:=by simp[Ig,gG]
 have q3:=af gG 3;have p3:=af CA.out 3;have zz3:W5.frozen? ⟨w.heap.size+1,3,Y⟩=false:=by simp[Ig,gG]
 have q4:=af gG 4;have p4:=af CA.out 4;have zz4:W5.frozen? ⟨w.heap.size+1,4,Y⟩=false:=by simp[Ig,gG]
 have q5:=af gG 5;have p5:=af CA.out 5;have zz5:W5.frozen? ⟨w.heap.size+1,5,Y⟩=false:=by simp[Ig,gG]
 have q6:=af gG 6;have p6:=af CA.out 6;have zz6:W5.frozen? ⟨w.heap.size+1,6,Y⟩=false:=by simp[Ig,gG]
 have q7:=af gG 7;have p7:=af CA.out 7;have zz7:W5.frozen? ⟨w.heap.size+1,7,Y⟩=false:=by simp[Ig,gG]
 have q8:=af gG 8;have p8:=af CA.out 8;have zz8:W5.frozen? ⟨w.heap.size+1,8,Y⟩=false:=by simp[Ig,gG]
 have q9:=af gG 9;have p9:=af CA.out 9;have zz9:W5.frozen? ⟨w.heap.size+1,9,Y⟩=false:=by simp[Ig,gG]
 have q10:=af gG 10;have p10:=af CA.out 10;have anN:W5.frozen? ⟨w.heap.size+1,10,Y⟩=false:=by simp[Ig,gG]
 have q11:=af gG 11;have p11:=af CA.out 11;have anO:W5.frozen? ⟨w.heap.size+1,11,Y⟩=false:=by simp[Ig,gG]
 clear ho hx eu Db gG;go_upto_region 6 with fail
 rw[<- pL];clear pL y0 y1 y2 y3 y4 y5 y6 y7 y8 y9 y10 y11 z11 Vk;go_wp2_with fail;refine bodyPost_ret (v:=Im #[I nm,I ct,U bm km Kj,U br kr PN,U bs ks Vl,U bg kg dg',O J px,O J py,O J pz,O J ph,O J pq,U bh kh dh']) ?_ rfl ⟨U bm km Kj,U br kr PN,U bs ks Vl,U bg kg dg',U bh kh dh',rfl,⟨?_,?_,?_,?_,?_⟩,?_⟩
 .simp[results,Tryz.results48,go_sem,q0,q1,q2,q3,q4,q5,q6,q7,q8,q9,q10,q11]
 .exact Own.mono (bN (aic.out) (by simp) _ _ _ _ _ _ _ _ _ _ _ _) (by omega)
 .exact cd.base (bN (aid.out) (by simp) _ _ _ _ _ _ _ _ _ _ _ _) (by omega)
 .exact Sv.Own.mono (bN (aie.out) (by simp) _ _ _ _ _ _ _ _ _ _ _ _) (by omega)
 .exact Gw.Own.mono (bN (aif.out) (by simp) _ _ _ _ _ _ _ _ _ _ _ _) (by omega)
 .exact Wh.Own.mono (bN (aib.out) (by simp) _ _ _ _ _ _ _ _ _ _ _ _) (by omega)
 .exact gj jE.out (by simp) _ _ _ _ _ _ _ _ _ _ _ _
structure Sh(S:Nat->Prop)(w w':World):Prop where
 os:w'.os=w.os
 tape:w'.tape=w.tape
 output:w'.output=w.output
 size:w.heap.size<=w'.heap.size
 block:∀k,k<w.heap.size->¬ S k->w'.heap[k]?=w.heap[k]?
theorem Sh.refl(S:Nat->Prop)(w:World):Sh S w w:=⟨rfl,rfl,rfl,By _,λ_ _ _=>rfl⟩
theorem Sh.trans{S:Nat->Prop}{a b c:World}(h:Sh S a b)(k:Sh S b c):Sh S a c:=⟨k.os.trans h.os,k.tape.trans h.tape,k.output.trans h.output,Nat.le_trans h.size k.size,λi hi hn=>(k.block i (Nat.lt_of_lt_of_le hi h.size) hn).trans (h.block i hi hn)⟩
theorem Sh.of{S:Nat->Prop}{w w':World}(h:Below w.heap.size w w'):Sh S w w':=⟨h.os,h.tape,h.output,h.size,λk hk _=>h.block k hk⟩
theorem Sh.next{S:Nat->Prop}{a w w':World}(h:Sh S a w)(k:Below w.heap.size w w'):Sh S a w':=h.trans (.of k)
theorem Sh.alloc{S:Nat->Prop}{a w:World}(h:Sh S a w)(o:Obj):Sh S a (w.alloc o):=h.next ((Ib _ _).alloc (By _) _)
theorem Sh.setCell{S:Nat->Prop}{a w:World}(h:Sh S a w){b i:Nat}(hb:S b)(x:Value):Sh S a (w.setCell ⟨b,i,Y⟩ x):=
 h.trans ⟨rfl,rfl,rfl,by simp[World.setCell],λk _ hn=>IB w _ x k (λe=>hn (by simp only at e;rw[e];exact hb))⟩
theorem Sh.below{S:Nat->Prop}{w w':World}{B:Nat}(h:Sh S w w')(hB:B<=w.heap.size)(hS:∀k,S k->B<=k):Below B w w':=⟨h.os,h.tape,h.output,h.size,λk hk=>h.block k (by omega) (λe=>by have:=hS k e;omega)⟩
theorem Sh.mono{S T:Nat->Prop}{w w':World}(h:Sh S w w')(hS:∀k,S k->T k):Sh T w w':=⟨h.os,h.tape,h.output,h.size,λk hk hn=>h.block k hk (λe=>hn (hS k e))⟩
theorem dZ{w:World}{b:Nat}{cs:Array Value}{T:Jc}(h:w.heap[b]?=Z (AT cs T (0,0)))(o:Nat):w.frozen? ⟨b,o,Y⟩=false:=by simp[Ig,h]
def Wk(L:Nat)(w:World)(b:Nat)(n:Nd):Prop:=∃vm vr vs vg vw,w.heap[b]?=Z (AT (fD n vm vr vs vg vw) 81 (0,0))/\gK L w n vm vr vs vg vw /\
 (vm.ownBlock≠Z b/\vr.ownBlock≠Z b/\vs.ownBlock≠Z b/\vg.ownBlock≠Z b/\vw.ownBlock≠Z b)/\oE n
theorem Wk.below{L b:Nat}{w w':World}{n:Nd}(h:Wk L w b n)(hb:Below w.heap.size w w'):Wk L w' b n:=by
 obtain⟨vm,vr,vs,vg,vw,h1,h2,h3,h4⟩:=h;exact⟨vm,vr,vs,vg,vw,(hb.block _ (Ia.1 h1).1).trans h1,h2.below hb,h3,h4⟩
theorem Wk.lt{L b:Nat}{w:World}{n:Nd}(h:Wk L w b n):b<w.heap.size:=by
 obtain⟨vm,vr,vs,vg,vw,h1,_⟩:=h;exact(Ia.1 h1).1
theorem Wk.PO{L b:Nat}{W w1:World}{n:Nd}(h:Wk L W b n)(hL:L<=W.heap.size)(hb:Below W.heap.size W w1){v:Value}{l:List Mem}(ho:Own W.heap.size w1 v l)(hl:(∀m∈l,m.name.size<=Ij)):Wk L (w1.setCell ⟨b,2,Y⟩ v) b { n with ms:=l }:=by
 obtain⟨vm,vr,vs,vg,vw,h1,h2,h3,h4⟩:=h;have aU:=(Ia.1 h1).1;refine⟨v,vr,vs,vg,vw,?_,⟨Iz (ho.mono hL) (λe=>by have:=ho.lt b e;omega) _,Iz (h2.rs.below hb) h3.2.1 _,Iz (h2.sv.below hb) h3.2.2.1 _,Iz (h2.gw.below hb) h3.2.2.2.1 _,Iz (h2.wh.below hb) h3.2.2.2.2 _⟩,⟨λe=>by have:=ho.lt b e;omega,h3.2.1,h3.2.2.1,h3.2.2.2.1,h3.2.2.2.2⟩,⟨hl,h4.rs,h4.sv,h4.gw,h4.wh,h4.name,h4.ai⟩⟩;exact Is (i:=2) ((hb.block _ aU).trans h1) v
theorem Wk.PQ{L b:Nat}{W w1:World}{n:Nd}(h:Wk L W b n)(hL:L<=W.heap.size)(hb:Below W.heap.size W w1){v:Value}{l:List bE}(ho:cd W.heap.size w1 v l)(hl:(∀r∈l,r.m.name.size<=Ij)):Wk L (w1.setCell ⟨b,3,Y⟩ v) b { n with rs:=l }:=by
 obtain⟨vm,vr,vs,vg,vw,h1,h2,h3,h4⟩:=h;have aU:=(Ia.1 h1).1;refine⟨vm,v,vs,vg,vw,?_,⟨Iz (h2.ms.below hb) h3.1 _,Iz (ho.base hL) (λe=>by have:=ho.lt b e;omega) _,Iz (h2.sv.below hb) h3.2.2.1 _,Iz (h2.gw.below hb) h3.2.2.2.1 _,Iz (h2.wh.below hb) h3.2.2.2.2 _⟩,⟨h3.1,λe=>by have:=ho.lt b e;omega,h3.2.2.1,h3.2.2.2.1,h3.2.2.2.2⟩,⟨h4.ms,hl,h4.sv,h4.gw,h4.wh,h4.name,h4.ai⟩⟩;exact Is (i:=3) ((hb.block _ aU).trans h1) v
theorem Wk.DQ{L b:Nat}{W w1:World}{n:Nd}(h:Wk L W b n)(hL:L<=W.heap.size)(hb:Below W.heap.size W w1){v:Value}{l:List Sv.aI}(ho:Sv.Own W.heap.size w1 v l)(hl:(∀m∈l,m.ok)):Wk L (w1.setCell ⟨b,4,Y⟩ v) b { n with sv:=l }:=by
 obtain⟨vm,vr,vs,vg,vw,h1,h2,h3,h4⟩:=h;have aU:=(Ia.1 h1).1;refine⟨vm,vr,v,vg,vw,?_,⟨Iz (h2.ms.below hb) h3.1 _,Iz (h2.rs.below hb) h3.2.1 _,Iz (ho.mono hL) (λe=>by have:=ho.lt b e;omega) _,Iz (h2.gw.below hb) h3.2.2.2.1 _,Iz (h2.wh.below hb) h3.2.2.2.2 _⟩,⟨h3.1,h3.2.1,λe=>by have:=ho.lt b e;omega,h3.2.2.2.1,h3.2.2.2.2⟩,⟨h4.ms,h4.rs,hl,h4.gw,h4.wh,h4.name,h4.ai⟩⟩;exact Is (i:=4) ((hb.block _ aU).trans h1) v
theorem Wk.PR{L b:Nat}{W w1:World}{n:Nd}(h:Wk L W b n)(hL:L<=W.heap.size)(hb:Below W.heap.size W w1){v:Value}{l:List Gw.cD}(ho:Gw.Own W.heap.size w1 v l)(hl:(∀m∈l,m.ok)):Wk L (w1.setCell ⟨b,5,Y⟩ v) b { n with gw:=l }:=by
 obtain⟨vm,vr,vs,vg,vw,h1,h2,h3,h4⟩:=h;have aU:=(Ia.1 h1).1;refine⟨vm,vr,vs,v,vw,?_,⟨Iz (h2.ms.below hb) h3.1 _,Iz (h2.rs.below hb) h3.2.1 _,Iz (h2.sv.below hb) h3.2.2.1 _,Iz (ho.mono hL) (λe=>by have:=ho.lt b e;omega) _,Iz (h2.wh.below hb) h3.2.2.2.2 _⟩,⟨h3.1,h3.2.1,h3.2.2.1,λe=>by have:=ho.lt b e;omega,h3.2.2.2.2⟩,⟨h4.ms,h4.rs,h4.sv,hl,h4.wh,h4.name,h4.ai⟩⟩;exact Is (i:=5) ((hb.block _ aU).trans h1) v
end Go.Proofs.YtfidjlcdlakceaaGreatDoor
