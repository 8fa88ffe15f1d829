import Derived.Test.YtipbebleapjcjaaGreatDoornc15
import Derived.OneCell
set_option maxHeartbeats 25600000
set_option maxRecDepth 100000
open Array renaming getElem?_eq_some_iff->Ig
open Bool renaming and_eq_true->IP
open Go renaming MemPlace->Qn,TypeId->Ji,cell_regrown->Im,heap_alloc_new->Ii,maxLen->Il,ownsRow_setCell_other->IN,redrawn->IG
open Go.DataW renaming trod->Qi,trod_string->OA,trod_struct->Qb
open Go.Ending renaming returned->Ia
open Go.IntKind renaming i64->J
open Go.Joins renaming block_setCell->It
open Go.Obj renaming cells->Ib
open Go.Proofs.Tryz renaming prog->AT,underlying9->IF
open Go.RowKit renaming ownsRow_setCell_below->Io
open Go.RowKit.Below renaming heap_alloc->Iv,heap_setCell->IC,refl->If
open Go.Value renaming agg->Iu,bool->Ic,int->O,pointer->Ik,slice->sh,string->I,tuple->Ir
open Go.World renaming frozen?->Ij,setCell->Ui
open List renaming findIdx_le_length->QP,getD->Ip,getElem?_eq_getElem->Ih,getElem_mem->IU,getElem_of_mem->I2,length_append->Iq,length_set->Jm,mem_append->JI,mem_map->Ot,mem_or_eq_of_mem_set->Uj,pairwise_append->Ox,pairwise_iff_getElem->Jy,range->J5
open Nat renaming le_refl->By,lt_of_lt_of_le->Ix
open Option renaming none->U,some->AI
open Go.Proofs.Tryz
namespace Go.Proofs.YtipbebleapjcjaaGreatDoor
open Go.RowKit
abbrev sR(n:Nd)(vm vr vs vg vw:Value):Array Value:=#[I n.name,I n.mM,vm,vr,vs,vg,O J n.p.x,O J n.p.y,O J n.p.z,O J n.p.h,O J n.p.s,vw]
structure uL(w:World)(n:Nd)(vm vr vs vg vw:Value):Prop where
 ms:Sl w vm n.ms
 rs:yd w vr n.rs
 sv:Sv.Sl w vs n.sv
 gw:Gw.Sl w vg n.gw
 wh:Wh.Sl w vw n.wh
 name:n.name.size<=Il
 mM:n.mM.size<=Il
theorem uL.below{w w':World}{n:Nd}{vm vr vs vg vw:Value}(h:uL w n vm vr vs vg vw)(hb:Below w.heap.size w w'):uL w' n vm vr vs vg vw:=⟨h.ms.below hb,h.rs.below hb,h.sv.below hb,h.gw.below hb,h.wh.below hb,h.name,h.mM⟩
theorem FE(w:World):Sl w (sh U 0 0) []:=⟨U,0,rfl,oz (λm hm=>by simp at hm),.inl rfl⟩
theorem Sv.FE(w:World):Sv.Sl w (sh U 0 0) []:=⟨U,0,rfl,Sv.oz (λm hm=>by simp at hm),.inl rfl⟩
theorem Gw.FE(w:World):Gw.Sl w (sh U 0 0) []:=⟨U,0,rfl,Gw.oz (λm hm=>by simp at hm),.inl rfl⟩
theorem adL{nm:ByteArray}{wh:List Wh.nZ}(h:mT nm=true):Pk.e ⟨nm,true,[],[],[],wh⟩=Wh.nu wh:=by
 unfold Pk.e;rw[if_pos (by simp[h])];rfl
theorem aap:Roomy (sh U 0 0):=by unfold Roomy;exact By _
theorem LC(nm:ByteArray)(wh:List Wh.nZ)(vw:Value)(W:World)(Rn:Wh.Sl W vw wh)(sg:nm.size<=Il)(hl:mT nm=true) :
 rI 65 #[Iu #[I nm,Ic true,sh U 0 0,sh U 0 0,sh U 0 0,vw]] W (O J (Wh.nu wh)):=by
 have hp:GQ W ⟨nm,true,[],[],[],wh⟩ (sh U 0 0) (sh U 0 0) (sh U 0 0) vw:=⟨FE W,Sv.FE W,Gw.FE W,Rn,sg,aap⟩;rw[<- adL hl];exact Fu ⟨nm,true,[],[],[],wh⟩ (sh U 0 0) (sh U 0 0) (sh U 0 0) vw W hp (.inl rfl)
theorem Kx{W:World}{cs:Array Value}{t:Ji}{g k:Nat}(hg:g=W.heap.size):((W.alloc (Ib cs t)).drew).cell? ⟨g,k,U⟩=cs[k]?:=by subst hg;exact fi (Ii W _) k
theorem NN(a b:ByteArray)(ha:a.size<=Il)(hb:b.size<=Il)(g c:Nat)(W:World)(h0:W.cell? ⟨g,0,U⟩=AI (I a))(h1:W.cell? ⟨g,1,U⟩=AI (I b)) :
 ni 50 #[sh (AI ⟨g,0,U⟩) 2 c] W λe w'=>e=Ia (Ic (mT a&&mT b))/\w'=W:=by
 have h:=AQ [a,b] g c W (λj hj=>by
  have:j=0\/j=1:=by simp at hj;omega
  rcases this with rfl|rfl
  .exact h0
  .exact h1) (λj=>by
  match j with
  |0=>exact ha
  |1=>exact hb
  |_+2=>simp[Ip]) (by simp)
 rw[show[a,b].all mT=(mT a&&mT b) by simp] at h;exact h
theorem FF(n:Nd)(b:Nat)(vm vr vs vg vw:Value)(w:World)(h:uL w n vm vr vs vg vw)(hg:w.heap[b]?=AI (Ib (sR n vm vr vs vg vw) 41 (0,0))) :
 rI 29 #[Ik (AI ⟨b,0,U⟩)] w (O J n.pE):=by
 obtain⟨nm,ct,ms,rs,sv,gw,⟨px,py,pz,ph,pq⟩,wh⟩:=n;obtain⟨vP,A3,V7,Bo,Rn,sg,V5⟩:=h;simp only at vP A3 V7 Bo Rn sg V5 hg;have hb:=(Ig.1 hg).1;have HM:Hid (∀W,Below w.heap.size w W->ni _ _ _ _):=λW hW=>nU ms vm W (vP.below hW);have NO:Hid (∀W,Below w.heap.size w W->ni _ _ _ _):=λW hW=>sP rs vr W (A3.below hW);have HS:Hid (∀W,Below w.heap.size w W->ni _ _ _ _):=λW hW=>Sv.nU sv vs W (V7.below hW);have HG:Hid (∀W,Below w.heap.size w W->ni _ _ _ _):=λW hW=>Gw.nU gw vg W (Bo.below hW);have HP:Hid (∀W,Below w.heap.size w W->ni _ _ _ _):=λW _=>vq ⟨px,py,pz,ph,pq⟩ W;have HX:Hid (∀W,Below w.heap.size w W->W.cell? ⟨b,0,U⟩=AI (I nm)/\W.cell? ⟨b,1,U⟩=AI (I ct)/\W.cell? ⟨b,2,U⟩=AI vm/\W.cell? ⟨b,3,U⟩=AI vr/\W.cell? ⟨b,4,U⟩=AI vs/\W.cell? ⟨b,5,U⟩=AI vg/\W.cell? ⟨b,6,U⟩=AI (O J px)/\W.cell? ⟨b,7,U⟩=AI (O J py)/\W.cell? ⟨b,8,U⟩=AI (O J pz)/\W.cell? ⟨b,9,U⟩=AI (O J ph)/\W.cell? ⟨b,10,U⟩=AI (O J pq)/\W.cell? ⟨b,11,U⟩=AI vw):=λW hW=>
  have Ad:=(hW.block _ hb).trans hg
  ⟨fi Ad 0,fi Ad 1,fi Ad 2,fi Ad 3,fi Ad 4,fi Ad 5,fi Ad 6,fi Ad 7,fi Ad 8,fi Ad 9,fi Ad 10,fi Ad 11⟩
 have HE:Nd.pE ⟨nm,ct,ms,rs,sv,gw,⟨px,py,pz,ph,pq⟩,wh⟩=if(mT nm&&mT ct)=true then
  (if nu ms=0 then(if o5 rs=0 then(if Sv.nu sv=0 then(if Gw.nu gw=0 then(if nV ⟨px,py,pz,ph,pq⟩=0 then Wh.nu wh else nV ⟨px,py,pz,ph,pq⟩) else Gw.nu gw) else Sv.nu sv) else o5 rs) else nu ms) else 1:=by unfold Nd.pE;with_reducible rfl
 have HL:Hid (∀(W:World) (g:Nat),W.cell? ⟨g,0,U⟩=AI (I nm)->W.cell? ⟨g,1,U⟩=AI (I ct)->ni _ _ _ _):=λW g h0 h1=>NN nm ct sg V5 g 2 W h0 h1;have HW:Hid (mT nm=true->∀W,Below w.heap.size w W->rI 65 #[Iu #[I nm,Ic true,sh U 0 0,sh U 0 0,sh U 0 0,vw]] W (O J (Wh.nu wh))):=λhl W hW=>LC nm wh vw W (Rn.below hW) sg hl;have HLN:Hid ((mT nm&&mT ct)=true->mT nm=true):=λh=>by rw[IP] at h;exact h.1
 generalize(mT nm&&mT ct)=lb at *;generalize Nd.pE ⟨nm,ct,ms,rs,sv,gw,⟨px,py,pz,ph,pq⟩,wh⟩=res at *;generalize nu ms=m1 at *;generalize o5 rs=r1 at *;generalize Sv.nu sv=s1 at *;generalize Gw.nu gw=g1 at *;generalize nV ⟨px,py,pz,ph,pq⟩=p1 at *;generalize Wh.nu wh=wz at *;obtain⟨a5,c5,rfl,_,_⟩:=Rn;generalize wh.length=n5 at *;clear vP A3 V7 Bo;obtain⟨y0,y1,y2,y3,y4,y5,y6,y7,y8,y9,y10,y11⟩:=HX.out w (If _ _);clear hg;go_enter func29,ntmps29;go_wp2_with fail;go_region_held3 (λw'=>w'.cell? ⟨b,0,U⟩=AI (I nm)/\w'.cell? ⟨b,1,U⟩=AI (I ct)) (go_keep) (first|(go_at_call 50;refine(HL.out _ _ (Kx rfl) (Kx rfl)).mono ?_;rintro e w' ⟨rfl,rfl⟩))
 obtain⟨W0,rm⟩:∃W0,W0=(w.alloc (Ib #[I nm,I ct] 9)).drew:=⟨_,rfl⟩;have pN:Hid (Below w.heap.size w W0):=by rw[rm];exact((If _ _).alloc (By _) _).drew
 rw[<- rm];clear rm HL y0 y1 y2 y3 y4 y5 y6 y7 y8 y9 y10 y11;obtain⟨y0,y1,y2,y3,y4,y5,y6,y7,y8,y9,y10,y11⟩:=HX.out W0 pN.out;cases lb
 .rw[if_neg (by simp)] at HE
  have HR:Hid _:=HE;clear HE;go_wp2_with fail;go_ret;exact⟨mN HR.out.symm,pN.out⟩
 rw[if_pos rfl] at HE;have HW:Hid (∀W,Below w.heap.size w W->ni _ _ _ _):=HW.out (HLN.out rfl);go_wp2_with fail;refine(HM.out _ pN.out).mono ?_;rintro e w1 ⟨rfl,mO⟩;have mY:Hid _:=pN.out.trans (mO.mono pN.out.size);clear mO y0 y1 y2 y3 y4 y5 y6 y7 y8 y9 y10 y11;obtain⟨y0,y1,y2,y3,y4,y5,y6,y7,y8,y9,y10,y11⟩:=HX.out w1 mY.out;by_cases Cu:m1=0
 .rw[if_pos Cu] at HE
  subst Cu;go_wp2_with fail;refine(NO.out _ mY.out).mono ?_;rintro e w2 ⟨rfl,mZ⟩;have nR:Hid _:=mY.out.trans (mZ.mono mY.out.size);clear mZ y0 y1 y2 y3 y4 y5 y6 y7 y8 y9 y10 y11;obtain⟨y0,y1,y2,y3,y4,y5,y6,y7,y8,y9,y10,y11⟩:=HX.out w2 nR.out;by_cases wT:r1=0
  .rw[if_pos wT] at HE
   subst wT;go_wp2_with fail;refine(HS.out _ nR.out).mono ?_;rintro e w3 ⟨rfl,nC⟩;have oT:Hid _:=nR.out.trans (nC.mono nR.out.size);clear nC y0 y1 y2 y3 y4 y5 y6 y7 y8 y9 y10 y11;obtain⟨y0,y1,y2,y3,y4,y5,y6,y7,y8,y9,y10,y11⟩:=HX.out w3 oT.out;by_cases sj:s1=0
   .rw[if_pos sj] at HE
    subst sj;go_wp2_with fail;refine(HG.out _ oT.out).mono ?_;rintro e w4 ⟨rfl,qA⟩;have qP:Hid _:=oT.out.trans (qA.mono oT.out.size);clear qA y0 y1 y2 y3 y4 y5 y6 y7 y8 y9 y10 y11;obtain⟨y0,y1,y2,y3,y4,y5,y6,y7,y8,y9,y10,y11⟩:=HX.out w4 qP.out;by_cases ou:g1=0
    .rw[if_pos ou] at HE
     subst ou;go_wp2_with fail;refine(HP.out _ qP.out).mono ?_;rintro e w5 ⟨rfl,sK⟩;have qB:Hid _:=qP.out.trans (sK.mono qP.out.size);clear sK y0 y1 y2 y3 y4 y5 y6 y7 y8 y9 y10 y11;obtain⟨y0,y1,y2,y3,y4,y5,y6,y7,y8,y9,y10,y11⟩:=HX.out w5 qB.out;by_cases tr:p1=0
     .rw[if_pos tr] at HE
      subst tr;go_wp2_with fail;go_region_held3 (λw'=>w'.cell? ⟨b,0,U⟩=AI (I nm)/\w'.cell? ⟨b,11,U⟩=AI (sh a5 n5 c5)) (first|assumption|go_keep) (first|(go_at_call 65;refine(HW.out _ qB.out.drew).mono ?_;rintro e w9 ⟨rfl,tv⟩;have uy:Hid (Below w.heap.size w w9):=qB.out.drew.trans (tv.mono qB.out.size);have hS:w9.cell? ⟨b,0,U⟩=AI (I nm)/\w9.cell? ⟨b,11,U⟩=AI (sh a5 n5 c5):=⟨(HX.out w9 uy.out).1,(HX.out w9 uy.out).2.2.2.2.2.2.2.2.2.2.2⟩))
      go_wp2_with fail;go_ret;exact⟨mN HE.symm,uy.out⟩
     .have auT:(p1 !=0)=true:=by simpa using tr
      rw[if_neg tr] at HE;have HR:Hid _:=HE;clear tr HE;go_wp2_with fail;go_ret;exact⟨mN HR.out.symm,qB.out⟩
    .have auU:(g1 !=0)=true:=by simpa using ou
     rw[if_neg ou] at HE;have HR:Hid _:=HE;clear ou HE;go_wp2_with fail;go_ret;exact⟨mN HR.out.symm,qP.out⟩
   .have akx:(s1 !=0)=true:=by simpa using sj
    rw[if_neg sj] at HE;have HR:Hid _:=HE;clear sj HE;go_wp2_with fail;go_ret;exact⟨mN HR.out.symm,oT.out⟩
  .have auV:(r1 !=0)=true:=by simpa using wT
   rw[if_neg wT] at HE;have HR:Hid _:=HE;clear wT HE;go_wp2_with fail;go_ret;exact⟨mN HR.out.symm,nR.out⟩
 .have auW:(m1 !=0)=true:=by simpa using Cu
  rw[if_neg Cu] at HE;have HR:Hid _:=HE;clear Cu HE;go_wp2_with fail;go_ret;exact⟨mN HR.out.symm,mY.out⟩
theorem alg{a b:Mem}(ha:a.e=0)(hb:b.e=0)(hn:a.name=b.name):tO a b=0:=by
 unfold tO;have h:nW [a] [b]=0:=by
  unfold nW;rw[vC,vC,if_pos ha,hb]
 rw[if_pos h,if_pos hn]
theorem CU{ms:List Mem}(h:nu ms=0):∀m∈ms,m.e=0:=by
 obtain⟨_,_,h3⟩:=mU h;exact pY ms h3
theorem wA{rs:List nQ}(h:o5 rs=0):rs.length<=20/\(∀r∈rs,r.m.e=0)/\sL rs/\qG rs:=by
 unfold o5 at h;split at h
 .cases h
 .rename_i hn
  split at h
  .rename_i h1
   split at h
   .rename_i h2
    split at h
    .rename_i h3
     refine⟨by omega,λr hr=>?_,h2,h3⟩;exact pY _ h1 r.m (Ot.2 ⟨r,hr,rfl⟩)
    .cases h
   .cases h
  .rename_i h1;exact absurd h h1
theorem aaq{ms:List Mem}{r:nQ}(h:nu ms=0)(hr:r.m.e=0):pQ ms r=vD ms r:=by
 unfold pQ vD;rcases hf:oX ms r.m.name with _|k
 .rfl
 .have hk:=BM hf
  simp only;rw[alg hr (CU h k hk.1) hk.2.symm];simp
theorem aar{ms:List Mem}{rs:List nQ}(h:nu ms=0)(hr:o5 rs=0):rs.any (pQ ms)=rs.any (vD ms):=by
 have h2:=(wA hr).2.1;clear hr;induction rs with
 |nil=>rfl
 |cons r l ih=>
  rw[List.any_cons,List.any_cons,aaq h (h2 r (by simp)),ih (λx hx=>h2 x (by simp[hx]))]
theorem FG(n:Nd)(b:Nat)(vm vr vs vg vw:Value)(w:World)(h:uL w n vm vr vs vg vw)(hg:w.heap[b]?=AI (Ib (sR n vm vr vs vg vw) 41 (0,0)))(hp:n.pE=0) :
 rI 30 #[Ik (AI ⟨b,0,U⟩)] w (O J n.wE):=by
 have HPT:Hid n.ai6:=Nd.parts hp;have hb:b<w.heap.size:=(Ig.1 hg).1;have zK:n.ms.length<=20:=(mU HPT.out.ms).1;have hrl:n.rs.length<=20:=(wA HPT.out.rs).1;have HWE:Hid (n.wE=match oX n.ms n.name with
  |none=>5
  |some m=>if m.state=2\/m.state=3 then 4 else if n.rs.any (pQ n.ms)=true then 4 else 0):=by
  show n.wE=_;rw[aar HPT.out.ms HPT.out.rs];rfl
 obtain⟨nm,ct,ms,rs,sv,gw,⟨px,py,pz,ph,pq⟩,wh⟩:=n;obtain⟨vP,A3,_,_,_,_,_⟩:=h;simp only at vP A3 hg zK hrl HWE;generalize Nd.wE ⟨nm,ct,ms,rs,sv,gw,⟨px,py,pz,ph,pq⟩,wh⟩=res at *;obtain⟨am,cm,rfl,adM,adN⟩:=vP;have vP:Sl w (sh am ms.length cm) ms:=⟨am,cm,rfl,adM,adN⟩;clear adM adN;have HX:Hid (∀W,Below w.heap.size w W->W.cell? ⟨b,0,U⟩=AI (I nm)/\W.cell? ⟨b,2,U⟩=AI (sh am ms.length cm)/\W.cell? ⟨b,3,U⟩=AI vr):=λW hW=>
  have Ad:=(hW.block _ hb).trans hg
  ⟨fi Ad 0,fi Ad 2,fi Ad 3⟩
 have HMB:Hid (∀(W:World) (t:ByteArray),Below w.heap.size w W->rI 66 #[Ik (AI ⟨b,0,U⟩),I t] W (Ir #[Iu #[I (qO ms t).name,O J (qO ms t).state,O J (qO ms t).nJ,O J (qO ms t).addr,Ic (qO ms t).server],Ic (oX ms t).isSome])):=λW t hW=>
  wv b am ms.length cm ms t W (HX.out W hW).2.1 (vP.below hW) (by omega)
 have HCF:Hid (∀W,Below w.heap.size w W->rI 67 #[vr,.func (.func 68) #[Ik (AI ⟨b,0,U⟩)] #[]] W (Ic (rs.any (pQ ms)))):=λW hW=>
  LB b am ms.length cm ms rs vr W (A3.below hW) (HX.out W hW).2.1 (vP.below hW) (by omega) (by omega)
 clear vP A3;generalize rs.any (pQ ms)=ab at *;obtain⟨y0,y2,y3⟩:=HX.out w (If _ _);clear hg;go_enter func30,ntmps30;go_wp2_with fail;refine(HMB.out _ nm (If _ _)).mono ?_;rintro e w1 ⟨rfl,mO⟩;have mY:Hid _:=mO;clear mO y0 y2 y3;rcases hf:oX ms nm with _|m
 .have HR:Hid _:=HWE.out.trans (by rw[hf])
  have Xz:=FD hf;rw[Xz];clear hf Xz;go_wp2_with fail;go_ret;exact⟨mN HR.out.symm,mY.out.alloc mY.out.size _⟩
 .have HR:Hid _:=HWE.out.trans (by rw[hf])
  have Xz:=xn hf;rw[Xz];clear hf Xz;obtain⟨mn,st,lf,ad,sv2⟩:=m;simp only at HR;by_cases h2:st=2
  .subst h2
   have te:Hid (res=4):=HR.out.trans (by simp);go_wp2_with fail;go_ret;exact⟨mN te.out.symm,mY.out.alloc mY.out.size _⟩
  .by_cases h3:st=3
   .subst h3
    have te:Hid (res=4):=HR.out.trans (by simp);go_wp2_with fail;go_ret;exact⟨mN te.out.symm,mY.out.alloc mY.out.size _⟩
   .have te:Hid _:=HR.out.trans (if_neg (by omega))
    have DR:(st==2)=false:=by simpa using h2
    have h3':(st==3)=false:=by simpa using h3
    clear h2 h3 HR;obtain⟨W2,sx⟩:∃W2,W2=w1.alloc (Ib #[I mn,O J st,O J lf,O J ad,Ic sv2] 55):=⟨_,rfl⟩;have nR:Hid (Below w.heap.size w W2):=by rw[sx];exact mY.out.alloc mY.out.size _
    obtain⟨y0,y2,y3⟩:=HX.out W2 nR.out;rw[sx] at y0 y2 y3;go_wp2_with fail;rw[<- sx];refine(HCF.out _ nR.out).mono ?_;rintro e w3 ⟨rfl,nC⟩;have oT:Hid _:=nR.out.trans (nC.mono nR.out.size);clear nC y0 y2 y3 sx;cases ab
    .go_wp2_with fail
     go_ret;exact⟨mN te.out.symm,oT.out⟩
    .go_wp2_with fail
     go_ret;exact⟨mN te.out.symm,oT.out⟩
theorem A6(n:Nd)(vm vr vs vg vw:Value)(w:World)(h:uL w n vm vr vs vg vw) :
 rI 8 #[Iu (sR n vm vr vs vg vw)] w (O J n.e):=by
 have HI:Hid _:=h;have HE:Hid (n.e=if n.pE=0 then n.wE else n.pE):=rfl;obtain⟨W,hW⟩:∃W,W=(w.alloc (Ib (sR n vm vr vs vg vw) 30)).alloc (Ib (sR n vm vr vs vg vw) 41):=⟨_,rfl⟩;have rj:Below w.heap.size w W:=by rw[hW];exact((If _ _).alloc (By _) _).alloc (by simp) _
 have hg:W.heap[w.heap.size+1]?=AI (Ib (sR n vm vr vs vg vw) 41 (0,0)):=by
  have h:=Ii (w.alloc (Ib (sR n vm vr vs vg vw) 30)) (Ib (sR n vm vr vs vg vw) 41);rw[hW];simpa using h
 have CB:W.heap.size=w.heap.size+2:=by rw[hW];simp
 have rW:Hid _:=rj;have HC:Hid (ni _ _ _ _):=FF n (w.heap.size+1) vm vr vs vg vw W (h.below rj) hg;have HD:Hid (n.pE=0->∀W1,Below W.heap.size W W1->rI 30 #[Ik (AI ⟨w.heap.size+1,0,U⟩)] W1 (O J n.wE)):=λhp W1 h1=>
  FG n (w.heap.size+1) vm vr vs vg vw W1 ((h.below rj).below h1) ((h1.block _ (by omega)).trans hg) hp
 obtain⟨nm,ct,ms,rs,sv,gw,⟨px,py,pz,ph,pq⟩,wh⟩:=n;obtain⟨⟨am,cm,rfl,_,_⟩,⟨ar,cr,rfl,_,_⟩,⟨aq,cq,rfl,_,_⟩,⟨ag,cg,rfl,_,_⟩,⟨aw,cw,rfl,_,_⟩,_,_⟩:=h;generalize Nd.e ⟨nm,ct,ms,rs,sv,gw,⟨px,py,pz,ph,pq⟩,wh⟩=res at *;generalize Nd.pE ⟨nm,ct,ms,rs,sv,gw,⟨px,py,pz,ph,pq⟩,wh⟩=pe at *;generalize Nd.wE ⟨nm,ct,ms,rs,sv,gw,⟨px,py,pz,ph,pq⟩,wh⟩=we at *;simp only[sR] at hW ⊢;clear hg rj;generalize ms.length=nms at *;generalize rs.length=nrs at *;generalize sv.length=nsv at *;generalize gw.length=ngw at *;generalize wh.length=nwh at *;go_enter func8,ntmps8;go_wp2_with fail;rw[<- hW];refine HC.out.mono ?_;rintro e w1 ⟨rfl,mO⟩;have mY:Hid _:=mO;have CP:Hid _:=rW.out.trans (mO.mono (by omega));clear mO;by_cases hp:pe=0
 .have xK:=HD.out hp w1 mY.out
  have HR:Hid _:=HE.out.trans (if_pos hp);subst hp;clear HD HE;go_wp2_with fail;refine xK.mono ?_;rintro e w2 ⟨rfl,mZ⟩;have ahc:Hid _:=CP.out.trans (mZ.mono CP.out.size);clear mZ;go_wp2_with fail;go_ret;exact⟨mN HR.out.symm,ahc.out⟩
 .have hp':(pe !=0)=true:=by simpa using hp
  have HR:Hid _:=HE.out.trans (if_neg hp);clear hp HD HE;go_wp2_with fail;go_ret;exact⟨mN HR.out.symm,CP.out⟩
theorem oA{W:World}{b:Nat}{T:Ji}{f:Nat×Nat}{c0 c1 c2 c3 c4 c5 c6 c7 c8 c9 c10 c11:Value}(h:W.heap[b]?=AI (Ib #[c0,c1,c2,c3,c4,c5,c6,c7,c8,c9,c10,c11] T f)):W.cell? ⟨b,0,U⟩=AI c0/\W.cell? ⟨b,1,U⟩=AI c1/\W.cell? ⟨b,2,U⟩=AI c2/\W.cell? ⟨b,3,U⟩=AI c3/\W.cell? ⟨b,4,U⟩=AI c4/\W.cell? ⟨b,5,U⟩=AI c5/\W.cell? ⟨b,6,U⟩=AI c6/\W.cell? ⟨b,7,U⟩=AI c7/\W.cell? ⟨b,8,U⟩=AI c8/\W.cell? ⟨b,9,U⟩=AI c9/\W.cell? ⟨b,10,U⟩=AI c10/\W.cell? ⟨b,11,U⟩=AI c11:=⟨fi h 0,fi h 1,fi h 2,fi h 3,fi h 4,fi h 5,fi h 6,fi h 7,fi h 8,fi h 9,fi h 10,fi h 11⟩
theorem FH{W:World}{b:Nat}{T:Ji}{cs:Array Value}(h:W.heap[b]?=AI (Ib cs T (0,0))):W.frozen? ⟨b,0,U⟩=false/\W.frozen? ⟨b,1,U⟩=false/\W.frozen? ⟨b,2,U⟩=false/\W.frozen? ⟨b,3,U⟩=false/\W.frozen? ⟨b,4,U⟩=false/\W.frozen? ⟨b,5,U⟩=false/\W.frozen? ⟨b,6,U⟩=false/\W.frozen? ⟨b,7,U⟩=false/\W.frozen? ⟨b,8,U⟩=false/\W.frozen? ⟨b,9,U⟩=false/\W.frozen? ⟨b,10,U⟩=false/\W.frozen? ⟨b,11,U⟩=false:=by simp[Ij,h]
theorem xQ{W:World}{b:Nat}{T:Ji}{f:Nat×Nat}{c0 c1 c2 c3 c4 c5:Value}(h:W.heap[b]?=AI (Ib #[c0,c1,c2,c3,c4,c5] T f)):W.cell? ⟨b,0,U⟩=AI c0/\W.cell? ⟨b,1,U⟩=AI c1/\W.cell? ⟨b,2,U⟩=AI c2/\W.cell? ⟨b,3,U⟩=AI c3/\W.cell? ⟨b,4,U⟩=AI c4/\W.cell? ⟨b,5,U⟩=AI c5:=⟨fi h 0,fi h 1,fi h 2,fi h 3,fi h 4,fi h 5⟩
theorem adO{W:World}{b:Nat}{T:Ji}{cs:Array Value}(h:W.heap[b]?=AI (Ib cs T (0,0))):W.frozen? ⟨b,0,U⟩=false/\W.frozen? ⟨b,1,U⟩=false/\W.frozen? ⟨b,2,U⟩=false/\W.frozen? ⟨b,3,U⟩=false/\W.frozen? ⟨b,4,U⟩=false/\W.frozen? ⟨b,5,U⟩=false:=by simp[Ij,h]
theorem LD{W:World}{b:Nat}{T:Ji}{f:Nat×Nat}{c0 c1 c2 c3 c4:Value}(h:W.heap[b]?=AI (Ib #[c0,c1,c2,c3,c4] T f)):W.cell? ⟨b,0,U⟩=AI c0/\W.cell? ⟨b,1,U⟩=AI c1/\W.cell? ⟨b,2,U⟩=AI c2/\W.cell? ⟨b,3,U⟩=AI c3/\W.cell? ⟨b,4,U⟩=AI c4:=⟨fi h 0,fi h 1,fi h 2,fi h 3,fi h 4⟩
theorem th{B b:Nat}{a w:World}(h:Below B a w)(hb:B<=b)(x0 x1 x2 x3 x4 x5 x6 x7 x8 x9 x10 x11:Value):Below B a ((((((((((((w.setCell ⟨b,0,U⟩ x0).setCell ⟨b,1,U⟩ x1).setCell ⟨b,2,U⟩ x2).setCell ⟨b,3,U⟩ x3).setCell ⟨b,4,U⟩ x4).setCell ⟨b,5,U⟩ x5).setCell ⟨b,6,U⟩ x6).setCell ⟨b,7,U⟩ x7).setCell ⟨b,8,U⟩ x8).setCell ⟨b,9,U⟩ x9).setCell ⟨b,10,U⟩ x10).setCell ⟨b,11,U⟩ x11):=((((((((((((h).setCell (p:=⟨b,0,U⟩) hb _).setCell (p:=⟨b,1,U⟩) hb _).setCell (p:=⟨b,2,U⟩) hb _).setCell (p:=⟨b,3,U⟩) hb _).setCell (p:=⟨b,4,U⟩) hb _).setCell (p:=⟨b,5,U⟩) hb _).setCell (p:=⟨b,6,U⟩) hb _).setCell (p:=⟨b,7,U⟩) hb _).setCell (p:=⟨b,8,U⟩) hb _).setCell (p:=⟨b,9,U⟩) hb _).setCell (p:=⟨b,10,U⟩) hb _).setCell (p:=⟨b,11,U⟩) hb _
theorem oi{base b n k:Nat}{T:Ji}{w:World}{v:Value}{xs:List Value}(h:w.ownsRow base T k v n xs)(hb:b<base)(x0 x1 x2 x3 x4 x5 x6 x7 x8 x9 x10 x11:Value):((((((((((((w.setCell ⟨b,0,U⟩ x0).setCell ⟨b,1,U⟩ x1).setCell ⟨b,2,U⟩ x2).setCell ⟨b,3,U⟩ x3).setCell ⟨b,4,U⟩ x4).setCell ⟨b,5,U⟩ x5).setCell ⟨b,6,U⟩ x6).setCell ⟨b,7,U⟩ x7).setCell ⟨b,8,U⟩ x8).setCell ⟨b,9,U⟩ x9).setCell ⟨b,10,U⟩ x10).setCell ⟨b,11,U⟩ x11).ownsRow base T k v n xs:=Io (Io (Io (Io (Io (Io (Io (Io (Io (Io (Io (Io (h) (a:=⟨b,0,U⟩) hb _) (a:=⟨b,1,U⟩) hb _) (a:=⟨b,2,U⟩) hb _) (a:=⟨b,3,U⟩) hb _) (a:=⟨b,4,U⟩) hb _) (a:=⟨b,5,U⟩) hb _) (a:=⟨b,6,U⟩) hb _) (a:=⟨b,7,U⟩) hb _) (a:=⟨b,8,U⟩) hb _) (a:=⟨b,9,U⟩) hb _) (a:=⟨b,10,U⟩) hb _) (a:=⟨b,11,U⟩) hb _
structure uB(B:Nat)(w:World)(n:Nd)(vm vr vs vg vw:Value):Prop where
 ms:Own B w vm n.ms
 rs:oE B w vr n.rs
 sv:Sv.Own B w vs n.sv
 gw:Gw.Own B w vg n.gw
 wh:Wh.Own B w vw n.wh
theorem mR{base n k:Nat}{T:Ji}{w:World}{v:Value}{xs:List Value}(h:w.ownsRow base T k v n xs):∃a c,v=sh a n c/\n<=c:=by
 rcases h.2 with⟨h1,h2⟩|⟨g,c,cur,h1,_,_,hn,_⟩
 .subst h2;exact⟨U,0,h1,By _⟩
 .exact⟨_,c,h1,hn⟩
theorem uB.below{B:Nat}{w w':World}{n:Nd}{vm vr vs vg vw:Value}(h:uB B w n vm vr vs vg vw)(hb:Below w.heap.size w w'):uB B w' n vm vr vs vg vw:=⟨h.ms.below hb,h.rs.below hb,h.sv.below hb,h.gw.below hb,h.wh.below hb⟩
structure Eb(n:Nd):Prop where
 ms:∀m∈n.ms,m.name.size<=Il
 rs:∀r∈n.rs,r.m.name.size<=Il
 sv:∀m∈n.sv,m.ok
 gw:∀m∈n.gw,m.ok
 wh:∀m∈n.wh,m.ok
 name:n.name.size<=Il
 mM:n.mM.size<=Il
theorem uL.ok{w:World}{n:Nd}{vm vr vs vg vw:Value}(h:uL w n vm vr vs vg vw):Eb n:=by
 obtain⟨⟨_,_,_,h1,_⟩,⟨_,_,_,h2,_⟩,⟨_,_,_,h3,_⟩,⟨_,_,_,h4,_⟩,⟨_,_,_,h5,_⟩,h6,h7⟩:=h;exact⟨rA h1,ahe h2,Sv.rA h3,Gw.rA h4,Wh.rA h5,h6,h7⟩
theorem uB.is{B:Nat}{w:World}{n:Nd}{vm vr vs vg vw:Value}(h:uB B w n vm vr vs vg vw)(hk:Eb n):uL w n vm vr vs vg vw:=
 ⟨h.ms.sl (oz hk.ms),h.rs.sl (Lu hk.rs),h.sv.sl (Sv.oz hk.sv),h.gw.sl (Gw.oz hk.gw),h.wh.sl (Wh.oz hk.wh),hk.name,hk.mM⟩
theorem Ky(n:Nd)(vm vr vs vg vw:Value)(w:World)(h:uL w n vm vr vs vg vw)(l1:n.ms.length<=1000)(l2:n.rs.length<=1000)(l3:n.sv.length<=1000)(l4:n.gw.length<=1000)(l5:n.wh.length<=1000) :
 ni 52 #[Iu (sR n vm vr vs vg vw)] w λe w'=>∃um ur us ug uw,e=Ia (Iu (sR n um ur us ug uw))/\uB w.heap.size w' n um ur us ug uw/\Below w.heap.size w w':=by
 obtain⟨nm,ct,ms,rs,sv,gw,⟨px,py,pz,ph,pq⟩,wh⟩:=n;obtain⟨hm,hr,hs,Bo,hh,_,_⟩:=h;simp only at hm hr hs Bo hh l1 l2 l3 l4 l5;have Hm:Hid (∀W,Below w.heap.size w W->ni _ _ _ _):=λW hW=>sY ms vm W (hm.below hW) l1;have Hr:Hid (∀W,Below w.heap.size w W->ni _ _ _ _):=λW hW=>sQ rs vr W (hr.below hW) l2;have Hs:Hid (∀W,Below w.heap.size w W->ni _ _ _ _):=λW hW=>Sv.sY sv vs W (hs.below hW) l3;have Hg:Hid (∀W,Below w.heap.size w W->ni _ _ _ _):=λW hW=>Gw.sY gw vg W (Bo.below hW) l4;have Hh:Hid (∀W,Below w.heap.size w W->ni _ _ _ _):=λW hW=>Wh.sY wh vw W (hh.below hW) l5;obtain⟨em,cm,rfl,_,_⟩:=hm;obtain⟨er,cr,rfl,_,_⟩:=hr;obtain⟨es,cs,rfl,_,_⟩:=hs;obtain⟨eg,cg,rfl,_,_⟩:=Bo;obtain⟨eh,ch,rfl,_,_⟩:=hh;generalize hNm:ms.length=km at *;have HNm:Hid _:=hNm;clear hNm;generalize hNr:rs.length=kr at *;have HNr:Hid _:=hNr;clear hNr;generalize hNs:sv.length=ks at *;have HNs:Hid _:=hNs;clear hNs;generalize hNg:gw.length=kg at *;have HNg:Hid _:=hNg;clear hNg;generalize hNh:wh.length=kh at *;have HNh:Hid _:=hNh;clear hNh;simp only[sR];obtain⟨W0,rm⟩:∃W0,W0=(w.alloc (Ib #[I nm,I ct,sh em km cm,sh er kr cr,sh es ks cs,sh eg kg cg,O J px,O J py,O J pz,O J ph,O J pq,sh eh kh ch] 30)).alloc (Ib #[I ⟨#[]⟩,I ⟨#[]⟩,sh U 0 0,sh U 0 0,sh U 0 0,sh U 0 0,O J 0,O J 0,O J 0,O J 0,O J 0,sh U 0 0] 30):=⟨_,rfl⟩;have rG:Below w.heap.size w W0:=by rw[rm];exact((If _ _).alloc (By _) _).alloc (by simp) _
 have pS:W0.heap[w.heap.size]?=AI (Ib #[I nm,I ct,sh em km cm,sh er kr cr,sh es ks cs,sh eg kg cg,O J px,O J py,O J pz,O J ph,O J pq,sh eh kh ch] 30 (0,0)):=by
  rw[rm,Iv _ _ _ (by simp)];exact Ii w _
 have oS:W0.heap[w.heap.size+1]?=AI (Ib #[I ⟨#[]⟩,I ⟨#[]⟩,sh U 0 0,sh U 0 0,sh U 0 0,sh U 0 0,O J 0,O J 0,O J 0,O J 0,O J 0,sh U 0 0] 30 (0,0)):=by
  have h:=Ii (w.alloc (Ib #[I nm,I ct,sh em km cm,sh er kr cr,sh es ks cs,sh eg kg cg,O J px,O J py,O J pz,O J ph,O J pq,sh eh kh ch] 30)) (Ib #[I ⟨#[]⟩,I ⟨#[]⟩,sh U 0 0,sh U 0 0,sh U 0 0,sh U 0 0,O J 0,O J 0,O J 0,O J 0,O J 0,sh U 0 0] 30);rw[rm];simpa using h
 have Ct:w.heap.size+1<W0.heap.size:=by rw[rm];simp
 have pN:Hid _:=rG;have Kj:Hid _:=pS;have Wl:Hid _:=oS;clear rG pS oS;go_enter func52,ntmps52;go_wp2_with fail;rw[<- rm];clear rm;refine(Hm.out W0 pN.out).mono ?_;rintro e X1 ⟨v',rfl,ho,hx⟩;obtain⟨bm,dm',Mu,_⟩:=mR ho;rw[HNm.out] at Mu;subst Mu;have rX:=(hx.block _ (by omega)).trans Kj.out;obtain⟨y0,y1,y2,y3,y4,y5,y6,y7,y8,y9,y10,y11⟩:=oA rX;have z2:X1.frozen? ⟨w.heap.size,2,U⟩=false:=by simp[Ij,rX]
 have hsx:w.heap.size<X1.heap.size:=by have:=hx.size;omega
 obtain⟨W1,uj⟩:∃W1,W1=X1.setCell ⟨w.heap.size,2,U⟩ (sh bm km dm'):=⟨_,rfl⟩;have vF:Hid (W1.heap[w.heap.size]?=AI (Ib #[I nm,I ct,sh bm km dm',sh er kr cr,sh es ks cs,sh eg kg cg,O J px,O J py,O J pz,O J ph,O J pq,sh eh kh ch] 30 (0,0))):=by rw[uj];exact It (i:=2) rX _
 have Tq:Hid (W1.heap[w.heap.size+1]?=AI (Ib #[I ⟨#[]⟩,I ⟨#[]⟩,sh U 0 0,sh U 0 0,sh U 0 0,sh U 0 0,O J 0,O J 0,O J 0,O J 0,O J 0,sh U 0 0] 30 (0,0))):=by rw[uj];exact(IC _ _ _ _ (by simp)).trans ((hx.block _ (by omega)).trans Wl.out)
 have auY:Hid (Own (w.heap.size+2) W1 (sh bm km dm') ms):=by rw[uj];exact Io (ho.mono (by omega)) (by simp) _
 have mY:Hid (Below w.heap.size w W1):=by rw[uj];exact(pN.out.trans (hx.mono pN.out.size)).setCell (p:=⟨w.heap.size,2,U⟩) (by simp) _
 have sj:=(Ig.1 Tq.out).1;clear ho hx rX Ct;go_wp2_with fail;rw[<- uj];clear uj y0 y1 y2 y3 y4 y5 y6 y7 y8 y9 y10 y11 z2 hsx;refine(Hr.out W1 mY.out).mono ?_;rintro e X2 ⟨v',rfl,ho,hx⟩;obtain⟨br,dr',Mu,_⟩:=mR ho;rw[HNr.out] at Mu;subst Mu;have rX:=(hx.block _ (by omega)).trans vF.out;obtain⟨y0,y1,y2,y3,y4,y5,y6,y7,y8,y9,y10,y11⟩:=oA rX;have z3:X2.frozen? ⟨w.heap.size,3,U⟩=false:=by simp[Ij,rX]
 have hsx:w.heap.size<X2.heap.size:=by have:=hx.size;omega
 obtain⟨W2,sx⟩:∃W2,W2=X2.setCell ⟨w.heap.size,3,U⟩ (sh br kr dr'):=⟨_,rfl⟩;have Cl:Hid (W2.heap[w.heap.size]?=AI (Ib #[I nm,I ct,sh bm km dm',sh br kr dr',sh es ks cs,sh eg kg cg,O J px,O J py,O J pz,O J ph,O J pq,sh eh kh ch] 30 (0,0))):=by rw[sx];exact It (i:=3) rX _
 have o6:Hid (W2.heap[w.heap.size+1]?=AI (Ib #[I ⟨#[]⟩,I ⟨#[]⟩,sh U 0 0,sh U 0 0,sh U 0 0,sh U 0 0,O J 0,O J 0,O J 0,O J 0,O J 0,sh U 0 0] 30 (0,0))):=by rw[sx];exact(IC _ _ _ _ (by simp)).trans ((hx.block _ (by omega)).trans Tq.out)
 have auZ:Hid (oE (w.heap.size+2) W2 (sh br kr dr') rs):=by rw[sx];exact Io (ho.base (by omega)) (by simp) _
 have au0:Hid (Own (w.heap.size+2) W2 (sh bm km dm') ms):=by rw[sx];exact Io (auY.out.below hx) (by simp) _
 have nR:Hid (Below w.heap.size w W2):=by rw[sx];exact(mY.out.trans (hx.mono mY.out.size)).setCell (p:=⟨w.heap.size,3,U⟩) (by simp) _
 have AP:=(Ig.1 o6.out).1;clear ho hx rX sj;go_wp2_with fail;rw[<- sx];clear sx y0 y1 y2 y3 y4 y5 y6 y7 y8 y9 y10 y11 z3 hsx;refine(Hs.out W2 nR.out).mono ?_;rintro e X3 ⟨v',rfl,ho,hx⟩;obtain⟨bs,ds',Mu,_⟩:=mR ho;rw[HNs.out] at Mu;subst Mu;have rX:=(hx.block _ (by omega)).trans Cl.out;obtain⟨y0,y1,y2,y3,y4,y5,y6,y7,y8,y9,y10,y11⟩:=oA rX;have z4:X3.frozen? ⟨w.heap.size,4,U⟩=false:=by simp[Ij,rX]
 have hsx:w.heap.size<X3.heap.size:=by have:=hx.size;omega
 obtain⟨W3,sN⟩:∃W3,W3=X3.setCell ⟨w.heap.size,4,U⟩ (sh bs ks ds'):=⟨_,rfl⟩;have HG3:Hid (W3.heap[w.heap.size]?=AI (Ib #[I nm,I ct,sh bm km dm',sh br kr dr',sh bs ks ds',sh eg kg cg,O J px,O J py,O J pz,O J ph,O J pq,sh eh kh ch] 30 (0,0))):=by rw[sN];exact It (i:=4) rX _
 have tu:Hid (W3.heap[w.heap.size+1]?=AI (Ib #[I ⟨#[]⟩,I ⟨#[]⟩,sh U 0 0,sh U 0 0,sh U 0 0,sh U 0 0,O J 0,O J 0,O J 0,O J 0,O J 0,sh U 0 0] 30 (0,0))):=by rw[sN];exact(IC _ _ _ _ (by simp)).trans ((hx.block _ (by omega)).trans o6.out)
 have au1:Hid (Sv.Own (w.heap.size+2) W3 (sh bs ks ds') sv):=by rw[sN];exact Io (ho.mono (by omega)) (by simp) _
 have au2:Hid (Own (w.heap.size+2) W3 (sh bm km dm') ms):=by rw[sN];exact Io (au0.out.below hx) (by simp) _
 have au3:Hid (oE (w.heap.size+2) W3 (sh br kr dr') rs):=by rw[sN];exact Io (auZ.out.below hx) (by simp) _
 have oT:Hid (Below w.heap.size w W3):=by rw[sN];exact(nR.out.trans (hx.mono nR.out.size)).setCell (p:=⟨w.heap.size,4,U⟩) (by simp) _
 have V0:=(Ig.1 tu.out).1;clear ho hx rX AP;go_wp2_with fail;rw[<- sN];clear sN y0 y1 y2 y3 y4 y5 y6 y7 y8 y9 y10 y11 z4 hsx;refine(Hg.out W3 oT.out).mono ?_;rintro e X4 ⟨v',rfl,ho,hx⟩;obtain⟨bg,dg',Mu,_⟩:=mR ho;rw[HNg.out] at Mu;subst Mu;have rX:=(hx.block _ (by omega)).trans HG3.out;obtain⟨y0,y1,y2,y3,y4,y5,y6,y7,y8,y9,y10,y11⟩:=oA rX;have z5:X4.frozen? ⟨w.heap.size,5,U⟩=false:=by simp[Ij,rX]
 have hsx:w.heap.size<X4.heap.size:=by have:=hx.size;omega
 obtain⟨W4,LF⟩:∃W4,W4=X4.setCell ⟨w.heap.size,5,U⟩ (sh bg kg dg'):=⟨_,rfl⟩;have HG4:Hid (W4.heap[w.heap.size]?=AI (Ib #[I nm,I ct,sh bm km dm',sh br kr dr',sh bs ks ds',sh bg kg dg',O J px,O J py,O J pz,O J ph,O J pq,sh eh kh ch] 30 (0,0))):=by rw[LF];exact It (i:=5) rX _
 have HZ4:Hid (W4.heap[w.heap.size+1]?=AI (Ib #[I ⟨#[]⟩,I ⟨#[]⟩,sh U 0 0,sh U 0 0,sh U 0 0,sh U 0 0,O J 0,O J 0,O J 0,O J 0,O J 0,sh U 0 0] 30 (0,0))):=by rw[LF];exact(IC _ _ _ _ (by simp)).trans ((hx.block _ (by omega)).trans tu.out)
 have au4:Hid (Gw.Own (w.heap.size+2) W4 (sh bg kg dg') gw):=by rw[LF];exact Io (ho.mono (by omega)) (by simp) _
 have au5:Hid (Own (w.heap.size+2) W4 (sh bm km dm') ms):=by rw[LF];exact Io (au2.out.below hx) (by simp) _
 have au6:Hid (oE (w.heap.size+2) W4 (sh br kr dr') rs):=by rw[LF];exact Io (au3.out.below hx) (by simp) _
 have au7:Hid (Sv.Own (w.heap.size+2) W4 (sh bs ks ds') sv):=by rw[LF];exact Io (au1.out.below hx) (by simp) _
 have qP:Hid (Below w.heap.size w W4):=by rw[LF];exact(oT.out.trans (hx.mono oT.out.size)).setCell (p:=⟨w.heap.size,5,U⟩) (by simp) _
 have Lh:=(Ig.1 HZ4.out).1;clear ho hx rX V0;go_wp2_with fail;rw[<- LF];clear LF y0 y1 y2 y3 y4 y5 y6 y7 y8 y9 y10 y11 z5 hsx;refine(Hh.out W4 qP.out).mono ?_;rintro e X5 ⟨v',rfl,ho,hx⟩;obtain⟨bh,dh',Mu,_⟩:=mR ho;rw[HNh.out] at Mu;subst Mu;have rX:=(hx.block _ (by omega)).trans HG4.out;obtain⟨y0,y1,y2,y3,y4,y5,y6,y7,y8,y9,y10,y11⟩:=oA rX;have z11:X5.frozen? ⟨w.heap.size,11,U⟩=false:=by simp[Ij,rX]
 have hsx:w.heap.size<X5.heap.size:=by have:=hx.size;omega
 obtain⟨W5,GF⟩:∃W5,W5=X5.setCell ⟨w.heap.size,11,U⟩ (sh bh kh dh'):=⟨_,rfl⟩;have Ro:Hid (W5.heap[w.heap.size]?=AI (Ib #[I nm,I ct,sh bm km dm',sh br kr dr',sh bs ks ds',sh bg kg dg',O J px,O J py,O J pz,O J ph,O J pq,sh bh kh dh'] 30 (0,0))):=by rw[GF];exact It (i:=11) rX _
 have HZ5:Hid (W5.heap[w.heap.size+1]?=AI (Ib #[I ⟨#[]⟩,I ⟨#[]⟩,sh U 0 0,sh U 0 0,sh U 0 0,sh U 0 0,O J 0,O J 0,O J 0,O J 0,O J 0,sh U 0 0] 30 (0,0))):=by rw[GF];exact(IC _ _ _ _ (by simp)).trans ((hx.block _ (by omega)).trans HZ4.out)
 have au8:Hid (Wh.Own (w.heap.size+2) W5 (sh bh kh dh') wh):=by rw[GF];exact Io (ho.mono (by omega)) (by simp) _
 have au9:Hid (Own (w.heap.size+2) W5 (sh bm km dm') ms):=by rw[GF];exact Io (au5.out.below hx) (by simp) _
 have ava:Hid (oE (w.heap.size+2) W5 (sh br kr dr') rs):=by rw[GF];exact Io (au6.out.below hx) (by simp) _
 have avb:Hid (Sv.Own (w.heap.size+2) W5 (sh bs ks ds') sv):=by rw[GF];exact Io (au7.out.below hx) (by simp) _
 have avc:Hid (Gw.Own (w.heap.size+2) W5 (sh bg kg dg') gw):=by rw[GF];exact Io (au4.out.below hx) (by simp) _
 have qB:Hid (Below w.heap.size w W5):=by rw[GF];exact(qP.out.trans (hx.mono qP.out.size)).setCell (p:=⟨w.heap.size,11,U⟩) (by simp) _
 have hs5:=(Ig.1 HZ5.out).1;have uJ:=HZ5.out;have q0:=fi uJ 0;have p0:=fi Ro.out 0;have zz0:W5.frozen? ⟨w.heap.size+1,0,U⟩=false:=by simp[Ij,uJ]
 have q1:=fi uJ 1;have p1:=fi Ro.out 1;have zz1:W5.frozen? ⟨w.heap.size+1,1,U⟩=false:=by simp[Ij,uJ]
 have q2:=fi uJ 2;have p2:=fi Ro.out 2;have zz2:W5.frozen? ⟨w.heap.size+1,2,U⟩=false:=by simp[Ij,uJ]
 have q3:=fi uJ 3;have p3:=fi Ro.out 3;have zz3:W5.frozen? ⟨w.heap.size+1,3,U⟩=false:=by simp[Ij,uJ]
 have q4:=fi uJ 4;have p4:=fi Ro.out 4;have zz4:W5.frozen? ⟨w.heap.size+1,4,U⟩=false:=by simp[Ij,uJ]
 have q5:=fi uJ 5;have p5:=fi Ro.out 5;have zz5:W5.frozen? ⟨w.heap.size+1,5,U⟩=false:=by simp[Ij,uJ]
 have q6:=fi uJ 6;have p6:=fi Ro.out 6;have zz6:W5.frozen? ⟨w.heap.size+1,6,U⟩=false:=by simp[Ij,uJ]
 have q7:=fi uJ 7;have p7:=fi Ro.out 7;have zz7:W5.frozen? ⟨w.heap.size+1,7,U⟩=false:=by simp[Ij,uJ]
 have q8:=fi uJ 8;have p8:=fi Ro.out 8;have zz8:W5.frozen? ⟨w.heap.size+1,8,U⟩=false:=by simp[Ij,uJ]
 have q9:=fi uJ 9;have p9:=fi Ro.out 9;have zz9:W5.frozen? ⟨w.heap.size+1,9,U⟩=false:=by simp[Ij,uJ]
 have q10:=fi uJ 10;have p10:=fi Ro.out 10;have aCM:W5.frozen? ⟨w.heap.size+1,10,U⟩=false:=by simp[Ij,uJ]
 have q11:=fi uJ 11;have p11:=fi Ro.out 11;have aCN:W5.frozen? ⟨w.heap.size+1,11,U⟩=false:=by simp[Ij,uJ]
 clear ho hx rX Lh uJ;go_upto_region 6 with fail
 rw[<- GF];clear GF y0 y1 y2 y3 y4 y5 y6 y7 y8 y9 y10 y11 z11 hsx;go_wp2_with fail;refine bodyPost_ret (v:=Iu #[I nm,I ct,sh bm km dm',sh br kr dr',sh bs ks ds',sh bg kg dg',O J px,O J py,O J pz,O J ph,O J pq,sh bh kh dh']) ?_ rfl ⟨sh bm km dm',sh br kr dr',sh bs ks ds',sh bg kg dg',sh bh kh dh',rfl,⟨?_,?_,?_,?_,?_⟩,?_⟩
 .simp[results,results52,go_sem,q0,q1,q2,q3,q4,q5,q6,q7,q8,q9,q10,q11]
 .exact Own.mono (oi (au9.out) (by simp) _ _ _ _ _ _ _ _ _ _ _ _) (by omega)
 .exact oE.base (oi (ava.out) (by simp) _ _ _ _ _ _ _ _ _ _ _ _) (by omega)
 .exact Sv.Own.mono (oi (avb.out) (by simp) _ _ _ _ _ _ _ _ _ _ _ _) (by omega)
 .exact Gw.Own.mono (oi (avc.out) (by simp) _ _ _ _ _ _ _ _ _ _ _ _) (by omega)
 .exact Wh.Own.mono (oi (au8.out) (by simp) _ _ _ _ _ _ _ _ _ _ _ _) (by omega)
 .exact th qB.out (by simp) _ _ _ _ _ _ _ _ _ _ _ _
theorem NP(n:Nd)(vm vr vs vg vw:Value)(w:World)(h:uL w n vm vr vs vg vw) :
 Calls AT 5 #[Iu (sR n vm vr vs vg vw)] w λe w'=>e=Ia (O J n.e)/\Below w.heap.size w w':=by
 obtain⟨nm,ct,ms,rs,sv,gw,⟨px,py,pz,ph,pq⟩,wh⟩:=n;obtain⟨vP,A3,V7,Bo,Rn,sg,V5⟩:=h;simp only at vP A3 V7 Bo Rn sg V5;have Kz:Hid (Sl w vm ms):=vP;have NQ:Hid (yd w vr rs):=A3;have HE:Nd.e ⟨nm,ct,ms,rs,sv,gw,⟨px,py,pz,ph,pq⟩,wh⟩=if(mT nm&&mT ct)=true then
  (if nu ms=0 then(if o5 rs=0 then(if Sv.nu sv=0 then(if Gw.nu gw=0 then(if nV ⟨px,py,pz,ph,pq⟩=0 then(if Wh.nu wh=0 then(match oX ms nm with
  |none=>5
  |some m=>if m.state=2\/m.state=3 then 4 else if rs.any (vD ms)=true then 4 else 0) else Wh.nu wh) else nV ⟨px,py,pz,ph,pq⟩) else Gw.nu gw) else Sv.nu sv) else o5 rs) else nu ms) else 1:=by
  unfold Nd.e Nd.pE Nd.wE;simp only;by_cases h0:(mT nm&&mT ct)=true
  .simp only[if_pos h0]
   by_cases h1:nu ms=0
   .simp only[if_pos h1]
    by_cases h2:o5 rs=0
    .simp only[if_pos h2]
     by_cases h3:Sv.nu sv=0
     .simp only[if_pos h3]
      by_cases h4:Gw.nu gw=0
      .simp only[if_pos h4]
       by_cases h5:nV ⟨px,py,pz,ph,pq⟩=0
       .simp only[if_pos h5];rfl
       .simp only[if_neg h5]
      .simp only[if_neg h4]
     .simp only[if_neg h3]
    .simp only[if_neg h2]
   .simp only[if_neg h1]
  .simp only[if_neg h0];rfl
 obtain⟨am,cm,rfl,_,_⟩:=vP;obtain⟨ar,cr,rfl,_,_⟩:=A3;have KA:Hid (nu ms=0->ms.length<=20):=λh=>(mU h).1;have HRL:Hid (o5 rs=0->rs.length<=20):=λh=>(wA h).1;simp only[sR];generalize hNM:ms.length=nms at *;have LG:Hid _:=hNM;clear hNM;generalize hNR:rs.length=nrs at *;have HNR:Hid _:=hNR;clear hNR;obtain⟨W0,rm,rG,-,pS⟩:=pL w #[I nm,I ct,sh am nms cm,sh ar nrs cr,vs,vg,O J px,O J py,O J pz,O J ph,O J pq,vw] 30;have Ct:w.heap.size<W0.heap.size:=by rw[rm];simp
 have vh:Hid (∀W,Below W0.heap.size W0 W->Below w.heap.size w W):=λW hW=>rG.trans (hW.mono (by omega));have HX:Hid (∀W,Below W0.heap.size W0 W->W.cell? ⟨w.heap.size,0,U⟩=AI (I nm)/\W.cell? ⟨w.heap.size,1,U⟩=AI (I ct)/\W.cell? ⟨w.heap.size,2,U⟩=AI (sh am nms cm)/\W.cell? ⟨w.heap.size,3,U⟩=AI (sh ar nrs cr)/\W.cell? ⟨w.heap.size,4,U⟩=AI vs/\W.cell? ⟨w.heap.size,5,U⟩=AI vg/\W.cell? ⟨w.heap.size,6,U⟩=AI (O J px)/\W.cell? ⟨w.heap.size,7,U⟩=AI (O J py)/\W.cell? ⟨w.heap.size,8,U⟩=AI (O J pz)/\W.cell? ⟨w.heap.size,9,U⟩=AI (O J ph)/\W.cell? ⟨w.heap.size,10,U⟩=AI (O J pq)/\W.cell? ⟨w.heap.size,11,U⟩=AI vw):=λW hW=>
  have Ad:=(hW.block _ Ct).trans pS
  ⟨fi Ad 0,fi Ad 1,fi Ad 2,fi Ad 3,fi Ad 4,fi Ad 5,fi Ad 6,fi Ad 7,fi Ad 8,fi Ad 9,fi Ad 10,fi Ad 11⟩
 have HM:Hid (∀W,Below W0.heap.size W0 W->Calls _ _ _ _ _):=λW hW=>xe ms _ W (Kz.out.below (vh.out W hW));have NO:Hid (∀W,Below W0.heap.size W0 W->Calls _ _ _ _ _):=λW hW=>Ea rs _ W (NQ.out.below (vh.out W hW));have HS:Hid (∀W,Below W0.heap.size W0 W->Calls _ _ _ _ _):=λW hW=>Sv.rY sv vs W (V7.below (vh.out W hW));have HG:Hid (∀W,Below W0.heap.size W0 W->Calls _ _ _ _ _):=λW hW=>Gw.rY gw vg W (Bo.below (vh.out W hW));have HP:Hid (∀W,Below W0.heap.size W0 W->Calls AT 16 #[Iu #[O J px,O J py,O J pz,O J ph,O J pq]] W λe w'=>e=Ia (O J (nV ⟨px,py,pz,ph,pq⟩))/\Below W.heap.size W w'):=λW _=>(vA ⟨px,py,pz,ph,pq⟩ W).mono (by rintro e w' ⟨rfl,rfl⟩;exact⟨rfl,(If _ _).alloc (By _) _⟩);have HW:Hid (∀W,Below W0.heap.size W0 W->Calls _ _ _ _ _):=λW hW=>Wh.rY wh vw W (Rn.below (vh.out W hW));have HMA:Hid (nms<=1000->∀(W:World) (t:ByteArray),Below W0.heap.size W0 W->Calls AT 18 #[sh am nms cm,I t] W λe w'=>∃r:Int,e=Ia (O J r)/\Hid (AtF ms t r)/\w'=W):=λhn W t hW=>CS ms _ t W (Kz.out.below (vh.out W hW)) (by rw[LG.out];exact hn);have apc:Hid (∀W,Below W0.heap.size W0 W->0<ms.length->∃b off,am=AI ⟨b,off,U⟩/\b<W.heap.size/\Row W b off ms):=λW hW hp=>by
  obtain⟨a,c,he,_,ha⟩:=Kz.out.below (vh.out W hW);injection he with e1 e2 e3;subst e1;rcases ha with h|h
  .rw[h] at hp;simp at hp
  .exact h
 have HRR:Hid (∀W,Below W0.heap.size W0 W->0<rs.length->∃b off,ar=AI ⟨b,off,U⟩/\b<W.heap.size/\vU W b off rs):=λW hW hp=>by
  obtain⟨a,c,he,_,ha⟩:=NQ.out.below (vh.out W hW);injection he with e1 e2 e3;subst e1;rcases ha with h|h
  .rw[h] at hp;simp at hp
  .exact h
 have pN:Hid (Below W0.heap.size W0 W0):=If _ _;generalize Nd.e ⟨nm,ct,ms,rs,sv,gw,⟨px,py,pz,ph,pq⟩,wh⟩=res at *;generalize nu ms=m1 at *;generalize o5 rs=r1 at *;generalize Sv.nu sv=s1 at *;generalize Gw.nu gw=g1 at *;generalize nV ⟨px,py,pz,ph,pq⟩=p1 at *;generalize Wh.nu wh=wz at *;clear V7 Bo Rn rG pS;obtain⟨y0,y1,y2,y3,y4,y5,y6,y7,y8,y9,y10,y11⟩:=HX.out W0 pN.out;go_enter func5,ntmps5;rcases o8:mT nm with _|_
 .rw[o8,if_neg (by simp)] at HE
  have HR:Hid _:=HE;clear HE;go_wp2_with (go_at_call 11;refine(mV _ _ sg).mono ?_;rintro e w' ⟨rfl,rfl⟩;rw[o8]);go_ret;exact⟨mN HR.out.symm,(If _ _).alloc (By _) _⟩
 rcases oR:mT ct with _|_
 .rw[oR,if_neg (by simp)] at HE
  have HR:Hid _:=HE;clear HE;go_wp2_with (go_at_call 11;refine(mV _ _ (by first|exact sg|exact V5)).mono ?_;rintro e w' ⟨rfl,rfl⟩;first|rw[o8]|rw[oR]);go_ret;exact⟨mN HR.out.symm,(If _ _).alloc (By _) _⟩
 rw[o8,oR,if_pos (by rfl)] at HE;go_wp2_with (first|(go_at_call 11;refine(mV _ _ (by first|exact sg|exact V5)).mono ?_;rintro e w' ⟨rfl,rfl⟩;first|rw[o8]|rw[oR])|fail);rw[<- rm];refine(HM.out _ pN.out).mono ?_;rintro e w1 ⟨rfl,mO⟩;have mY:Hid _:=pN.out.trans (mO.mono pN.out.size);clear mO y0 y1 y2 y3 y4 y5 y6 y7 y8 y9 y10 y11;obtain⟨y0,y1,y2,y3,y4,y5,y6,y7,y8,y9,y10,y11⟩:=HX.out w1 mY.out;by_cases Cu:m1=0
 .rw[if_pos Cu] at HE
  have zK:=KA.out Cu;subst Cu;go_wp2_with fail;refine(NO.out _ mY.out).mono ?_;rintro e w2 ⟨rfl,mZ⟩;have nR:Hid _:=mY.out.trans (mZ.mono mY.out.size);clear mZ y0 y1 y2 y3 y4 y5 y6 y7 y8 y9 y10 y11;obtain⟨y0,y1,y2,y3,y4,y5,y6,y7,y8,y9,y10,y11⟩:=HX.out w2 nR.out;by_cases wT:r1=0
  .rw[if_pos wT] at HE
   have hrl:=HRL.out wT;subst wT;go_wp2_with fail;refine(HS.out _ nR.out).mono ?_;rintro e w3 ⟨rfl,nC⟩;have oT:Hid _:=nR.out.trans (nC.mono nR.out.size);clear nC y0 y1 y2 y3 y4 y5 y6 y7 y8 y9 y10 y11;obtain⟨y0,y1,y2,y3,y4,y5,y6,y7,y8,y9,y10,y11⟩:=HX.out w3 oT.out;by_cases sj:s1=0
   .rw[if_pos sj] at HE
    subst sj;go_wp2_with fail;refine(HG.out _ oT.out).mono ?_;rintro e w4 ⟨rfl,qA⟩;have qP:Hid _:=oT.out.trans (qA.mono oT.out.size);clear qA y0 y1 y2 y3 y4 y5 y6 y7 y8 y9 y10 y11;obtain⟨y0,y1,y2,y3,y4,y5,y6,y7,y8,y9,y10,y11⟩:=HX.out w4 qP.out;by_cases ou:g1=0
    .rw[if_pos ou] at HE
     subst ou;go_wp2_with fail;refine(HP.out _ qP.out).mono ?_;rintro e w5 ⟨rfl,sK⟩;have qB:Hid _:=qP.out.trans (sK.mono qP.out.size);clear sK y0 y1 y2 y3 y4 y5 y6 y7 y8 y9 y10 y11;obtain⟨y0,y1,y2,y3,y4,y5,y6,y7,y8,y9,y10,y11⟩:=HX.out w5 qB.out;by_cases tr:p1=0
     .rw[if_pos tr] at HE
      subst tr;go_wp2_with fail;refine(HW.out _ qB.out).mono ?_;rintro e w6 ⟨rfl,sZ⟩;have tq:Hid _:=qB.out.trans (sZ.mono qB.out.size);clear sZ y0 y1 y2 y3 y4 y5 y6 y7 y8 y9 y10 y11;obtain⟨y0,y1,y2,y3,y4,y5,y6,y7,y8,y9,y10,y11⟩:=HX.out w6 tq.out;by_cases hwz:wz=0
      .rw[if_pos hwz] at HE
       subst hwz;go_wp2_with fail;refine(HMA.out (by omega) w6 nm tq.out).mono ?_;rintro e w7 ⟨r,rfl,vu,rfl⟩;rcases vu.out with⟨k,hk,rfl,hf⟩|⟨rfl,hf⟩
       .have HR:Hid _:=HE.trans (by rw[hf])
        clear hf vu HE;obtain⟨b1,o1,tr,o8,wT⟩:=apc.out w7 tq.out (by omega);subst tr;obtain⟨c0,c1,c2,c3,c4⟩:=wT k hk;have tp:(k:Int)<(nms:Int):=by rw[LG.out] at hk;omega
        clear wT;generalize ms.getD k dm=mk at *;obtain⟨mn,st,lf,ad,sv2⟩:=mk;simp only at c0 c1 c2 c3 c4 HR;by_cases h2:st=2
        .subst h2
         have te:Hid (res=4):=HR.out.trans (by simp);go_wp2_with fail;go_ret;exact⟨mN te.out.symm,vh.out _ tq.out⟩
        .by_cases h3:st=3
         .subst h3
          have te:Hid (res=4):=HR.out.trans (by simp);go_wp2_with fail;go_ret;exact⟨mN te.out.symm,vh.out _ tq.out⟩
         .have te:Hid _:=HR.out.trans (if_neg (by omega))
          have DR:(st==2)=false:=by simpa using h2
          have h3':(st==3)=false:=by simpa using h3
          clear h2 h3 HR;go_wp2_with fail;clear c0 c1 c2 c3 c4 y0 y1 y2 y3 y4 y5 y6 y7 y8 y9 y10 y11;go_loopw [5] (λi wr=>∃q:Nat,q<=nrs/\i=O J q/\Hid (∀j,j<q->vD ms (rs.getD j dr)=false)/\Hid (Below W0.heap.size W0 wr)) (λi _=>nrs-(intOf i).toNat)
          case atStart=>exact⟨0,Nat.zero_le _,rfl,λj hj=>by omega,tq⟩
          case round=>
           obtain⟨q,hq,rfl,HZ,HB⟩:=hrel;have ahq:w.heap.size<wr.heap.size:=by have:=HB.out.size;omega
           obtain⟨y0,y1,y2,y3,y4,y5,y6,y7,y8,y9,y10,y11⟩:=HX.out wr HB.out;by_cases mS:q<nrs
           .obtain⟨b2,o2,SR,aCP,Bk⟩:=HRR.out wr HB.out (by rw[HNR.out];omega)
            subst SR;obtain⟨d0,d1,d2,d3,d4,d5⟩:=Bk q (by rw[HNR.out];exact mS);clear Bk;have HAH:Hid (vD ms (rs.getD q dr)=match oX ms (rs.getD q dr).m.name with
             |none=>true
             |some k=>wJ (rs.getD q dr).m k):=rfl
            have HY:Hid (vD ms (rs.getD q dr)=true->res=4):=λh=>by
             rw[show rs.getD q dr=rs[q]'(by rw[HNR.out];exact mS) by simp[Ip,Ih (show q<rs.length by rw[HNR.out];exact mS)]] at h;exact te.out.trans (if_pos (List.any_eq_true.2 ⟨_,IU _,h⟩))
            have o6:Hid (vD ms (rs.getD q dr)=false->∀j,j<q+1->vD ms (rs.getD j dr)=false):=λh j hj=>by
             by_cases e:j=q
             .subst e;exact h
             .exact HZ.out j (by omega)
            generalize vD ms (rs.getD q dr)=ab at *;generalize rs.getD q dr=rk at *;obtain⟨⟨rn,rst,rlf,rad,rsv⟩,rtd⟩:=rk;simp only at d0 d1 d2 d3 d4 d5 HAH;obtain⟨W1,uj,mO,-,ou⟩:=pL wr #[I rn,O J rst,O J rlf,O J rad,Ic rsv] 55;have mY:Hid _:=HB.out.trans (mO.mono HB.out.size);have HMQ:=HMA.out (by omega) W1 rn mY.out;go_wp2_with fail;rw[<- uj];refine HMQ.mono ?_;rintro e w8 ⟨r,rfl,vu,hw8⟩;have hw9:=hw8.symm;subst hw9;clear HMQ d0 d1 d2 d3 d4 d5 y0 y1 y2 y3 y4 y5 y6 y7 y8 y9 y10 y11;obtain⟨y0,y1,y2,y3,y4,y5,y6,y7,y8,y9,y10,y11⟩:=HX.out W1 mY.out;clear uj mO HZ;rcases vu.out with⟨k2,DT,rfl,hf⟩|⟨rfl,hf⟩
            .have AB:Hid _:=HAH.out.trans (by rw[hf])
             clear hf vu HAH;obtain⟨b3,o3,hp3,sy,hr3⟩:=apc.out W1 mY.out (by omega);simp only[Option.some.injEq,Addr.mk.injEq] at hp3;obtain⟨rfl,rfl,_⟩:=hp3;obtain⟨c0,c1,c2,c3,c4⟩:=hr3 k2 DT;have agV:(k2:Int)<(nms:Int):=by rw[LG.out] at DT;omega
             clear hr3;generalize ms.getD k2 dm=mk at *;obtain⟨mn2,st2,lf2,ad2,sv3⟩:=mk;simp only at c0 c1 c2 c3 c4;have hN:∀d os,Calls AT 19 #[Iu #[I rn,O J rst,O J rlf,O J rad,Ic rsv],Iu #[I mn2,O J st2,O J lf2,O J ad2,Ic sv3]] (Go.Sort.grow (IG W1 d) os) λe DQ=>e=Ia (Ic ab)/\∃p:Regrown,DQ=Go.Sort.grow (IG W1 p.d) p.os:=λd os=>Calls.regrown_of ((DX rn mn2 rst rlf rad rsv st2 lf2 ad2 sv3 _).mono (by rintro e w' ⟨rfl,rfl⟩;exact⟨by rw[AB.out];rfl,((If _ _).alloc (By _) _).alloc (by simp) _⟩));have F0:=Im (fi ou 0);have F1:=Im (fi ou 1);have F2:=Im (fi ou 2);have F3:=Im (fi ou 3);have F4:=Im (fi ou 4);have G0:=Im c0;have G1:=Im c1;have G2:=Im c2;have G3:=Im c3;have G4:=Im c4;have Y2:=Im y2;have Ni:decide ((k2:Int)<0)=false:=by simp
             have hkk:(0:Int)<=(k2:Int):=by omega
             clear c0 c1 c2 c3 c4 y0 y1 y2 y3 y4 y5 y6 y7 y8 y9 y10 y11 ou;go_wp2_with fail;refine wp_region_quiet_below (by kernel_rfl) (by kernel_rfl) ?_;repeat(quiet_step (exact hN _ _))
             refine wpQuiet_nil ?_;intro _ hw';obtain⟨⟨dq,yx⟩,adb⟩:=hw';subst adb;have tB:Hid _:=mY.out.trans ((below_regrown W1 dq yx).mono mY.out.size);clear hN F0 F1 F2 F3 F4 G0 G1 G2 G3 G4 Y2;generalize Go.Sort.grow (IG W1 dq) yx=w9 at *;cases ab
             .have tu:Hid _:=o6.out rfl
              clear HY o6 AB;go_wp2_with fail;go_roundw
              case rel=>exact⟨q+1,by omega,by go_num,tu,tB⟩
              case measure=>simp[intOf];omega
             .have Rl:Hid _:=HY.out rfl
              clear HY o6 AB;go_wp2_with fail;go_ret;exact⟨mN Rl.out.symm,vh.out _ tB.out⟩
            .have Rl:Hid _:=HY.out (HAH.out.trans (by rw[hf]))
             clear hf vu HAH HY o6 ou;go_wp2_with fail;go_quiet (fail)
             go_wp2_with fail;go_ret;exact⟨mN Rl.out.symm,vh.out _ (below_drewN mY.out _)⟩
           .have Rl:Hid (res=0):=te.out.trans (if_neg (by
             rw[List.any_eq_true];rintro⟨r,hr,h⟩;obtain⟨j,hj,rfl⟩:=I2 hr;have h3:=HZ.out j (by have:=HNR.out;omega);rw[show rs.getD j dr=rs[j] by simp[Ip,Ih hj],h] at h3;cases h3))
            clear HZ;go_wp2_with fail;go_ret;exact⟨mN Rl.out.symm,vh.out _ HB.out⟩
       .have HR:Hid _:=HE.trans (by rw[hf])
        clear hf vu HE;go_wp2_with fail;go_ret;exact⟨mN HR.out.symm,vh.out _ tq.out⟩
      .have aCQ:(wz !=0)=true:=by simpa using hwz
       rw[if_neg hwz] at HE;have HR:Hid _:=HE;clear hwz HE;go_wp2_with fail;go_ret;exact⟨mN HR.out.symm,vh.out _ tq.out⟩
     .have auT:(p1 !=0)=true:=by simpa using tr
      have ayQ:(p1==0)=false:=by simpa using tr
      rw[if_neg tr] at HE;have HR:Hid _:=HE.trans (by first|rfl|exact if_neg tr);clear tr HE;go_wp2_with fail;go_ret;exact⟨mN HR.out.symm,vh.out _ qB.out⟩
    .have auU:(g1 !=0)=true:=by simpa using ou
     have ayR:(g1==0)=false:=by simpa using ou
     rw[if_neg ou] at HE;have HR:Hid _:=HE.trans (by first|rfl|exact if_neg ou);clear ou HE;go_wp2_with fail;go_ret;exact⟨mN HR.out.symm,vh.out _ qP.out⟩
   .have akx:(s1 !=0)=true:=by simpa using sj
    have ayS:(s1==0)=false:=by simpa using sj
    rw[if_neg sj] at HE;have HR:Hid _:=HE.trans (by first|rfl|exact if_neg sj);clear sj HE;go_wp2_with fail;go_ret;exact⟨mN HR.out.symm,vh.out _ oT.out⟩
  .have auV:(r1 !=0)=true:=by simpa using wT
   have ayT:(r1==0)=false:=by simpa using wT
   rw[if_neg wT] at HE;have HR:Hid _:=HE.trans (by first|rfl|exact if_neg wT);clear wT HE;go_wp2_with fail;go_ret;exact⟨mN HR.out.symm,vh.out _ nR.out⟩
 .have auW:(m1 !=0)=true:=by simpa using Cu
  have ayU:(m1==0)=false:=by simpa using Cu
  rw[if_neg Cu] at HE;have HR:Hid _:=HE.trans (by first|rfl|exact if_neg Cu);clear Cu HE;go_wp2_with fail;go_ret;exact⟨mN HR.out.symm,vh.out _ mY.out⟩
structure Sh(S:Nat->Prop)(w w':World):Prop where
 os:w'.os=w.os
 tape:w'.tape=w.tape
 output:w'.output=w.output
 size:w.heap.size<=w'.heap.size
 block:∀k,k<w.heap.size->¬ S k->w'.heap[k]?=w.heap[k]?
theorem Sh.refl(S:Nat->Prop)(w:World):Sh S w w:=⟨rfl,rfl,rfl,By _,λ_ _ _=>rfl⟩
theorem Sh.trans{S:Nat->Prop}{a b c:World}(h:Sh S a b)(k:Sh S b c):Sh S a c:=⟨k.os.trans h.os,k.tape.trans h.tape,k.output.trans h.output,Nat.le_trans h.size k.size,λi hi hn=>(k.block i (Ix hi h.size) hn).trans (h.block i hi hn)⟩
theorem Sh.of{S:Nat->Prop}{w w':World}(h:Below w.heap.size w w'):Sh S w w':=⟨h.os,h.tape,h.output,h.size,λk hk _=>h.block k hk⟩
theorem Sh.next{S:Nat->Prop}{a w w':World}(h:Sh S a w)(k:Below w.heap.size w w'):Sh S a w':=h.trans (.of k)
theorem Sh.alloc{S:Nat->Prop}{a w:World}(h:Sh S a w)(o:Obj):Sh S a (w.alloc o):=h.next ((If _ _).alloc (By _) _)
theorem Sh.setCell{S:Nat->Prop}{a w:World}(h:Sh S a w){b i:Nat}(hb:S b)(x:Value):Sh S a (w.setCell ⟨b,i,U⟩ x):=
 h.trans ⟨rfl,rfl,rfl,by simp[Ui],λk _ hn=>IC w _ x k (λe=>hn (by simp only at e;rw[e];exact hb))⟩
theorem Sh.below{S:Nat->Prop}{w w':World}{B:Nat}(h:Sh S w w')(hB:B<=w.heap.size)(hS:∀k,S k->B<=k):Below B w w':=⟨h.os,h.tape,h.output,h.size,λk hk=>h.block k (by omega) (λe=>by have:=hS k e;omega)⟩
theorem Sh.mono{S T:Nat->Prop}{w w':World}(h:Sh S w w')(hS:∀k,S k->T k):Sh T w w':=⟨h.os,h.tape,h.output,h.size,λk hk hn=>h.block k hk (λe=>hn (hS k e))⟩
theorem tj{w:World}{b:Nat}{cs:Array Value}{T:Ji}(h:w.heap[b]?=AI (Ib cs T (0,0)))(o:Nat):w.frozen? ⟨b,o,U⟩=false:=by simp[Ij,h]
def Wk(L:Nat)(w:World)(b:Nat)(n:Nd):Prop:=∃vm vr vs vg vw,w.heap[b]?=AI (Ib (sR n vm vr vs vg vw) 41 (0,0))/\uB L w n vm vr vs vg vw /\
 (vm.ownBlock≠AI b/\vr.ownBlock≠AI b/\vs.ownBlock≠AI b/\vg.ownBlock≠AI b/\vw.ownBlock≠AI b)/\Eb n
theorem Wk.below{L b:Nat}{w w':World}{n:Nd}(h:Wk L w b n)(hb:Below w.heap.size w w'):Wk L w' b n:=by
 obtain⟨vm,vr,vs,vg,vw,h1,h2,h3,h4⟩:=h;exact⟨vm,vr,vs,vg,vw,(hb.block _ (Ig.1 h1).1).trans h1,h2.below hb,h3,h4⟩
theorem Wk.lt{L b:Nat}{w:World}{n:Nd}(h:Wk L w b n):b<w.heap.size:=by
 obtain⟨vm,vr,vs,vg,vw,h1,_⟩:=h;exact(Ig.1 h1).1
theorem Wk.adQ{L b:Nat}{W w1:World}{n:Nd}(h:Wk L W b n)(hL:L<=W.heap.size)(hb:Below W.heap.size W w1){v:Value}{l:List Mem}(ho:Own W.heap.size w1 v l)(hl:(∀m∈l,m.name.size<=Il)):Wk L (w1.setCell ⟨b,2,U⟩ v) b { n with ms:=l }:=by
 obtain⟨vm,vr,vs,vg,vw,h1,h2,h3,h4⟩:=h;have nE:=(Ig.1 h1).1;refine⟨v,vr,vs,vg,vw,?_,⟨IN (ho.mono hL) (λe=>by have:=ho.lt b e;omega) _,IN (h2.rs.below hb) h3.2.1 _,IN (h2.sv.below hb) h3.2.2.1 _,IN (h2.gw.below hb) h3.2.2.2.1 _,IN (h2.wh.below hb) h3.2.2.2.2 _⟩,⟨λe=>by have:=ho.lt b e;omega,h3.2.1,h3.2.2.1,h3.2.2.2.1,h3.2.2.2.2⟩,⟨hl,h4.rs,h4.sv,h4.gw,h4.wh,h4.name,h4.mM⟩⟩;exact It (i:=2) ((hb.block _ nE).trans h1) v
theorem Wk.adR{L b:Nat}{W w1:World}{n:Nd}(h:Wk L W b n)(hL:L<=W.heap.size)(hb:Below W.heap.size W w1){v:Value}{l:List nQ}(ho:oE W.heap.size w1 v l)(hl:(∀r∈l,r.m.name.size<=Il)):Wk L (w1.setCell ⟨b,3,U⟩ v) b { n with rs:=l }:=by
 obtain⟨vm,vr,vs,vg,vw,h1,h2,h3,h4⟩:=h;have nE:=(Ig.1 h1).1;refine⟨vm,v,vs,vg,vw,?_,⟨IN (h2.ms.below hb) h3.1 _,IN (ho.base hL) (λe=>by have:=ho.lt b e;omega) _,IN (h2.sv.below hb) h3.2.2.1 _,IN (h2.gw.below hb) h3.2.2.2.1 _,IN (h2.wh.below hb) h3.2.2.2.2 _⟩,⟨h3.1,λe=>by have:=ho.lt b e;omega,h3.2.2.1,h3.2.2.2.1,h3.2.2.2.2⟩,⟨h4.ms,hl,h4.sv,h4.gw,h4.wh,h4.name,h4.mM⟩⟩;exact It (i:=3) ((hb.block _ nE).trans h1) v
theorem Wk.alk{L b:Nat}{W w1:World}{n:Nd}(h:Wk L W b n)(hL:L<=W.heap.size)(hb:Below W.heap.size W w1){v:Value}{l:List Sv.nj}(ho:Sv.Own W.heap.size w1 v l)(hl:(∀m∈l,m.ok)):Wk L (w1.setCell ⟨b,4,U⟩ v) b { n with sv:=l }:=by
 obtain⟨vm,vr,vs,vg,vw,h1,h2,h3,h4⟩:=h;have nE:=(Ig.1 h1).1;refine⟨vm,vr,v,vg,vw,?_,⟨IN (h2.ms.below hb) h3.1 _,IN (h2.rs.below hb) h3.2.1 _,IN (ho.mono hL) (λe=>by have:=ho.lt b e;omega) _,IN (h2.gw.below hb) h3.2.2.2.1 _,IN (h2.wh.below hb) h3.2.2.2.2 _⟩,⟨h3.1,h3.2.1,λe=>by have:=ho.lt b e;omega,h3.2.2.2.1,h3.2.2.2.2⟩,⟨h4.ms,h4.rs,hl,h4.gw,h4.wh,h4.name,h4.mM⟩⟩;exact It (i:=4) ((hb.block _ nE).trans h1) v
theorem Wk.alm{L b:Nat}{W w1:World}{n:Nd}(h:Wk L W b n)(hL:L<=W.heap.size)(hb:Below W.heap.size W w1){v:Value}{l:List Gw.pU}(ho:Gw.Own W.heap.size w1 v l)(hl:(∀m∈l,m.ok)):Wk L (w1.setCell ⟨b,5,U⟩ v) b { n with gw:=l }:=by
 obtain⟨vm,vr,vs,vg,vw,h1,h2,h3,h4⟩:=h;have nE:=(Ig.1 h1).1;refine⟨vm,vr,vs,v,vw,?_,⟨IN (h2.ms.below hb) h3.1 _,IN (h2.rs.below hb) h3.2.1 _,IN (h2.sv.below hb) h3.2.2.1 _,IN (ho.mono hL) (λe=>by have:=ho.lt b e;omega) _,IN (h2.wh.below hb) h3.2.2.2.2 _⟩,⟨h3.1,h3.2.1,h3.2.2.1,λe=>by have:=ho.lt b e;omega,h3.2.2.2.2⟩,⟨h4.ms,h4.rs,h4.sv,hl,h4.wh,h4.name,h4.mM⟩⟩;exact It (i:=5) ((hb.block _ nE).trans h1) v
theorem aat(m:Int)(w:World)(h:within m 0 20=true) :
 Calls AT 100 #[O J m] w λe w'=>e=Ia (Ir #[O J (3*(Lib.bitLen m.toNat:Nat)),O J 0])/\w'=w:=by
 have hm:0<=m/\m<=20:=by simp[within] at h;omega
 have hl:(Lib.bitLen m.toNat:Int)<=64:=by have:=Lib.bitLen_le m.toNat 64 (by omega) (by omega);omega
 go_enter func100,ntmps100;go_wp2_with (first|(go_at_call 89;refine(oe _ _ _ _).mono ?_;rintro e w' ⟨rfl,rfl⟩;rw[h])|(go_at_call 158;refine(Tryz.bits_Len _ _ (by omega) (by omega)).mono ?_;rintro e w' ⟨rfl,rfl⟩));go_ret2;exact⟨rfl,rfl⟩
def FI(ms:List Mem)(t:ByteArray):Nat:=ms.findIdx λm => !decide (oh m.name t<0)
def isM(ms:List Mem)(t:ByteArray):Bool:=decide (FI ms t<ms.length)&&decide (oh (ms.getD (FI ms t) dm).name t=0)
theorem Tr{ms:List Mem}(hr:pj ms)(t:ByteArray):At ms t (FI ms t) (isM ms t):=by
 have tE:∀j (h:j<ms.length),ms.getD j dm=ms[j]:=λj h=>by simp[Ip,Ih h]
 refine⟨QP,λj hj=>?_,λj hj hl=>?_,?_⟩
 .have hl:j<ms.length:=Ix hj QP
  have h:=List.not_of_lt_findIdx hj;rw[tE j hl];simpa using h
 .have hp:FI ms t<ms.length:=by omega
  have h:=List.findIdx_getElem (xs:=ms) (p:=λm:Mem => !decide (oh m.name t<0)) (w:=hp);apply Int.not_lt.1;intro hx;have h2:=ve hr t (FI ms t) j hj hl hx;rw[tE _ hp] at h2;have h3:(!decide (oh (ms[FI ms t]'hp).name t<0))=true:=h;rw[decide_eq_true h2] at h3;cases h3
 .unfold isM
  rw[IP,decide_eq_true_eq,decide_eq_true_eq]
theorem DC{ms:List Mem}{t:ByteArray}{p:Nat}(h:At ms t p true):oX ms t=AI (ms.getD p dm):=by
 obtain⟨h1,h2⟩:=h.is.1 rfl;refine zF h1 (λj hj e=>?_) ((oQ _ _).1 h2);have:=h.lo j hj;rw[e,(oQ t t).2 rfl] at this;omega
theorem NR{ms:List Mem}{t:ByteArray}{p:Nat}(hr:pj ms)(h:At ms t p false):oX ms t=U:=by
 refine zE λj hj e=>?_;have tE:∀j (h:j<ms.length),ms.getD j dm=ms[j]:=λj h=>by simp[Ip,Ih h]
 have h2:At ms t j true:=by
  refine⟨by omega,λi hi=>?_,λi hi hl=>?_,⟨λ_=>⟨hj,(oQ _ _).2 e⟩,λ_=>rfl⟩⟩
  .have:=Jy.1 hr i j (by omega) hj hi
   rw[<- e,pB,tE i (by omega),tE j hj];exact this
  .rcases Nat.lt_or_eq_of_le hi with h3|rfl
   .have:=Jy.1 hr j i hj hl h3
    have h4:0<oh (ms.getD i dm).name t:=by rw[<- e,Bn,tE i hl,tE j hj];exact this
    omega
   .rw[(oQ _ _).2 e];omega
 have:=(vY h h2).2;cases this
theorem aln{ms:List Mem}{t:ByteArray}{p:Nat}{f:Bool}(hr:pj ms)(h:At ms t p f):oX ms t=if f=true then AI (ms.getD p dm) else U:=by
 cases f
 .rw[NR hr h];rfl
 .rw[DC h];rfl
theorem alo{a b:ByteArray}(h:oh a b<0):a≠b:=λe=>by rw[(oQ a b).2 e] at h;omega
theorem BV(x:Mem)(r:List Mem)(t:ByteArray):oX (x::r) t=if x.name=t then AI x else oX r t:=by
 unfold oX;rw[List.find?_cons];by_cases h:x.name=t<;>simp[h]
theorem NT(m:Mem):∀ms,nY ms m≠ms->oX (nY ms m) m.name=AI m
 |[],_=>by rw[nY,BV,if_pos rfl]
 |x::r,h=>by
  rw[nY] at h ⊢;split
  .rename_i h1
   rw[if_pos h1] at h;rw[BV,if_neg (alo h1)];exact NT m r (λe=>h (by rw[e]))
  .rename_i h1
   rw[if_neg h1] at h;split
   .rename_i h2
    rw[if_pos h2] at h;split
    .rw[BV,if_pos rfl]
    .rename_i h3;rw[if_neg h3] at h;exact absurd rfl h
   .rw[BV,if_pos rfl]
def NU(rs:List nQ)(t:ByteArray):Nat:=rs.findIdx λr=>decide (r.m.name=t)
theorem adS{rs:List nQ}{t:ByteArray}{j:Nat}(h:j<NU rs t):(rs.getD j dr).m.name≠t:=by
 have hl:=Ix h QP;have h:=List.not_of_lt_findIdx h;rw[show rs.getD j dr=rs[j] by simp[Ip,Ih hl]];simpa using h
theorem Ts{rs:List nQ}{t:ByteArray}(h:NU rs t<rs.length):(rs.getD (NU rs t) dr).m.name=t:=by
 have h2:=List.findIdx_getElem (xs:=rs) (p:=λr:nQ=>decide (r.m.name=t)) (w:=h);rw[show rs.getD (NU rs t) dr=rs[NU rs t] by simp[Ip,Ih h]];exact of_decide_eq_true h2
theorem Tt{rs:List nQ}{t:ByteArray}(h:¬ NU rs t<rs.length):V9 rs t:=λj hj=>adS (by
 have:NU rs t<=rs.length:=QP
 omega)
theorem alp{rs:List nQ}(hd:qG rs){t:ByteArray}{j:Nat}(hj:j<rs.length)(nK:j≠NU rs t):(rs.getD j dr).m.name≠t:=by
 rcases Nat.lt_or_ge j (NU rs t) with h|h
 .exact adS h
 .have mS:NU rs t<j:=by omega
  intro e;exact hd (NU rs t) j mS hj (by rw[e];exact Ts (by omega))
def uM(rs:List nQ)(m:Mem):List nQ:=
 if NU rs m.name<rs.length then(if wJ m (rs.getD (NU rs m.name) dr).m=true then rs.eraseIdx (NU rs m.name)++[⟨m,0⟩] else rs) else rs++[⟨m,0⟩]
def uf(rs:List nQ)(m:Mem):Int:=if 20<(uM rs m).length then 2 else 0
theorem LH{P:Prop}(h:P:=by
 rintro e w' ⟨v',rfl,ho,hb⟩;obtain⟨a,k,c,rfl⟩:=sl ho;exact⟨a,k,c,by rw[e2],hb,λ_=>by rw[e1];exact ho⟩):P:=h
theorem ahr(rs:List nQ)(v:Value)(m:Mem)(w:World)(hv:yd w v rs)(hm:m.name.size<=Il)(h0:o5 rs=0)(he:m.e=0) :
 ni 195 #[v,Iu #[I m.name,O J m.state,O J m.nJ,O J m.addr,Ic m.server]] w λe w'=>∃a k c,e=Ia (Ir #[sh a k c,O J (uf rs m)])/\Below w.heap.size w w'/\(uf rs m=0->oE w.heap.size w' (sh a k c) (uM rs m)):=by
 have hl:=(wA h0).1;have sl:∀{W:World} {B:Nat} {u:Value} {l:List nQ},oE B W u l->∃a k c,u=sh a k c:=λh=>by
  obtain⟨a,c,e⟩:=h.slice;exact⟨a,_,c,e⟩
 by_cases hp:NU rs m.name<rs.length
 .rcases hn:wJ m (rs.getD (NU rs m.name) dr).m with _|_
  .have e1:uM rs m=rs:=by unfold uM;rw[if_pos hp,if_neg (by rw[hn];simp)]
   have e2:uf rs m=0:=by unfold uf;rw[e1,if_neg (by omega)]
   refine(ahj rs v m w hv hm h0 he _ hp (Ts hp) hn).mono ?_;exact LH
  .have e1:uM rs m=rs.eraseIdx (NU rs m.name)++[⟨m,0⟩]:=by unfold uM;rw[if_pos hp,if_pos hn]
   have e2:uf rs m=0:=by unfold uf;rw[e1,if_neg (by rw[Iq,List.length_eraseIdx_of_lt hp];simp;omega)]
   refine(aak rs v m w hv hm h0 he _ hp (Ts hp) hn).mono ?_;exact LH
 .have e1:uM rs m=rs++[⟨m,0⟩]:=by unfold uM;rw[if_neg hp]
  by_cases hf:rs.length=20
  .have e2:uf rs m=2:=by unfold uf;rw[e1,if_pos (by rw[Iq];simp;omega)]
   refine(adK rs v m w hv hm h0 he (Tt hp) hf).mono ?_;rintro e w' ⟨rfl,hb⟩;exact⟨U,0,0,by rw[e2],hb,λh=>by rw[e2] at h;cases h⟩
  .have e2:uf rs m=0:=by unfold uf;rw[e1,if_neg (by rw[Iq];simp;omega)]
   refine(ahf rs v m w hv hm h0 he (Tt hp) (by omega)).mono ?_;exact LH
theorem ahs{rs:List nQ}{m:Mem}(h:∀r∈rs,r.m.name.size<=Il)(hm:m.name.size<=Il):∀r∈uM rs m,r.m.name.size<=Il:=by
 intro r hr;unfold uM at hr;split at hr
 .split at hr
  .rcases JI.1 hr with hr|hr
   .exact h r (List.mem_of_mem_eraseIdx hr)
   .simp at hr;subst hr;exact hm
  .exact h r hr
 .rcases JI.1 hr with hr|hr
  .exact h r hr
  .simp at hr;subst hr;exact hm
theorem FJ(L b:Nat)(n:Nd)(t:ByteArray)(m:Mem)(w:World)(h:Wk L w b n)(hL:L<=b)(vP:n.ms.length<=1000)(A3:o5 n.rs=0)(hm:qO n.ms t=m)(he:m.e=0)(od:m.name.size<=Il) :
 ni 151 #[Ik (AI ⟨b,0,U⟩),I t] w λe w'=>e=Ia (O J (uf n.rs m))/\Sh (λk=>k=b) w w'/\(uf n.rs m=0->Wk L w' b { n with rs:=uM n.rs m }):=by
 have NV:Hid (Wk L w b n):=h;have nE:=h.lt;obtain⟨vm,vr,vs,vg,vw,h1,h2,h3,h4⟩:=h;have Tu:Hid _:=h2.is h4;obtain⟨am,cm,Ec,_⟩:=mR h2.ms;obtain⟨ar,cr,LI,_⟩:=mR h2.rs;subst Ec LI;have HMB:Hid (rI 66 #[Ik (AI ⟨b,0,U⟩),I t] w (Ir #[Iu #[I m.name,O J m.state,O J m.nJ,O J m.addr,Ic m.server],Ic (oX n.ms t).isSome])):=by
  have hq:=wv b am n.ms.length cm n.ms t w (fi h1 2) Tu.out.ms vP;rw[hm] at hq;exact hq
 have HPT:Hid (∀W,Below w.heap.size w W->ni _ _ _ _):=λW hW=>ahr n.rs _ m W (Tu.out.rs.below hW) od A3 he;have SQ:Hid (∀W w1 a k c,Below w.heap.size w W->Below W.heap.size W w1->(uf n.rs m=0->oE W.heap.size w1 (sh a k c) (uM n.rs m))->uf n.rs m=0->Wk L (w1.setCell ⟨b,3,U⟩ (sh a k c)) b { n with rs:=uM n.rs m }):=λW w1 a k c hW h1 h2 h0=>
  (NV.out.below hW).adR (by have:=hW.size;omega) h1 (h2 h0) (ahs h4.rs od)
 have HX:Hid (∀W,Below w.heap.size w W->W.heap[b]?=AI (Ib (sR n (sh am n.ms.length cm) (sh ar n.rs.length cr) vs vg vw) 41 (0,0))):=λW hW=>(hW.block _ nE).trans h1;have y2:=fi h1 2;generalize uf n.rs m=pe at *;generalize hkr:n.rs.length=kr at *;generalize K8:n.ms.length=km at *;clear hkr K8 h1 h2 h3 h4 hm he A3;generalize(oX n.ms t).isSome=fd at *;obtain⟨mn,st,lf,ad,sv⟩:=m;simp only at HMB HPT od;go_enter func151,ntmps151;go_wp2_with fail;refine HMB.out.mono ?_;rintro e w1 ⟨rfl,mO⟩;obtain⟨W2,sx⟩:∃W2,W2=w1.alloc (Ib #[I mn,O J st,O J lf,O J ad,Ic sv] 55):=⟨_,rfl⟩;have mZ:Below w.heap.size w W2:=by rw[sx];exact mO.alloc mO.size _
 have nR:Hid _:=mZ;have vR:W2.heap[w1.heap.size]?=AI (Ib #[I mn,O J st,O J lf,O J ad,Ic sv] 55 (0,0)):=by rw[sx];exact Ii w1 _
 obtain⟨x0,x1,x2,x3,x4⟩:=LD vR;have y3:=fi (HX.out W2 mZ) 3;go_upto_region 2 with fail
 rw[<- sx];clear sx mO mZ vR y2 HMB;have alr:b<W2.heap.size:=by have:=nR.out.size;omega
 go_region_with (first|(go_at_call 195;refine(HPT.out _ nR.out.drew).mono ?_;rintro e w3 ⟨a,k,c,rfl,nC,AR⟩;have oT:Hid (Below W2.heap.size W2 w3):=(If W2.heap.size W2).drew.trans nC;have tQ:Hid (pe=0->Wk L (w3.setCell ⟨b,3,U⟩ (sh a k c)) b { n with rs:=uM n.rs ⟨mn,st,lf,ad,sv⟩ }):=SQ.out _ _ a k c nR.out.drew nC AR;have rX:=HX.out w3 (nR.out.trans (oT.out.mono nR.out.size));have z3:w3.cell? ⟨b,3,U⟩=AI (sh ar kr cr):=fi rX 3;have zf:w3.frozen? ⟨b,3,U⟩=false:=tj rX 3;clear nC AR rX))
 all_goals
  go_wp2_with fail;go_ret;exact⟨rfl,((Sh.of nR.out).next oT.out).setCell (S:=λk=>k=b) rfl _,tQ.out⟩
theorem DE(rs:List nQ):qG rs↔rs.Pairwise λa b=>a.m.name≠b.m.name:=by
 have tE:∀j (h:j<rs.length),rs.getD j dr=rs[j]:=λj h=>by simp[Ip,Ih h]
 rw[Jy];exact⟨λh i j hi hj yp=>by have:=h i j yp hj;rwa [tE i hi,tE j hj] at this,λh i j yp hj=>by rw[tE i (by omega),tE j hj];exact h i j (by omega) hj yp⟩
theorem NW(rs:List nQ):sL rs↔∀r∈rs,within r.told 0 100=true:=by
 have tE:∀j (h:j<rs.length),rs.getD j dr=rs[j]:=λj h=>by simp[Ip,Ih h]
 constructor
 .intro h r hr
  obtain⟨j,hj,rfl⟩:=I2 hr;have:=h j hj;rwa [tE j hj] at this
 .intro h j hj
  rw[tE j hj];exact h _ (IU _)
theorem aht{rs:List nQ}(h1:rs.length<=20)(h2:∀r∈rs,r.m.e=0)(h3:∀r∈rs,within r.told 0 100=true)(h4:rs.Pairwise λa b=>a.m.name≠b.m.name):o5 rs=0:=by
 have tE:∀j (h:j<rs.length),rs.getD j dr=rs[j]:=λj h=>by simp[Ip,Ih h]
 exact Lr h1 (λj hj=>by rw[tE j hj];exact h2 _ (IU _)) ((NW rs).2 h3) ((DE rs).2 h4)
theorem NX{rs:List nQ}{m:Mem}{r:nQ}(h:r∈uM rs m):r∈rs\/r=⟨m,0⟩:=by
 unfold uM at h;split at h
 .split at h
  .rcases JI.1 h with h|h
   .exact .inl (List.mem_of_mem_eraseIdx h)
   .exact .inr (by simpa using h)
  .exact .inl h
 .rcases JI.1 h with h|h
  .exact .inl h
  .exact .inr (by simpa using h)
theorem NY{rs:List nQ}{m:Mem}(h:o5 rs=0)(hm:m.e=0)(hp:uf rs m=0):o5 (uM rs m)=0:=by
 obtain⟨l1,l2,l3,l4⟩:=wA h;have hlen:(uM rs m).length<=20:=by
  unfold uf at hp;split at hp
  .cases hp
  .omega
 rw[NW] at l3;have hd:=(DE rs).1 l4;refine aht hlen (λr hr=>?_) (λr hr=>?_) ?_
 .rcases NX hr with h|rfl
  .exact l2 r h
  .exact hm
 .rcases NX hr with h|rfl
  .exact l3 r h
  .rfl
 .unfold uM
  split
  .rename_i mS
   split
   .rw[Ox]
    refine⟨hd.sublist (List.eraseIdx_sublist _ _),by simp,λa ha b hb=>?_⟩;simp at hb;subst hb;obtain⟨i,hi,nK,rfl⟩:=List.mem_eraseIdx_iff_getElem.1 ha;have:=alp l4 hi nK
    rwa [show rs.getD i dr=rs[i] by simp[Ip,Ih hi]] at this
   .exact hd
  .rename_i mS
   rw[Ox];refine⟨hd,by simp,λa ha b hb=>?_⟩;simp at hb;subst hb;obtain⟨i,hi,rfl⟩:=I2 ha;have:=Tt mS i hi
   rwa [show rs.getD i dr=rs[i] by simp[Ip,Ih hi]] at this
theorem adT{ms:List Mem}(h1:ms.length<=20)(h2:pj ms)(h3:∀m∈ms,m.e=0):nu ms=0:=by
 have tE:∀j (h:j<ms.length),ms.getD j dm=ms[j]:=λj h=>by simp[Ip,Ih h]
 rw[xX ms h1 (λj hj=>by rw[tE j hj];exact h3 _ (IU _)),if_pos (Nk ms h2)]
theorem adU{ms:List Mem}{m:Mem}(h:nu ms=0)(hm:m.e=0)(hl:(nY ms m).length<=20):nu (nY ms m)=0:=by
 obtain⟨_,h2,_⟩:=mU h;refine adT hl (AY ms m h2) (λx hx=>?_);rcases xd ms m x hx with rfl|hx
 .exact hm
 .exact CU h x hx
theorem aau{ms:List Mem}{m:Mem}(h:nu ms=0)(hm:m.e=0):nP ms [m]=if 20<(nY ms m).length then 2 else 0:=by
 unfold nP nW;rw[if_pos h,vC,if_pos hm];rfl
def FK(ms:List Mem)(m:Mem):Bool:=match oX ms m.name with
 |none=>true
 |some k=>wJ m k
theorem aav(m:Mem):wJ m m=false:=by
 unfold wJ CL;simp
theorem NZ{ms:List Mem}(hr:pj ms)(m:Mem):FK ms m=true↔nY ms m≠ms:=by
 have qi:=Tr hr m.name;have hf:=aln hr qi;have hh:=yy ms m _ _ qi;unfold FK;rw[hf,hh];rcases he:isM ms m.name with _|_
 .simp only[Bool.false_eq_true,if_false,ne_eq,true_iff]
  intro e;have:=congrArg List.length e;have hle:=qi.le;simp at this;omega
 .simp only[if_true]
  rw[he] at qi;have hp:=(qi.is.1 rfl).1;by_cases hn:wJ m (ms.getD (FI ms m.name) dm)=true
  .rw[if_pos hn]
   refine⟨λ_ e=>?_,λ_=>hn⟩;have h2:ms.getD (FI ms m.name) dm=m:=by
    have:(ms.set (FI ms m.name) m).getD (FI ms m.name) dm=m:=by simp[Ip,hp]
    rwa [e] at this
   rw[h2,aav] at hn;cases hn
  .rw[if_neg hn]
   exact⟨λh=>absurd h hn,λh=>absurd rfl h⟩
def ym(n:Nd):Nat:=FI n.ms n.name
def Ex(n:Nd):Bool:=isM n.ms n.name
def GU(n:Nd):List Mem:=Nl n.ms (ym n) (Ex n)
def rfM(n:Nd):Mem:=qO (GU n) n.name
def Tv(n:Nd):Int:=if vT n.ms (ym n) (Ex n)=0 then(if vS n.ms (ym n) (Ex n)=true then uf n.rs (rfM n) else 0) else vT n.ms (ym n) (Ex n)
def rfN(n:Nd):Nd:=if vS n.ms (ym n) (Ex n)=true then{ n with ms:=GU n,rs:=uM n.rs (rfM n) } else{ n with ms:=GU n }
def zL(n:Nd)(m:Mem):Nd:=if FK n.ms m=true then{ n with ms:=nY n.ms m,rs:=uM n.rs m } else{ n with ms:=nY n.ms m }
def xR(n:Nd)(m:Mem):Int:=if nP n.ms [m]=0 then(if FK n.ms m=true then uf n.rs m else 0) else nP n.ms [m]
def Cp(n:Nd)(m:Mem):Int:=if xR n m=0 then(if m.name=n.name then Tv (zL n m) else 0) else xR n m
def FM(n:Nd)(m:Mem):Nd:=if m.name=n.name then rfN (zL n m) else zL n m
theorem als{ms:List Mem}{t:ByteArray}{p:Nat}(h:At ms t p true):qO ms t=ms.getD p dm:=xn (DC h)
theorem alu{ms:List Mem}{t:ByteArray}{p:Nat}(h:At ms t p true){x:Mem}(hx:x.name=t):At (ms.set p x) t p true:=by
 obtain⟨h1,h2⟩:=h.is.1 rfl;have hg:∀j,(ms.set p x).getD j dm=if j=p then x else ms.getD j dm:=λj=>by
  by_cases e:j=p
  .subst e;simp[Ip,h1]
  .simp[Ip,List.getElem?_set_ne (Ne.symm e),e]
 refine⟨by rw[Jm];exact h.le,λj hj=>?_,λj hj hl=>?_,⟨λ_=>⟨by rw[Jm];exact h1,?_⟩,λ_=>rfl⟩⟩
 .rw[hg j,if_neg (by omega)];exact h.lo j hj
 .rw[hg j]
  split
  .rw[hx,(oQ t t).2 rfl];omega
  .rw[Jm] at hl;exact h.hi j hj hl
 .rw[hg p,if_pos rfl,hx];exact(oQ t t).2 rfl
theorem LJ(m:Mem):m.e=0↔mT m.name=true/\within m.state 1 4=true/\within m.nJ 1 1000000=true/\within m.addr 0 4294967295=true:=by
 unfold Mem.e uA;constructor
 .intro h
  split at h
  .rename_i h1
   split at h
   .rename_i h2
    split at h
    .rename_i h3
     split at h
     .rename_i h4;exact⟨h1,h2,h3,h4⟩
     .cases h
    .cases h
   .cases h
  .cases h
 .rintro⟨h1,h2,h3,h4⟩
  rw[if_pos h1,if_pos h2,if_pos h3,if_pos h4]
theorem within_iff{n a b:Int}:within n a b=true↔a<=n/\n<=b:=by unfold within;rw[IP,decide_eq_true_eq,decide_eq_true_eq]
theorem N0{m:Mem}(h:m.e=0)(hl:m.nJ≠1000000):(qF m).e=0:=by
 obtain⟨h1,h2,h3,h4⟩:=(LJ m).1 h;rw[within_iff] at h3;exact(LJ _).2 ⟨h1,rfl,within_iff.2 ⟨by show(1:Int)<=m.nJ+1;omega,by show m.nJ+1<=1000000;omega⟩,h4⟩
theorem N1{n:Nd}(h:nu n.ms=0)(hR:vS n.ms (ym n) (Ex n)=true) :
 Ex n=true/\At n.ms n.name (ym n) true/\GU n=n.ms.set (ym n) (qF (n.ms.getD (ym n) dm))/\rfM n=qF (n.ms.getD (ym n) dm)/\(rfM n).e=0/\(n.ms.getD (ym n) dm).name=n.name/\ym n<n.ms.length:=by
 have hr:=(mU h).2.1;have qi:At n.ms n.name (ym n) (Ex n):=Tr hr n.name;have hR2:=hR;unfold vS at hR;rw[IP,IP] at hR;obtain⟨⟨h1,_⟩,h3⟩:=hR;rw[h1] at qi;obtain⟨hp,hc⟩:=qi.is.1 rfl;have hn:=(oQ _ _).1 hc;have hL:GU n=n.ms.set (ym n) (qF (n.ms.getD (ym n) dm)):=by unfold GU Nl;rw[if_pos hR2]
 have hM:rfM n=qF (n.ms.getD (ym n) dm):=by
  unfold rfM;rw[hL,als (alu qi (x:=qF (n.ms.getD (ym n) dm)) hn)];simp[Ip,hp]
 have he:(n.ms.getD (ym n) dm).e=0:=CU h _ (by rw[show n.ms.getD (ym n) dm=n.ms[ym n] by simp[Ip,Ih hp]];exact IU _);exact⟨h1,qi,hL,hM,by rw[hM];exact N0 he (by simpa using h3),hn,hp⟩
theorem ahu{ms:List Mem}{p:Nat}{f:Bool}(h:∀m∈ms,m.name.size<=Il):∀m∈Nl ms p f,m.name.size<=Il:=by
 intro m hm;unfold Nl at hm;split at hm
 .rcases Uj hm with hm|rfl
  .exact h m hm
  .exact oz h p
 .exact h m hm
theorem LK{ms:List Mem}{p:Nat}{f:Bool}(h:vS ms p f=true):vT ms p f=0:=by
 unfold vS at h;unfold vT;rw[IP] at h;obtain⟨h1,h2⟩:=h;simp only[Bool.not_eq_true'] at h2;rw[h2];simp
theorem Tw(L b:Nat)(n:Nd)(w:World)(h:Wk L w b n)(hL:L<=b)(vP:nu n.ms=0)(A3:o5 n.rs=0)(hl:mT n.name=true) :
 ni 152 #[Ik (AI ⟨b,0,U⟩)] w λe w'=>e=Ia (O J (Tv n))/\Sh (λk=>k=b) w w'/\Hid (Tv n=0->Wk L w' b (rfN n)):=by
 have NV:Hid (Wk L w b n):=h;have nE:=h.lt;obtain⟨vm,vr,vs,vg,vw,h1,h2,h3,h4⟩:=h;have Tu:Hid _:=h2.is h4;obtain⟨am,cm,Ec,_⟩:=mR h2.ms;subst Ec;have HRF:Hid (∀W,Below w.heap.size w W->ni 196 #[sh am n.ms.length cm,I n.name] W λe w'=>∃a k c,e=Ia (Ir #[sh a k c,Ic (vS n.ms (ym n) (Ex n)),O J (vT n.ms (ym n) (Ex n))])/\Below W.heap.size W w'/\(vT n.ms (ym n) (Ex n)=0->Own W.heap.size w' (sh a k c) (GU n))):=λW hW=>by
  refine(Nn n.ms _ n.name W (Tu.out.ms.below hW) vP h4.name hl (ym n) (Ex n) (Tr (mU vP).2.1 n.name)).mono ?_;rintro e w' ⟨v',rfl,hb,hx,ho⟩;by_cases h0:vT n.ms (ym n) (Ex n)=0
  .obtain⟨a,c,rfl,_⟩:=mR (ho h0)
   exact⟨a,_,c,rfl,hb,λ_=>ho h0⟩
  .rw[hx h0]
   exact⟨U,0,0,rfl,hb,λh=>absurd h h0⟩
 have VR:Hid (∀W w1 a k c,Below w.heap.size w W->Below W.heap.size W w1->(vT n.ms (ym n) (Ex n)=0->Own W.heap.size w1 (sh a k c) (GU n))->vT n.ms (ym n) (Ex n)=0->Wk L (w1.setCell ⟨b,2,U⟩ (sh a k c)) b { n with ms:=GU n }):=λW w1 a k c hW h1 h2 h0=>
  (NV.out.below hW).adQ (by have:=hW.size;omega) h1 (h2 h0) (ahu h4.ms)
 have HX:Hid (∀W,Below w.heap.size w W->W.heap[b]?=AI (Ib (sR n (sh am n.ms.length cm) vr vs vg vw) 41 (0,0))):=λW hW=>(hW.block _ nE).trans h1;have HTO:Hid (∀W,vS n.ms (ym n) (Ex n)=true->Wk L W b { n with ms:=GU n }->ni 151 #[Ik (AI ⟨b,0,U⟩),I n.name] W λe w'=>e=Ia (O J (uf n.rs (rfM n)))/\Sh (λk=>k=b) W w'/\(uf n.rs (rfM n)=0->Wk L w' b { n with ms:=GU n,rs:=uM n.rs (rfM n) })):=λW hR hW=>by
  obtain⟨_,_,f3,f4,f5,f6,f7⟩:=N1 vP hR;exact FJ L b { n with ms:=GU n } n.name (rfM n) W hW hL (by show(GU n).length<=1000;rw[f3,Jm];have:=(mU vP).1;omega) A3 rfl f5 (by rw[f4];show(n.ms.getD (ym n) dm).name.size<=Il;rw[f6];exact h4.name)
 have HE:Hid (vS n.ms (ym n) (Ex n)=true->Tv n=uf n.rs (rfM n)/\rfN n={ n with ms:=GU n,rs:=uM n.rs (rfM n) }):=λhR=>by
  unfold Tv rfN;rw[if_pos (LK hR),if_pos hR,if_pos hR];exact⟨rfl,rfl⟩
 have wm:Hid (vS n.ms (ym n) (Ex n)=false->Tv n=vT n.ms (ym n) (Ex n)/\rfN n={ n with ms:=GU n }):=λhR=>by
  unfold Tv rfN;rw[hR];simp only[Bool.false_eq_true,if_false];refine⟨?_,trivial⟩;split
  .rename_i h;exact h.symm
  .rfl
 have HEZ:Hid (vS n.ms (ym n) (Ex n)=true->vT n.ms (ym n) (Ex n)=0):=λhR=>LK hR;have y0:=fi h1 0;have y2:=fi h1 2;have LG:Hid (∀W,Wk L W b { n with ms:=GU n }->W.cell? ⟨b,0,U⟩=AI (I n.name)):=λW hW=>by
  obtain⟨_,_,_,_,_,g1,_⟩:=hW;exact fi g1 0
 generalize Tv n=res at *;generalize vT n.ms (ym n) (Ex n)=re at *;generalize vS n.ms (ym n) (Ex n)=rr at *;generalize uf n.rs (rfM n)=pe at *;generalize K8:n.ms.length=km at *;clear K8 h1 h2 h3 h4 vP A3;go_enter func152,ntmps152;go_wp2_with fail;go_region_with (first|(go_at_call 196;refine(HRF.out _ (If _ _).drew).mono ?_;rintro e w1 ⟨a,k,c,rfl,mO,Hk⟩;have mY:Hid (Below w.heap.size w w1):=(If w.heap.size w).drew.trans mO;have uH:Hid (re=0->Wk L (w1.setCell ⟨b,2,U⟩ (sh a k c)) b { n with ms:=GU n }):=VR.out _ _ a k c (If _ _).drew mO Hk;have rX:=HX.out w1 mY.out;have z2:w1.cell? ⟨b,2,U⟩=AI (sh am km cm):=fi rX 2;have zf:w1.frozen? ⟨b,2,U⟩=false:=tj rX 2;have vF:Hid (w1.heap[b]?=AI (Ib (sR n (sh am km cm) vr vs vg vw) 41 (0,0))):=rX;clear mO Hk rX))
 all_goals
  obtain⟨W2,sx⟩:∃W2,W2=w1.setCell ⟨b,2,U⟩ (sh a k c):=⟨_,rfl⟩;rw[<- sx] at uH;have Wm:Hid (Sh (λk=>k=b) w W2):=by rw[sx];exact(Sh.of mY.out).setCell (S:=λk=>k=b) rfl _
  rw[<- sx];clear sx z2 zf y0 y2;cases rr
  .obtain⟨e1,e2⟩:=wm.out rfl
   have HR:Hid _:=e1;have HN:Hid _:=e2;clear e1 e2 HE wm HTO;go_wp2_with fail;go_ret;exact⟨mN HR.out.symm,Wm.out,λh=>by rw[HN.out];exact uH.out (HR.out.symm.trans h)⟩
  .obtain⟨e1,e2⟩:=HE.out rfl
   have HR:Hid _:=e1;have HN:Hid _:=e2;have hwk:=uH.out (HEZ.out rfl);have HTC:Hid (ni _ _ _ _):=HTO.out W2 rfl hwk;have y0:=LG.out W2 hwk;clear e1 e2 HE wm HTO hwk uH;go_wp2_with fail;refine HTC.out.mono ?_;rintro e w4 ⟨rfl,Lh,hk4⟩;have HS4:Hid _:=Wm.out.trans Lh;have Co:Hid _:=hk4;clear Lh hk4;go_wp2_with fail;go_ret;exact⟨mN HR.out.symm,HS4.out,λh=>by rw[HN.out];exact Co.out (HR.out.symm.trans h)⟩
theorem adV{ms:List Mem}{m:Mem}(h:∀x∈ms,x.name.size<=Il)(hm:m.name.size<=Il):∀x∈nY ms m,x.name.size<=Il:=λx hx=>by
 rcases xd ms m x hx with rfl|hx
 .exact hm
 .exact h x hx
theorem alv(n:Nd)(m:Mem):(zL n m).ms=nY n.ms m:=by unfold zL;split<;>rfl
theorem FN(n:Nd)(m:Mem):(zL n m).name=n.name:=by unfold zL;split<;>rfl
theorem KB{ms:List Mem}{m:Mem}(h:nu ms=0)(hm:m.e=0)(hj:nP ms [m]=0):(nY ms m).length<=20:=by
 rw[aau h hm] at hj;split at hj
 .cases hj
 .omega
theorem LL{n:Nd}{m:Mem}(h:nu n.ms=0)(hr:o5 n.rs=0)(hm:m.e=0)(h0:xR n m=0):nu (zL n m).ms=0/\o5 (zL n m).rs=0:=by
 unfold xR at h0;split at h0
 .rename_i hj
  rw[alv];refine⟨adU h hm (KB h hm hj),?_⟩;unfold zL;by_cases hc:FK n.ms m=true
  .rw[if_pos hc] at h0 ⊢
   exact NY hr hm h0
  .rw[if_neg hc];exact hr
 .rename_i hj;exact absurd h0 hj
theorem FO(L b:Nat)(n:Nd)(m:Mem)(w:World)(h:Wk L w b n)(hL:L<=b)(vP:nu n.ms=0)(A3:o5 n.rs=0)(hl:mT n.name=true)(hm:m.e=0)(hmz:m.name.size<=Il) :
 ni 95 #[Ik (AI ⟨b,0,U⟩),Iu #[I m.name,O J m.state,O J m.nJ,O J m.addr,Ic m.server]] w λe w'=>e=Ia (O J (Cp n m))/\Sh (λk=>k=b) w w'/\Hid (Cp n m=0->Wk L w' b (FM n m)):=by
 have NV:Hid (Wk L w b n):=h;have nE:=h.lt;obtain⟨vm,vr,vs,vg,vw,h1,h2,h3,h4⟩:=h;have Tu:Hid _:=h2.is h4;obtain⟨am,cm,Ec,_⟩:=mR h2.ms;subst Ec;have HHR:Hid (∀W,Below w.heap.size w W->ni 150 #[sh am n.ms.length cm,Iu #[I m.name,O J m.state,O J m.nJ,O J m.addr,Ic m.server]] W λe w'=>∃a k c,e=Ia (Ir #[sh a k c,Ic (decide (nP n.ms [m]=0)&&FK n.ms m),O J (nP n.ms [m])])/\Below W.heap.size W w'/\(nP n.ms [m]=0->Own W.heap.size w' (sh a k c) (nY n.ms m))):=λW hW=>by
  refine(adh n.ms m _ W (Tu.out.ms.below hW) hmz).mono ?_;rintro e w' ⟨v',r,rfl,hb,hx,ho⟩;by_cases h0:nP n.ms [m]=0
  .obtain⟨Hk,xW⟩:=ho h0
   obtain⟨a,c,rfl,_⟩:=mR Hk;refine⟨a,_,c,?_,hb,λ_=>Hk⟩;have e1:r=FK n.ms m:=by rw[Bool.eq_iff_iff,xW,NZ (mU vP).2.1]
   rw[e1,decide_eq_true h0,Bool.true_and]
  .obtain⟨rfl,rfl⟩:=hx h0
   exact⟨U,0,0,by rw[decide_eq_false h0,Bool.false_and],hb,λh=>absurd h h0⟩
 have VR:Hid (∀W w1 a k c,Below w.heap.size w W->Below W.heap.size W w1->(nP n.ms [m]=0->Own W.heap.size w1 (sh a k c) (nY n.ms m))->nP n.ms [m]=0->Wk L (w1.setCell ⟨b,2,U⟩ (sh a k c)) b { n with ms:=nY n.ms m }):=λW w1 a k c hW h1 h2 h0=>
  (NV.out.below hW).adQ (by have:=hW.size;omega) h1 (h2 h0) (adV h4.ms hmz)
 have HX:Hid (∀W,Below w.heap.size w W->W.heap[b]?=AI (Ib (sR n (sh am n.ms.length cm) vr vs vg vw) 41 (0,0))):=λW hW=>(hW.block _ nE).trans h1;have HTO:Hid (∀W,nP n.ms [m]=0->FK n.ms m=true->Wk L W b { n with ms:=nY n.ms m }->ni 151 #[Ik (AI ⟨b,0,U⟩),I m.name] W λe w'=>e=Ia (O J (uf n.rs m))/\Sh (λk=>k=b) W w'/\(uf n.rs m=0->Wk L w' b { n with ms:=nY n.ms m,rs:=uM n.rs m })):=λW hj hc hW=>
  FJ L b { n with ms:=nY n.ms m } m.name m W hW hL (by show(nY n.ms m).length<=1000;have:=KB vP hm hj;omega) A3 (xn (NT m n.ms ((NZ (mU vP).2.1 m).1 hc))) hm hmz
 have HRF:Hid (∀W,xR n m=0->Wk L W b (zL n m)->ni 152 #[Ik (AI ⟨b,0,U⟩)] W λe w'=>e=Ia (O J (Tv (zL n m)))/\Sh (λk=>k=b) W w'/\Hid (Tv (zL n m)=0->Wk L w' b (rfN (zL n m)))):=λW h0 hW=>
  Tw L b (zL n m) W hW hL (LL vP A3 hm h0).1 (LL vP A3 hm h0).2 (by rw[FN];exact hl)
 have LG:Hid (∀W,Wk L W b (zL n m)->W.cell? ⟨b,0,U⟩=AI (I n.name)):=λW hW=>by
  obtain⟨_,_,_,_,_,g1,_⟩:=hW;rw[<- FN n m];exact fi g1 0
 have HEE:Hid (xR n m≠0->Cp n m=xR n m):=λh=>by show Cp n m=_;unfold Cp;rw[if_neg h]
 have HEQ:Hid (xR n m=0->m.name=n.name->Cp n m=Tv (zL n m)):=λh h2=>by show Cp n m=_;unfold Cp;rw[if_pos h,if_pos h2]
 have HEN:Hid (xR n m=0->m.name≠n.name->Cp n m=0):=λh h2=>by show Cp n m=_;unfold Cp;rw[if_pos h,if_neg h2]
 have uC:Hid (nP n.ms [m]≠0->xR n m=nP n.ms [m]):=λh=>by show xR n m=_;unfold xR;rw[if_neg h]
 have xK:Hid (nP n.ms [m]=0->FK n.ms m=false->xR n m=0/\zL n m={ n with ms:=nY n.ms m }):=λh hc=>by
  show xR n m=0/\zL n m=_;unfold xR zL;rw[if_pos h,if_neg (by rw[hc];simp),if_neg (by rw[hc];simp)];exact⟨rfl,rfl⟩
 have Wn:Hid (nP n.ms [m]=0->FK n.ms m=true->xR n m=uf n.rs m/\zL n m={ n with ms:=nY n.ms m,rs:=uM n.rs m }):=λh hc=>by
  show xR n m=_/\zL n m=_;unfold xR zL;rw[if_pos h,if_pos hc,if_pos hc];exact⟨rfl,rfl⟩
 have HBM:Hid (∀W,Wk L W b { n with ms:=nY n.ms m }->W.cell? ⟨b,0,U⟩=AI (I n.name)):=λW hW=>by
  obtain⟨_,_,_,_,_,g1,_⟩:=hW;exact fi g1 0
 obtain⟨W0,rm,rG,Ct,pS⟩:=pL w #[I m.name,O J m.state,O J m.nJ,O J m.addr,Ic m.server] 55;have pN:Hid _:=rG;obtain⟨x0,x1,x2,x3,x4⟩:=LD pS;have y2:=fi (HX.out W0 rG) 2;have Kj:Hid _:=pS;generalize Cp n m=res at *;generalize K8:n.ms.length=km at *;clear K8 h1 h2 h3 h4 vP A3 pS rG;generalize nP n.ms [m]=je at *;generalize uf n.rs m=pe at *;generalize xR n m=se at *;generalize FK n.ms m=cb at *;go_enter func95,ntmps95;go_upto_region 2 with fail
 rw[<- rm];clear rm;go_region_with (first|(go_at_call 150;refine(HHR.out _ pN.out.drew).mono ?_;rintro e w1 ⟨a,k,c,rfl,mO,Hk⟩;have mY:Hid (Below W0.heap.size W0 w1):=(If W0.heap.size W0).drew.trans mO;have uH:Hid (je=0->Wk L (w1.setCell ⟨b,2,U⟩ (sh a k c)) b { n with ms:=nY n.ms m }):=VR.out _ _ a k c pN.out.drew mO Hk;have rX:=HX.out w1 (pN.out.trans (mY.out.mono pN.out.size));have z2:w1.cell? ⟨b,2,U⟩=AI (sh am km cm):=fi rX 2;have zf:w1.frozen? ⟨b,2,U⟩=false:=tj rX 2;have Ey:=(mY.out.block _ (show w.heap.size<W0.heap.size by omega)).trans Kj.out;clear mO Hk rX))
 all_goals
  obtain⟨W2,sx⟩:∃W2,W2=w1.setCell ⟨b,2,U⟩ (sh a k c):=⟨_,rfl⟩;rw[<- sx] at uH;have Wm:Hid (Sh (λk=>k=b) w W2):=by rw[sx];exact(Sh.of (pN.out.trans (mY.out.mono pN.out.size))).setCell (S:=λk=>k=b) rfl _
  have vh:Hid (W2.heap[w.heap.size]?=AI (Ib #[I m.name,O J m.state,O J m.nJ,O J m.addr,Ic m.server] 55 (0,0))):=by rw[sx];exact(IC _ _ _ _ (by simp only;omega)).trans Ey
  rw[<- sx];clear sx z2 zf y2 Ey x0 x1 x2 x3 x4;by_cases hj:je=0
  .cases cb
   .obtain⟨e1,e2⟩:=xK.out hj rfl
    have alw:Hid (Wk L W2 b (zL n m)):=by rw[e2];exact uH.out hj
    subst hj;clear e2 uH uC xK Wn HTO HEE;have u0:=fi vh.out 0;have u1:=LG.out W2 alw.out;by_cases sg:m.name=n.name
    .have hq:(m.name.toList !=n.name.toList)=false:=by rw[sg];simp
     have hq2:(m.name.toList==n.name.toList)=true:=by rw[sg];simp
     have hq3:m.name.toList=n.name.toList:=by rw[sg]
     have HR:Hid _:=HEQ.out e1 sg;have HN:Hid (FM n m=rfN (zL n m)):=by show FM n m=_;unfold FM;rw[if_pos sg]
     have NO:Hid (∀q,ni _ _ _ _):=λq=>HRF.out _ e1 (alw.out.below (below_drewN (If _ _) q));clear sg;generalize Tv (zL n m)=re at *;go_wp2_with fail;go_quiet (fail)
     go_wp2_with fail;refine(NO.out _).mono ?_;rintro e w7 ⟨rfl,hs7,HK7⟩;have HS7:Hid _:=Wm.out.trans ((Sh.of (below_drewN (If _ _) _)).trans hs7);clear hs7;go_wp2_with fail;go_ret;exact⟨mN HR.out.symm,HS7.out,λh=>by rw[HN.out];exact HK7.out (HR.out.symm.trans h)⟩
    .have hq:=(yM _ _).2 sg
     have hq2:(m.name.toList==n.name.toList)=false:=by rw[xl,decide_eq_false sg]
     have HR:Hid _:=HEN.out e1 sg;have HN:Hid (FM n m=zL n m):=by show FM n m=_;unfold FM;rw[if_neg sg]
     clear sg;go_wp2_with fail;go_quiet (fail)
     go_wp2_with fail;go_ret;exact⟨mN HR.out.symm,Wm.out.trans (Sh.of (below_drewN (If _ _) _)),λ_=>by rw[HN.out];exact alw.out.below (below_drewN (If _ _) _)⟩
   .obtain⟨e1,e2⟩:=Wn.out hj rfl
    have ahy:=uH.out hj;have HTC:Hid (ni _ _ _ _):=HTO.out W2 hj rfl ahy;have u0:=fi vh.out 0;subst hj;clear ahy uH uC xK Wn HTO;go_wp2_with fail;refine HTC.out.mono ?_;rintro e w4 ⟨rfl,Lh,hk4⟩;have HS4:Hid _:=Wm.out.trans Lh;have ape:=(Lh.block _ ((Ig.1 vh.out).1) (by omega)).trans vh.out;have Co:Hid (pe=0->Wk L w4 b (zL n m)):=λh=>by rw[e2];exact hk4 h
    have vh:Hid _:=ape;clear Lh hk4 ape u0 HTC e2;by_cases hp:pe=0
    .have alx:Hid (Wk _ _ _ _):=Co.out hp
     have e3:=e1.trans hp;subst hp;clear Co e1 HEE;have u0:=fi vh.out 0;have u1:=LG.out w4 alx.out;by_cases sg:m.name=n.name
     .have hq:(m.name.toList !=n.name.toList)=false:=by rw[sg];simp
      have hq2:(m.name.toList==n.name.toList)=true:=by rw[sg];simp
      have hq3:m.name.toList=n.name.toList:=by rw[sg]
      have HR:Hid _:=HEQ.out e3 sg;have HN:Hid (FM n m=rfN (zL n m)):=by show FM n m=_;unfold FM;rw[if_pos sg]
      have NO:Hid (∀q,ni _ _ _ _):=λq=>HRF.out _ e3 (alx.out.below (below_drewN (If _ _) q));clear sg;generalize Tv (zL n m)=re at *;go_wp2_with fail;go_quiet (fail)
      go_wp2_with fail;refine(NO.out _).mono ?_;rintro e w7 ⟨rfl,hs7,HK7⟩;have HS7:Hid _:=HS4.out.trans ((Sh.of (below_drewN (If _ _) _)).trans hs7);clear hs7;go_wp2_with fail;go_ret;exact⟨mN HR.out.symm,HS7.out,λh=>by rw[HN.out];exact HK7.out (HR.out.symm.trans h)⟩
     .have hq:=(yM _ _).2 sg
      have hq2:(m.name.toList==n.name.toList)=false:=by rw[xl,decide_eq_false sg]
      have HR:Hid _:=HEN.out e3 sg;have HN:Hid (FM n m=zL n m):=by show FM n m=_;unfold FM;rw[if_neg sg]
      clear sg;go_wp2_with fail;go_quiet (fail)
      go_wp2_with fail;go_ret;exact⟨mN HR.out.symm,HS4.out.trans (Sh.of (below_drewN (If _ _) _)),λ_=>by rw[HN.out];exact alx.out.below (below_drewN (If _ _) _)⟩
    .have hp':(pe !=0)=true:=by simpa using hp
     have HR:Hid _:=(HEE.out (by rw[e1];exact hp)).trans e1;have HPN:Hid _:=hp;have u0:=fi vh.out 0;clear hp e1;go_wp2_with fail;go_quiet (fail)
     go_wp2_with fail;go_ret;exact⟨mN HR.out.symm,HS4.out.trans (Sh.of (below_drewN (If _ _) _)),λh=>absurd (HR.out.symm.trans h) HPN.out⟩
  .have tS:(je !=0)=true:=by simpa using hj
   have DY:=decide_eq_false hj;have e1:=uC.out hj;have HR:Hid _:=(HEE.out (by rw[e1];exact hj)).trans e1;have HPN:Hid _:=hj;clear hj e1 uC xK Wn;go_wp2_with fail;go_quiet (fail)
   go_wp2_with fail;go_ret;exact⟨mN HR.out.symm,Wm.out.trans (Sh.of (below_drewN (If _ _) _)),λh=>absurd (HR.out.symm.trans h) HPN.out⟩
def wsE(n:Nd)(t:ByteArray)(tG tw:Int):Int:=
 if mT t=true then(if(oX n.ms t).isSome=true then(if t=n.name then 6 else if(qO n.ms t).state=tG then Cp n { qO n.ms t with state:=tw } else 4) else 5) else 1
def wsN(n:Nd)(t:ByteArray)(tw:Int):Nd:=FM n { qO n.ms t with state:=tw }
theorem ahA{ms:List Mem}{t:ByteArray}(h:(oX ms t).isSome=true):qO ms t∈ms/\(qO ms t).name=t:=by
 obtain⟨m,hm⟩:=Option.isSome_iff_exists.1 h;rw[xn hm];exact BM hm
theorem LM{P:Prop}(h:P:=by
 go_wp2_with fail;go_ret;exact⟨mN HR.out.symm,Sh.of nR.out,λh=>by have:=HR.out.symm.trans h;cases this⟩):P:=h
theorem Tx(L b:Nat)(n:Nd)(t:ByteArray)(tG tw:Int)(w:World)(h:Wk L w b n)(hL:L<=b)(vP:nu n.ms=0)(A3:o5 n.rs=0)(hl:mT n.name=true)(ht:t.size<=Il)(hto:within tw 1 4=true) :
 ni 57 #[Ik (AI ⟨b,0,U⟩),I t,O J tG,O J tw] w λe w'=>e=Ia (O J (wsE n t tG tw))/\Sh (λk=>k=b) w w'/\Hid (wsE n t tG tw=0->Wk L w' b (wsN n t tw)):=by
 have NV:Hid (Wk L w b n):=h;have nE:=h.lt;obtain⟨vm,vr,vs,vg,vw,h1,h2,h3,h4⟩:=h;have Tu:Hid _:=h2.is h4;obtain⟨am,cm,Ec,_⟩:=mR h2.ms;subst Ec;have HMB:Hid (rI 66 #[Ik (AI ⟨b,0,U⟩),I t] w (Ir #[Iu #[I (qO n.ms t).name,O J (qO n.ms t).state,O J (qO n.ms t).nJ,O J (qO n.ms t).addr,Ic (qO n.ms t).server],Ic (oX n.ms t).isSome])):=
  wv b am n.ms.length cm n.ms t w (fi h1 2) Tu.out.ms (by have:=(mU vP).1;omega)
 have HSP:Hid ((oX n.ms t).isSome=true->∀W,Below w.heap.size w W->ni 95 #[Ik (AI ⟨b,0,U⟩),Iu #[I (qO n.ms t).name,O J tw,O J (qO n.ms t).nJ,O J (qO n.ms t).addr,Ic (qO n.ms t).server]] W λe w'=>e=Ia (O J (Cp n { qO n.ms t with state:=tw }))/\Sh (λk=>k=b) W w'/\Hid (Cp n { qO n.ms t with state:=tw }=0->Wk L w' b (wsN n t tw))):=λhs W hW=>by
  obtain⟨g1,g2⟩:=ahA hs;have he:=(LJ _).1 (CU vP _ g1);exact FO L b n { qO n.ms t with state:=tw } W (NV.out.below hW) hL vP A3 hl ((LJ _).2 ⟨he.1,hto,he.2.2.1,he.2.2.2⟩) (show(qO n.ms t).name.size<=Il from h4.ms _ g1)
 have HX:Hid (∀W,Below w.heap.size w W->W.cell? ⟨b,0,U⟩=AI (I n.name)):=λW hW=>fi ((hW.block _ nE).trans h1) 0;have HE:Hid (wsE n t tG tw=if mT t=true then(if(oX n.ms t).isSome=true then(if t=n.name then 6 else if(qO n.ms t).state=tG then Cp n { qO n.ms t with state:=tw } else 4) else 5) else 1):=rfl;generalize wsE n t tG tw=res at *;generalize Cp n { qO n.ms t with state:=tw }=se at *;clear h1 h2 h3 h4 vP A3;generalize(oX n.ms t).isSome=fd at *;generalize yr:qO n.ms t=m at *;clear yr;obtain⟨mn,st,lf,ad,sv⟩:=m;simp only at HMB HSP HE;go_enter func57,ntmps57;rcases hlab:mT t with _|_
 .have HR:Hid (res=1):=HE.out.trans (by rw[hlab];rfl)
  go_wp2_with (go_at_call 78;refine(nL _ _ ht).mono ?_;rintro e w' ⟨rfl,rfl⟩;rw[hlab]);go_ret;exact⟨mN HR.out.symm,Sh.refl _ _,λh=>by have:=HR.out.symm.trans h;cases this⟩
 have wm:Hid (res=if fd=true then(if t=n.name then 6 else if st=tG then se else 4) else 5):=HE.out.trans (by rw[hlab];rfl);clear HE;go_wp2_with (first|(go_at_call 78;refine(nL _ _ ht).mono ?_;rintro e w' ⟨rfl,hww⟩;have hwq:=hww.symm;subst hwq;rw[hlab])|fail);refine HMB.out.mono ?_;rintro e w1 ⟨rfl,mO⟩;obtain⟨W2,sx⟩:∃W2,W2=w1.alloc (Ib #[I mn,O J st,O J lf,O J ad,Ic sv] 55):=⟨_,rfl⟩;have mZ:Below w.heap.size w W2:=by rw[sx];exact mO.alloc mO.size _
 have hbb:w1.heap.size<W2.heap.size:=by rw[sx];simp
 have vR:W2.heap[w1.heap.size]?=AI (Ib #[I mn,O J st,O J lf,O J ad,Ic sv] 55 (0,0)):=by rw[sx];exact Ii w1 _
 have nR:Hid _:=mZ;have sj:=mO.size;obtain⟨x0,x1,x2,x3,x4⟩:=LD vR;have zf:=tj vR 1;have y0:=HX.out W2 mZ;go_upto_region 4 with fail
 rw[<- sx];clear sx mO mZ HMB;cases fd
 .have HR:Hid (res=5):=wm.out.trans (by simp)
  exact LM
 by_cases sg:t=n.name
 .have HR:Hid (res=6):=wm.out.trans (by simp[sg])
  have hq:(t.toList==n.name.toList)=true:=by rw[sg];simp
  have hq2:t.toList=n.name.toList:=by rw[sg]
  clear sg;exact LM
 have hq:(t.toList==n.name.toList)=false:=by rw[xl,decide_eq_false sg]
 by_cases GB:st=tG
 .have HR:Hid (res=se):=wm.out.trans (by simp[sg,GB])
  subst GB;have HSC:=λW hW=>HSP.out rfl W hW;clear sg wm;obtain⟨W3,sN⟩:∃W3,W3=W2.setCell ⟨w1.heap.size,1,U⟩ (O J tw):=⟨_,rfl⟩;have oT:Hid (Below w.heap.size w W3):=by rw[sN];exact nR.out.setCell (p:=⟨w1.heap.size,1,U⟩) sj _
  have Cv:W3.heap[w1.heap.size]?=AI (Ib #[I mn,O J tw,O J lf,O J ad,Ic sv] 55 (0,0)):=by rw[sN];exact It (i:=1) vR _
  obtain⟨v0,v1,v2,v3,v4⟩:=LD Cv;have avk:Hid (ni _ _ _ _):=HSC W3 oT.out;clear HSC Cv vR;go_upto_region 11 with fail
  rw[<- sN];clear sN x0 x1 x2 x3 x4 zf y0;go_wp2_with fail;refine avk.out.mono ?_;rintro e w5 ⟨rfl,hs5,HK5⟩;have HS5:Hid _:=(Sh.of oT.out).trans hs5;clear hs5;go_wp2_with fail;go_ret;exact⟨mN HR.out.symm,HS5.out,λh=>HK5.out (HR.out.symm.trans h)⟩
 .have HR:Hid (res=4):=wm.out.trans (by simp[sg,GB])
  have aCU:(st !=tG)=true:=by simpa using GB
  clear sg GB wm;exact LM
end Go.Proofs.YtipbebleapjcjaaGreatDoor
namespace Go.Proofs.YtipbebleapjcjaaGreatDoor
namespace Wh
open Go.RowKit
end Wh
end Go.Proofs.YtipbebleapjcjaaGreatDoor
namespace Go.Proofs.YtipbebleapjcjaaGreatDoor
open Go.RowKit
def avl(wh:List Wh.nZ)(x:Wh.nZ):List Wh.nZ:=if(wh.any λy=>decide (y.node=x.node))=true\/20<=wh.length then wh else Wh.nY wh x
def lrn(wh l:List Wh.nZ):List Wh.nZ:=l.foldl avl wh
structure Wh.apf(wh:List Wh.nZ):Prop where
 aCV:Wh.pj wh
 len:wh.length<=20
 ok:∀m∈wh,m.ok
theorem sd{B k n b:Nat}{T T':Ji}{w:World}{v:Value}{xs:List Value}{cs:Array Value}(h:w.ownsRow B T k v n xs)(hb:w.heap[b]?=AI (Ib cs T' (0,0)))(hT:T≠T'):v.ownBlock≠AI b:=by
 rcases h.2 with⟨rfl,_⟩|⟨g,c,cur,rfl,_,hg,_⟩
 .intro e;cases e
 .intro e
  have:g=b:=by simpa[Value.ownBlock] using e
  subst this;rw[hg] at hb;injection hb with e1;injection e1 with _ e2;exact hT e2
theorem adX{ms:List Mem}{p:Nat}{x:Mem}(hr:pj ms)(hx:x.name=(ms.getD p dm).name):pj (ms.set p x):=by
 have hn:∀j (h:j<ms.length),((ms.set p x)[j]'(by rw[Jm];exact h)).name=ms[j].name:=λj h=>by
  rw[List.getElem_set];split
  .rename_i e;subst e;rw[hx];simp[Ip,Ih h]
  .rfl
 refine Jy.2 λi j hi hj yp=>?_;rw[Jm] at hi hj;rw[hn i hi,hn j hj];exact Jy.1 hr i j hi hj yp
structure Sp(n:Nd):Prop where
 ms:nu n.ms=0
 rs:o5 n.rs=0
 name:mT n.name=true
theorem apg{n:Nd}(h:Sp n)(h0:Tv n=0):Sp (rfN n):=by
 unfold Tv at h0;unfold rfN;by_cases hR:vS n.ms (ym n) (Ex n)=true
 .obtain⟨f1,f2,f3,f4,f5,f6,f7⟩:=N1 h.ms hR
  rw[if_pos (LK hR),if_pos hR] at h0;rw[if_pos hR];obtain⟨l1,l2,_⟩:=mU h.ms;refine⟨adT ?_ ?_ ?_,NY h.rs f5 h0,h.name⟩
  .show(GU n).length<=20;rw[f3,Jm];exact l1
  .show pj (GU n);rw[f3];exact adX l2 rfl
  .intro m hm
   have hm:=hm;rw[f3] at hm;rcases Uj hm with hm|rfl
   .exact CU h.ms m hm
   .rw[<- f4];exact f5
 .rw[if_neg hR]
  have:GU n=n.ms:=by unfold GU Nl;rw[if_neg hR]
  rw[this];exact h
theorem aph{n:Nd}{m:Mem}(h:Sp n)(hm:m.e=0)(h0:Cp n m=0):Sp (FM n m):=by
 unfold Cp at h0;split at h0
 .rename_i h1
  have h2:Sp (zL n m):=⟨(LL h.ms h.rs hm h1).1,(LL h.ms h.rs hm h1).2,by rw[FN];exact h.name⟩;unfold FM;by_cases hn:m.name=n.name
  .rw[if_pos hn] at h0 ⊢;exact apg h2 h0
  .rw[if_neg hn];exact h2
 .rename_i h1;exact absurd h0 h1
structure Rest(n n':Nd):Prop where
 name:n'.name=n.name
 mM:n'.mM=n.mM
 sv:n'.sv=n.sv
 gw:n'.gw=n.gw
 p:n'.p=n.p
 wh:n'.wh=n.wh
theorem Rest.refl(n:Nd):Rest n n:=⟨rfl,rfl,rfl,rfl,rfl,rfl⟩
theorem Rest.trans{a b c:Nd}(h:Rest a b)(k:Rest b c):Rest a c:=⟨k.name.trans h.name,k.mM.trans h.mM,k.sv.trans h.sv,k.gw.trans h.gw,k.p.trans h.p,k.wh.trans h.wh⟩
theorem ahB(n:Nd):Rest n (rfN n):=by unfold rfN;split<;>exact⟨rfl,rfl,rfl,rfl,rfl,rfl⟩
theorem N2(n:Nd)(m:Mem):Rest n (zL n m):=by unfold zL;split<;>exact⟨rfl,rfl,rfl,rfl,rfl,rfl⟩
theorem ahC(n:Nd)(m:Mem):Rest n (FM n m):=by
 unfold FM;split
 .exact(N2 n m).trans (ahB _)
 .exact N2 n m
def GG:Nd->List Mem->Int
 |_,[]=>0
 |n,m::r=>if Cp n m=0 then GG (FM n m) r else Cp n m
def Mv:Nd->List Mem->Nd
 |n,[]=>n
 |n,m::r=>Mv (FM n m) r
theorem Wo:∀(l:List Mem) (n:Nd) (m:Mem),Mv n (l++[m])=FM (Mv n l) m/\(GG n l=0->GG n (l++[m])=Cp (Mv n l) m)
 |[],n,m=>⟨rfl,λ_=>by
   show GG n [m]=Cp n m;rw[GG];split
   .rename_i h;rw[h];rfl
   .rfl⟩
 |x::r,n,m=>by
  obtain⟨h1,h2⟩:=Wo r (FM n x) m;refine⟨h1,λh=>?_⟩;rw[GG] at h;split at h
  .rename_i h0
   show GG n (x::(r++[m]))=_;rw[GG,if_pos h0];exact h2 h
  .rename_i h0;exact absurd h h0
theorem adY:∀(l r:List Mem) (n:Nd),GG n l≠0->GG n (l++r)=GG n l
 |[],r,n,h=>absurd rfl h
 |x::l,r,n,h=>by
  show GG n (x::(l++r))=_;rw[GG] at h ⊢;rw[GG];split
  .rename_i h0;rw[if_pos h0] at h;exact adY l r _ h
  .rfl
theorem ajg:∀(l:List Mem) (n:Nd),Sp n->(∀m∈l,m.e=0)->GG n l=0->Sp (Mv n l)
 |[],n,h,_,_=>h
 |x::r,n,h,hl,h0=>by
  rw[GG] at h0;split at h0
  .rename_i h1
   exact ajg r (FM n x) (aph h (hl x (by simp)) h1) (λm hm=>hl m (by simp[hm])) h0
  .rename_i h1;exact absurd h0 h1
theorem Wp:∀(l:List Mem) (n:Nd),Rest n (Mv n l)
 |[],n=>Rest.refl n
 |x::r,n=>(ahC n x).trans (Wp r _)
def Ty(n:Nd)(p:Pk):Int:=
 if p.e=0 then(if GG n p.ms=0 then(if Sv.nP n.sv p.sv=0 then Gw.nP n.gw p.gw else Sv.nP n.sv p.sv) else GG n p.ms) else p.e
def hrN(n:Nd)(p:Pk):Nd:={ Mv n p.ms with sv:=Sv.nO n.sv p.sv,gw:=Gw.nO n.gw p.gw,wh:=lrn n.wh p.wh }
theorem adZ{p:Pk}(h:p.e=0):(∀m∈p.ms,m.e=0)/\p.ms.length<=20/\Wh.nu p.wh=0/\Sv.nu p.sv=0/\Gw.nu p.gw=0:=by
 unfold Pk.e at h;split at h
 .rename_i h0
  split at h
  .rename_i h1
   have hm:(∀m∈p.ms,m.e=0)/\p.ms.length<=20:=by
    unfold Pk.mE at h1;split at h1
    .exact⟨CU h1,(mU h1).1⟩
    .obtain⟨a,b,_⟩:=XV h1
     exact⟨pY _ b,by omega⟩
   split at h
   .rename_i h2
    split at h
    .rename_i h3;exact⟨hm.1,hm.2,h,h2,h3⟩
    .rename_i h3;exact absurd h h3
   .rename_i h2;exact absurd h h2
  .rename_i h1;exact absurd h h1
 .cases h
theorem Wk.ad0{L b:Nat}{W:World}{n:Nd}(h:Wk L W b n):∃a k c a2 k2 c2 vm vr vw,W.heap[b]?=AI (Ib (sR n vm vr (sh a k c) (sh a2 k2 c2) vw) 41 (0,0))/\Sv.Sl W (sh a k c) n.sv/\Gw.Sl W (sh a2 k2 c2) n.gw:=by
 obtain⟨vm,vr,vs,vg,vw,h1,h2,h3,h4⟩:=h;obtain⟨a,c,hv,_⟩:=mR h2.sv;obtain⟨a2,c2,XP,_⟩:=mR h2.gw;subst hv XP;exact⟨a,_,c,a2,_,c2,vm,vr,vw,h1,(h2.is h4).sv,(h2.is h4).gw⟩
def pH(b:Nat):List Value->Nat->World->World
 |[],_,w=>w
 |x::r,j,w=>pH b r (j+1) (w.setCell ⟨b,j,U⟩ x)
theorem o9{B b:Nat}(hb:B<=b):∀(L:List Value) (j:Nat) {a w:World},Below B a w->Below B a (pH b L j w)
 |[],_,_,_,h=>h
 |_::r,j,_,_,h=>o9 hb r (j+1) (h.setCell (p:=⟨b,j,U⟩) hb _)
theorem oD{base b n k:Nat}{T:Ji}{v:Value}{xs:List Value}(hb:b<base):∀(L:List Value) (j:Nat) {w:World},w.ownsRow base T k v n xs->(pH b L j w).ownsRow base T k v n xs
 |[],_,_,h=>h
 |_::r,j,_,h=>oD hb r (j+1) (Io h hb _)
theorem tJ{b c:Nat}(hc:c≠b):∀(L:List Value) (j:Nat) (w:World),(pH b L j w).heap[c]?=w.heap[c]?
 |[],_,_=>rfl
 |_::r,j,_=>(tJ hc r (j+1) _).trans (IC _ _ _ _ hc)
theorem yP(b:Nat):∀(L:List Value) (j:Nat) (w:World),(pH b L j w).heap.size=w.heap.size
 |[],_,_=>rfl
 |_::r,j,_=>(yP b r (j+1) _).trans (by simp[Ui])
theorem FP{base n k:Nat}{T:Ji}{w w':World}{v:Value}{xs:List Value}(h:w.ownsRow base T k v n xs)(hb:Below w.heap.size w w'):w'.ownsRow base T k v n xs:=by
 rcases h.2 with⟨rfl,h0⟩|⟨g,c,cur,rfl,qa,hg,rF,qw,oH,nA⟩
 .exact⟨h.1,.inl ⟨rfl,h0⟩⟩
 .have mS:=(Ig.1 hg).1
  exact⟨h.1,.inr ⟨g,c,cur,rfl,qa,(hb.block g mS).trans hg,rF,qw,oH,nA⟩⟩
theorem zM(w:World):w.drew.heap=w.heap:=rfl
theorem KC{base n k:Nat}{T:Ji}{w:World}{v:Value}{xs:List Value}(h:w.ownsRow base T k v n xs):w.drew.ownsRow base T k v n xs:=h
theorem FQ{B:Nat}{a w:World}(h:Below B a w):Below B a w.drew:=⟨h.os,h.tape,h.output,h.size,h.block⟩
theorem xS{b:Nat}{T:Ji}{f:Nat×Nat}:∀(L pre suf:List Value) {w:World},w.heap[b]?=AI (Ib (pre++suf).toArray T f)->suf.length=L.length->(pH b L pre.length w).heap[b]?=AI (Ib (pre++L).toArray T f)
 |[],pre,suf,w,h,hl=>by
  have:suf=[]:=List.eq_nil_of_length_eq_zero (by simpa using hl)
  subst this;exact h
 |x::r,pre,[],w,h,hl=>absurd hl (by simp)
 |x::r,pre,y::s,w,h,hl=>by
  have h1:=It (i:=pre.length) h x;rw[List.setIfInBounds_toArray,show(pre++y::s).set pre.length x=(pre++[x])++s by simp] at h1;have h2:=xS r (pre++[x]) s h1 (by simpa using hl);rw[show(pre++[x]).length=pre.length+1 by simp,show(pre++[x])++r=pre++x::r by simp] at h2;exact h2
theorem BW{b:Nat}{w:World}{T:Ji}{f:Nat×Nat}{c0 c1 c2 c3 c4 c5 c6 c7 c8 c9 c10 c11:Value}(h:w.heap[b]?=AI (Ib #[c0,c1,c2,c3,c4,c5,c6,c7,c8,c9,c10,c11] T f))(x0 x1 x2 x3 x4 x5 x6 x7 x8 x9 x10 x11:Value):(pH b [x0,x1,x2,x3,x4,x5,x6,x7,x8,x9,x10,x11] 0 w).heap[b]?=AI (Ib #[x0,x1,x2,x3,x4,x5,x6,x7,x8,x9,x10,x11] T f):=xS [x0,x1,x2,x3,x4,x5,x6,x7,x8,x9,x10,x11] [] [c0,c1,c2,c3,c4,c5,c6,c7,c8,c9,c10,c11] h rfl
theorem Wq{b:Nat}{w:World}{T:Ji}{f:Nat×Nat}{c0 c1 c2 c3 c4 c5:Value}(h:w.heap[b]?=AI (Ib #[c0,c1,c2,c3,c4,c5] T f))(x0 x1 x2 x3 x4 x5:Value):(pH b [x0,x1,x2,x3,x4,x5] 0 w).heap[b]?=AI (Ib #[x0,x1,x2,x3,x4,x5] T f):=xS [x0,x1,x2,x3,x4,x5] [] [c0,c1,c2,c3,c4,c5] h rfl
theorem alA(w:World)(A B C:Array Value)(S0 S1 S2:Ji):∃W,W=((w.alloc (Ib A S0)).alloc (Ib B S1)).alloc (Ib C S2)/\Below w.heap.size w W/\W.heap.size=w.heap.size+3/\W.heap[w.heap.size]?=AI (Ib A S0 (0,0))/\W.heap[w.heap.size+1]?=AI (Ib B S1 (0,0))/\W.heap[w.heap.size+2]?=AI (Ib C S2 (0,0)):=by
 obtain⟨W,e⟩:∃W,W=((w.alloc (Ib A S0)).alloc (Ib B S1)).alloc (Ib C S2):=⟨_,rfl⟩;exact⟨W,e,(by rw[e];exact(((If _ _).alloc (by simp<;>omega) _).alloc (by simp<;>omega) _).alloc (by simp<;>omega) _),(by rw[e];simp),(by
  have h:=Ii w (Ib A S0);rw[e,Iv _ _ _ (by simp<;>omega),Iv _ _ _ (by simp<;>omega)];simpa using h),(by
  have h:=Ii (w.alloc (Ib A S0)) (Ib B S1);rw[e,Iv _ _ _ (by simp<;>omega)];simpa using h),(by
  have h:=Ii ((w.alloc (Ib A S0)).alloc (Ib B S1)) (Ib C S2);rw[e];simpa using h)⟩
theorem alB(w:World)(A B C D:Array Value)(S0 S1 S2 S3:Ji):∃W,W=(((w.alloc (Ib A S0)).alloc (Ib B S1)).alloc (Ib C S2)).alloc (Ib D S3)/\Below w.heap.size w W/\W.heap.size=w.heap.size+4/\W.heap[w.heap.size]?=AI (Ib A S0 (0,0))/\W.heap[w.heap.size+1]?=AI (Ib B S1 (0,0))/\W.heap[w.heap.size+2]?=AI (Ib C S2 (0,0))/\W.heap[w.heap.size+3]?=AI (Ib D S3 (0,0)):=by
 obtain⟨W,e⟩:∃W,W=(((w.alloc (Ib A S0)).alloc (Ib B S1)).alloc (Ib C S2)).alloc (Ib D S3):=⟨_,rfl⟩;exact⟨W,e,(by rw[e];exact((((If _ _).alloc (by simp<;>omega) _).alloc (by simp<;>omega) _).alloc (by simp<;>omega) _).alloc (by simp<;>omega) _),(by rw[e];simp),(by
  have h:=Ii w (Ib A S0);rw[e,Iv _ _ _ (by simp<;>omega),Iv _ _ _ (by simp<;>omega),Iv _ _ _ (by simp<;>omega)];simpa using h),(by
  have h:=Ii (w.alloc (Ib A S0)) (Ib B S1);rw[e,Iv _ _ _ (by simp<;>omega),Iv _ _ _ (by simp<;>omega)];simpa using h),(by
  have h:=Ii ((w.alloc (Ib A S0)).alloc (Ib B S1)) (Ib C S2);rw[e,Iv _ _ _ (by simp<;>omega)];simpa using h),(by
  have h:=Ii (((w.alloc (Ib A S0)).alloc (Ib B S1)).alloc (Ib C S2)) (Ib D S3);rw[e];simpa using h)⟩
end Go.Proofs.YtipbebleapjcjaaGreatDoor
namespace Go.Proofs.YtipbebleapjcjaaGreatDoor
open Go.ChangeShapes Go.WideShapes Go.ChangeAt Go.RowKit
section
variable {H:Type} {enc:TypeId × Value→H} {w:World} {base:Nat} {spare:Nat→Bool} {held:Bool}
theorem Tryz.kcR:Tryz.prog.cellsOf 57=6:=by kernel_rfl
theorem Tryz.avm:Tryz.prog.cellsOf 23=1:=by kernel_rfl
theorem Tryz.kcN:Tryz.prog.cellsOf 30=12:=by kernel_rfl
theorem Tryz.avn:Tryz.prog.cellsOf 55=5:=by kernel_rfl
theorem LN{fuel:Nat}{cs:List Value}{x:DataW H×List Qn}(h:Qi enc AT w base spare held fuel 57 cs=AI x) :
 ∃m:nQ,cs=m.cs/\m.m.name.size<=Il:=by
 obtain⟨xs,n,_,_,hl,hlen,hf⟩:=Qb underlying57 h;rw[Tryz.kcR] at hl
 match cs,hl with
 |[c0,c1,c2,c3,c4,c5],_=>
  match xs,hlen with
  |[y0,y1],_=>
   have h0:=hf 0 _ rfl;have h1:=hf 1 _ rfl;simp[Tryz.avn] at h0;simp[Tryz.M5] at h1;obtain⟨m,e0,w0⟩:=qT h0;obtain⟨t,e1,_,_⟩:=DataW.trod_int underlying3 h1;simp only[List.cons.injEq,and_true] at e0 e1;obtain⟨r1,r2,r3,r4,r5⟩:=e0;subst r1 r2 r3 r4 r5 e1;exact⟨⟨m,t⟩,rfl,w0⟩
theorem GV{fuel:Nat}{cs:List Value}{x:DataW H×List Qn}(h:Qi enc AT w base spare held fuel 23 cs=AI x) :
 ∃(p:Option Addr) (n c:Nat) (ms:List nQ),cs=[sh p n c]/\yd w (sh p n c) ms/\ms.length<=Il:=by
 rcases Go.Deep.open_slice underlying23 h with⟨oH,_⟩|⟨x,len,cap,m,n,D,Pl,oH,hb,hl,hm,yr,_,hx⟩
 .exact⟨U,0,0,[],oH,⟨U,0,rfl,Lu (by simp),.inl rfl⟩,by simp⟩
 .have hlm:len<=m:=by rw[yr];split<;>omega
  have qe:∀i,i<len->∃q:nQ,(∀t,t<6->w.cell? (x.add (i*6+t))=q.cs[t]?)/\(q).m.name.size<=Il:=λi hi=>by
   obtain⟨cs',h1,h2⟩:=hx i (by omega);obtain⟨q,hq,hs⟩:=LN h2;rw[Tryz.kcR] at h1;obtain⟨_,_,h3⟩:=World.cells?_some h1;refine⟨q,λt ht=>?_,hs⟩;rw[<- Go.Deep.add_add,h3 t ht,hq]
  have ac0:Inhabited nQ:=⟨dr⟩;obtain⟨F,hF⟩:=Go.Deep.choose_lt (α:=nQ) (p:=λi q=>(∀t,t<6->w.cell? (x.add (i*6+t))=q.cs[t]?)/\(q).m.name.size<=Il) qe;have tE:∀j,j<len->((J5 len).map F).getD j dr=F j:=λj hj=>by simp[Ip,hj]
  refine⟨AI x,len,cap,(J5 len).map F,oH,⟨AI x,cap,by simp,Lu (λq hq=>?_),?_⟩,by simp;omega⟩
  .obtain⟨j,hj,rfl⟩:=Ot.1 hq
   exact(hF j (List.mem_range.1 hj)).2
  .by_cases h0:len=0
   .left;simp[h0]
   .right
    obtain⟨b,off,spot⟩:=x;have Aj:=(hF 0 (by omega)).1 0 (by omega);have BH:spot=U:=by simpa[Addr.add] using World.cell?_spot Aj
    subst BH;have nG:∀j,j<len->∀t,t<6->w.cell? ⟨b,off+j*6+t,U⟩=(F j).cs[t]?:=λj hj t ht=>by
     have:=(hF j hj).1 t ht
     rwa [Go.WideShapes.add_plain,<- Nat.add_assoc] at this
    refine⟨b,off,rfl,World.block_lt_of_cell? w ⟨b,off+0*6+0,U⟩ (nG 0 (by omega) 0 (by omega)),λj hj=>?_⟩;have tS:j<len:=by simpa using hj
    rw[tE j tS];exact⟨nG j tS 0 (by omega),nG j tS 1 (by omega),nG j tS 2 (by omega),nG j tS 3 (by omega),nG j tS 4 (by omega),nG j tS 5 (by omega)⟩
theorem Tz{fuel:Nat}{cs:List Value}{x:DataW H×List Qn}(h:Qi enc AT w base spare held fuel 30 cs=AI x) :
 ∃(n:Nd) (vm vr vs vg vw:Value),cs=(sR n vm vr vs vg vw).toList/\uL w n vm vr vs vg vw:=by
 obtain⟨xs,n,_,_,hl,hlen,hf⟩:=Qb underlying30 h;rw[Tryz.kcN] at hl
 match cs,hl with
 |[c0,c1,c2,c3,c4,c5,c6,c7,c8,c9,c10,c11],_=>
  match xs,hlen with
  |[y0,y1,y2,y3,y4,y5,y6,y7],_=>
   have h0:=hf 0 _ rfl;have h1:=hf 1 _ rfl;have h2:=hf 2 _ rfl;have h3:=hf 3 _ rfl;have h4:=hf 4 _ rfl;have h5:=hf 5 _ rfl;have h6:=hf 6 _ rfl;have h7:=hf 7 _ rfl;simp[Tryz.kc9] at h0;simp[Tryz.kc9] at h1;simp[Tryz.kcM] at h2;simp[Tryz.avm] at h3;simp[Tryz.kcS] at h4;simp[Tryz.kcG] at h5;simp[Wh.kcP] at h6;simp[Tryz.kcW] at h7;obtain⟨s,e0,_,w0⟩:=OA IF h0;obtain⟨t,e1,_,w1⟩:=OA IF h1;obtain⟨pm,nm,cm,ms,e2,k2,_⟩:=qZ h2;obtain⟨pr,nr,cr,rs,e3,k3,_⟩:=GV h3;obtain⟨ps,ns,cn,sv,e4,k4,_⟩:=Sv.qZ h4;obtain⟨pg,ng,cg,gw,e5,k5,_⟩:=Gw.qZ h5;obtain⟨a,b,c,d,e,e6⟩:=Wh.Ds h6;obtain⟨pw,nw,cw,wh,e7,k7,_⟩:=Wh.qZ h7;simp only[List.cons.injEq,and_true] at e0 e1 e2 e3 e4 e5 e6 e7;obtain⟨r1,r2,r3,r4,r5⟩:=e6;subst e0 e1 e2 e3 e4 e5 r1 r2 r3 r4 r5 e7;exact⟨⟨s,t,ms,rs,sv,gw,⟨a,b,c,d,e⟩,wh⟩,_,_,_,_,_,rfl,k2,k3,k4,k5,k7,w0,w1⟩
theorem WY{r:Reach}{b0:Nat}{v:Value}{d:DataW H}{p:List Qn}(hv:Value.okWide AT w r b0 30 v)(h:DataW.Trod enc AT w base spare held 30 v d p) :
 ∃(n:Nd) (vm vr vs vg vw:Value),v=Iu (sR n vm vr vs vg vw)/\uL w n vm vr vs vg vw:=by
 obtain⟨cs,rfl,od⟩:=okWide_struct underlying30 hv;obtain⟨fuel,hf⟩:=h;obtain⟨n,vm,vr,vs,vg,vw,hm,hs⟩:=Tz hf;refine⟨n,vm,vr,vs,vg,vw,?_,hs⟩;simp only[Value.cells] at hm;congr 1;apply Array.ext';exact hm
end
end Go.Proofs.YtipbebleapjcjaaGreatDoor
