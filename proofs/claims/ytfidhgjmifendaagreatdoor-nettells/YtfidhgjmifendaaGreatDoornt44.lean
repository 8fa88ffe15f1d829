import Derived.Test.YtfidhgjmifendaaGreatDoornt42
import Derived.Test.YtfidhgjmifendaaGreatDoornt43
set_option maxHeartbeats 25600000
set_option maxRecDepth 100000
open Go.Ending renaming returned→By
open Go.Value renaming tuple→Ik,slice→J,int→U,pointer→Ie,string→Y,bool→Ia,agg→Ij,func→IQ
open Go.IntKind renaming i64→O
open Go.Proofs.Tryz renaming prog→AS
open Option renaming some→AI,none→be
open Go.Obj renaming cells→AT
open Go.RowKit.Below renaming refl→Ib
open Nat renaming le_refl→Ic,zero_add→IC,reduceAdd→Jh
open Go renaming heap_alloc_new→Ih,below_drewN→I8,bodyPost_ret→IK,maxLen→Il
open Go.Proofs renaming enters_of→Jk
open Bool renaming and_eq_true→IM
open Go.Joins renaming block_setCell→IB
open Array renaming getElem?_eq_some_iff→BY
namespace Go.Proofs.YtfidhgjmifendaaGreatDoor
open Go.RowKit
def rY(n:Nd)(s:Sv.aT)(E:Int):Int:=if s.node=n.name then E else 4
theorem B4(L b:Nat)(n:Nd)(s:Sv.aT)(E:Int)(X:List Sv.aT)(w:World)(h:Wk L w b n)(hL:L<=b)(hX:∀x∈X,x.ok)(pU:∀v W,Sv.Sl W v n.sv->Calls AS 202 #[v,TQ s] W λe w'=>∃p l c,e=By (Ik #[J p l c,U O E])/\Hid (Sv.Own W.heap.size w' (J p l c) X)/\Below W.heap.size W w') :
 Calls AS 150 #[Ie (AI ⟨b,0,be⟩),TQ s] w λe w'=>e=By (U O (rY n s E))/\Sh (λk=>k=b) w w'/\Hid (rY n s E=0->Wk L w' b { n with sv:=X }):=by
 have pN:Hid (Wk L w b n):=h;have aN:=h.lt;obtain⟨vm,vr,vs,vg,vw,h1,h2,h3,h4⟩:=h;have ml:Hid _:=h2.is h4;obtain⟨AB,cs,tK,_⟩:=aA h2.sv;subst tK;have yp:Hid (∀W,Below w.heap.size w W->Calls _ _ _ _ _):=λW hW=>pU _ W (ml.out.sv.below hW);have qG:Hid (∀W w1 a k c,Below w.heap.size w W->Below W.heap.size W w1->Sv.Own W.heap.size w1 (J a k c) X->Wk L (w1.setCell ⟨b,4,be⟩ (J a k c)) b { n with sv:=X }):=λW w1 a k c hW h1 h2=>
  (pN.out.below hW).Bm (by have:=hW.size;omega) h1 h2 hX
 have HX:Hid (∀W,Below w.heap.size w W->W.heap[b]?=AI (AT (dt n vm vr (J AB n.sv.length cs) vg vw) 90 (0,0))):=λW hW=>(hW.block _ aN).trans h1;have HE:Hid (rY n s E=if s.node=n.name then E else 4):=rfl;generalize rY n s E=res at *;generalize AU:n.sv.length=kr at *;clear AU h1 h2 h3 h4 hX pU;obtain⟨s0,s1,s2,s3,s4,s5,s6,s7,s8⟩:=s;simp only[TQ] at yp HE ⊢;obtain⟨W2,bF⟩:∃W2,W2=w.alloc (AT #[Y s0,Y s1,Y s2,Y s3,U O s4,U O s5,Ia s6,U O s7,Ia s8] 46):=⟨_,rfl⟩;have aJ:Below w.heap.size w W2:=by rw[bF];exact(Ib _ _).alloc (Ic _) _
 have bp:Hid _:=aJ;have dQ:W2.heap[w.heap.size]?=AI (AT #[Y s0,Y s1,Y s2,Y s3,U O s4,U O s5,Ia s6,U O s7,Ia s8] 46 (0,0)):=by rw[bF];exact Ih w _
 obtain⟨x0,x1,x2,x3,x4,x5,x6,x7,x8⟩:=Hi dQ;have y0:=ae (HX.out W2 aJ) 0;have y3:=ae (HX.out W2 aJ) 4;have Sg:b<W2.heap.size:=by have:=bp.out.size;omega
 go_enter Tryz.func150,Tryz.ntmps150;go_upto_region 1 with fail
 rw[<- bF];clear bF aJ dQ;by_cases cV:s0=n.name
 .have HR:Hid _:=HE.out.trans (if_pos cV)
  have hq:(s0.toList==n.name.toList)=true:=by rw[cV];simp
  have TR:s0.toList=n.name.toList:=by rw[cV]
  clear HE cV;go_quiet (fail)
  go_wp2_with fail;generalize hV:W2.drewN _=V;have nE:Hid (Below w.heap.size w V):=by rw[<- hV];exact I8 bp.out _
  have u0:V.cell? ⟨w.heap.size,0,be⟩=AI (Y s0):=by rw[<- hV];exact x0
  have u1:V.cell? ⟨w.heap.size,1,be⟩=AI (Y s1):=by rw[<- hV];exact x1
  have u2:V.cell? ⟨w.heap.size,2,be⟩=AI (Y s2):=by rw[<- hV];exact x2
  have u3:V.cell? ⟨w.heap.size,3,be⟩=AI (Y s3):=by rw[<- hV];exact x3
  have u4:V.cell? ⟨w.heap.size,4,be⟩=AI (U O s4):=by rw[<- hV];exact x4
  have u5:V.cell? ⟨w.heap.size,5,be⟩=AI (U O s5):=by rw[<- hV];exact x5
  have u6:V.cell? ⟨w.heap.size,6,be⟩=AI (Ia s6):=by rw[<- hV];exact x6
  have u7:V.cell? ⟨w.heap.size,7,be⟩=AI (U O s7):=by rw[<- hV];exact x7
  have u8:V.cell? ⟨w.heap.size,8,be⟩=AI (Ia s8):=by rw[<- hV];exact x8
  have v3:V.cell? ⟨b,4,be⟩=AI (J AB kr cs):=by rw[<- hV];exact y3
  have hbv:b<V.heap.size:=by rw[<- hV];exact Sg
  clear hV x0 x1 x2 x3 x4 x5 x6 x7 x8 y0 y3 Sg bp;go_region_with (first|(go_at_call 202;refine(yp.out _ nE.out.drew).mono ?_;rintro e w3 ⟨a,k,c,rfl,lh,bV⟩;have cj:Hid (Below V.heap.size V w3):=(Ib V.heap.size V).drew.trans bV;have dY:Hid (Wk L (w3.setCell ⟨b,4,be⟩ (J a k c)) b { n with sv:=X }):=qG.out _ _ a k c nE.out.drew bV lh.out;have gI:=HX.out w3 (nE.out.trans (cj.out.mono nE.out.size));have z3:w3.cell? ⟨b,4,be⟩=AI (J AB kr cs):=ae gI 4;have zf:w3.frozen? ⟨b,4,be⟩=false:=an gI 4;clear bV lh gI))
  all_goals
   go_wp2_with fail;go_ret;exact⟨ai HR.out.symm,((Sh.of nE.out).next cj.out).setCell (S:=λk=>k=b) rfl _,λ_=>dY.out⟩
 .have HR:Hid _:=HE.out.trans (if_neg cV)
  have hq:(s0.toList==n.name.toList)=false:=by rw[jA,decide_eq_false cV]
  clear HE cV;go_quiet (fail)
  go_wp2_with fail;go_ret;exact⟨ai HR.out.symm,Sh.of (I8 bp.out _),λh=>by have:=HR.out.symm.trans h;cases this⟩
theorem Fh(L b:Nat)(n:Nd)(t:ByteArray)(E:Int)(X:List Sv.aT)(w:World)(h:Wk L w b n)(hL:L<=b)(hX:∀x∈X,x.ok)(pU:∀v W,Sv.Sl W v n.sv->Calls AS 203 #[v,Y n.name,Y t] W λe w'=>∃p l c,e=By (Ik #[J p l c,U O E])/\Hid (Sv.Own W.heap.size w' (J p l c) X)/\Below W.heap.size W w') :
 Calls AS 152 #[Ie (AI ⟨b,0,be⟩),Y t] w λe w'=>e=By (U O E)/\Sh (λk=>k=b) w w'/\Hid (E=0->Wk L w' b { n with sv:=X }):=by
 have pN:Hid (Wk L w b n):=h;have aN:=h.lt;obtain⟨vm,vr,vs,vg,vw,h1,h2,h3,h4⟩:=h;have ml:Hid _:=h2.is h4;obtain⟨AB,cs,tK,_⟩:=aA h2.sv;subst tK;have yp:Hid (∀W,Below w.heap.size w W->Calls _ _ _ _ _):=λW hW=>pU _ W (ml.out.sv.below hW);have qG:Hid (∀W w1 a k c,Below w.heap.size w W->Below W.heap.size W w1->Sv.Own W.heap.size w1 (J a k c) X->Wk L (w1.setCell ⟨b,4,be⟩ (J a k c)) b { n with sv:=X }):=λW w1 a k c hW h1 h2=>
  (pN.out.below hW).Bm (by have:=hW.size;omega) h1 h2 hX
 have HX:Hid (∀W,Below w.heap.size w W->W.heap[b]?=AI (AT (dt n vm vr (J AB n.sv.length cs) vg vw) 90 (0,0))):=λW hW=>(hW.block _ aN).trans h1;have y0:=ae h1 0;have y3:=ae h1 4;generalize AU:n.sv.length=kr at *;clear AU h1 h2 h3 h4 hX pU;have nE:Hid (Below w.heap.size w w):=Ib _ _;go_enter Tryz.func152,Tryz.ntmps152;go_upto_region 1 with fail
 go_region_with (first|(go_at_call 203;refine(yp.out _ nE.out.drew).mono ?_;rintro e w3 ⟨a,k,c,rfl,lh,bV⟩;have cj:Hid (Below w.heap.size w w3):=(Ib w.heap.size w).drew.trans bV;have dY:Hid (Wk L (w3.setCell ⟨b,4,be⟩ (J a k c)) b { n with sv:=X }):=qG.out _ _ a k c nE.out.drew bV lh.out;have gI:=HX.out w3 (nE.out.trans (cj.out.mono nE.out.size));have z3:w3.cell? ⟨b,4,be⟩=AI (J AB kr cs):=ae gI 4;have zf:w3.frozen? ⟨b,4,be⟩=false:=an gI 4;clear bV lh gI))
 all_goals
  go_wp2_with fail;go_ret;exact⟨rfl,((Sh.of nE.out).next cj.out).setCell (S:=λk=>k=b) rfl _,λ_=>dY.out⟩
theorem Fi(L b:Nat)(n:Nd)(ad:Int)(E:Int)(X:List Gw.bK)(w:World)(h:Wk L w b n)(hL:L<=b)(hX:∀x∈X,x.ok)(pU:∀v W,Gw.Sl W v n.gw->Calls AS 204 #[v,Y n.aD,U O ad] W λe w'=>∃p l c,e=By (Ik #[J p l c,U O E])/\Hid (Gw.Own W.heap.size w' (J p l c) X)/\Below W.heap.size W w') :
 Calls AS 154 #[Ie (AI ⟨b,0,be⟩),U O ad] w λe w'=>e=By (U O E)/\Sh (λk=>k=b) w w'/\Hid (E=0->Wk L w' b { n with gw:=X }):=by
 have pN:Hid (Wk L w b n):=h;have aN:=h.lt;obtain⟨vm,vr,vs,vg,vw,h1,h2,h3,h4⟩:=h;have ml:Hid _:=h2.is h4;obtain⟨AB,cs,tK,_⟩:=aA h2.gw;subst tK;have yp:Hid (∀W,Below w.heap.size w W->Calls _ _ _ _ _):=λW hW=>pU _ W (ml.out.gw.below hW);have qG:Hid (∀W w1 a k c,Below w.heap.size w W->Below W.heap.size W w1->Gw.Own W.heap.size w1 (J a k c) X->Wk L (w1.setCell ⟨b,5,be⟩ (J a k c)) b { n with gw:=X }):=λW w1 a k c hW h1 h2=>
  (pN.out.below hW).Hu (by have:=hW.size;omega) h1 h2 hX
 have HX:Hid (∀W,Below w.heap.size w W->W.heap[b]?=AI (AT (dt n vm vr vs (J AB n.gw.length cs) vw) 90 (0,0))):=λW hW=>(hW.block _ aN).trans h1;have y0:=ae h1 1;have y3:=ae h1 5;generalize AU:n.gw.length=kr at *;clear AU h1 h2 h3 h4 hX pU;have nE:Hid (Below w.heap.size w w):=Ib _ _;go_enter Tryz.func154,Tryz.ntmps154;go_upto_region 1 with fail
 go_region_with (first|(go_at_call 204;refine(yp.out _ nE.out.drew).mono ?_;rintro e w3 ⟨a,k,c,rfl,lh,bV⟩;have cj:Hid (Below w.heap.size w w3):=(Ib w.heap.size w).drew.trans bV;have dY:Hid (Wk L (w3.setCell ⟨b,5,be⟩ (J a k c)) b { n with gw:=X }):=qG.out _ _ a k c nE.out.drew bV lh.out;have gI:=HX.out w3 (nE.out.trans (cj.out.mono nE.out.size));have z3:w3.cell? ⟨b,5,be⟩=AI (J AB kr cs):=ae gI 5;have zf:w3.frozen? ⟨b,5,be⟩=false:=an gI 5;clear bV lh gI))
 all_goals
  go_wp2_with fail;go_ret;exact⟨rfl,((Sh.of nE.out).next cj.out).setCell (S:=λk=>k=b) rfl _,λ_=>dY.out⟩
theorem B5(L b tb:Nat)(n:Nd)(s:Sv.aT)(E:Int)(X:List Sv.aT)(w:World)(h:Wk L w b n)(hL:L<=b)(hX:∀x∈X,x.ok)(pU:∀v W,Sv.Sl W v n.sv->Calls AS 202 #[v,TQ s] W λe w'=>∃p l c,e=By (Ik #[J p l c,U O E])/\Hid (Sv.Own W.heap.size w' (J p l c) X)/\Below W.heap.size W w')(hc:w.heap[tb]?=AI (AT #[Y s.node,Y s.bu,Y s.name,Y s.tag,U O s.addr,U O s.port,Ia s.aj,U O s.version,Ia s.gone] 46 (0,0))) :
 Calls AS 149 #[Ie (AI ⟨b,0,be⟩),Ie (AI ⟨tb,0,be⟩)] w λe w'=>e=By (U O (rY n s E))/\Sh (λk=>k=b) w w'/\Hid (rY n s E=0->Wk L w' b { n with sv:=X }):=by
 have HC:Hid (Calls _ _ _ _ _):=B4 L b n s E X w h hL hX pU;obtain⟨y0,y1,y2,y3,y4,y5,y6,y7,y8⟩:=Hi hc;clear h hc pU hX;generalize rY n s E=we at *;go_enter Tryz.func149,Tryz.ntmps149;go_wp2_with fail;refine HC.out.mono ?_;rintro e w1 ⟨rfl,hs,hk⟩;have HS:Hid _:=hs;clear hs;go_wp2_with fail;go_ret;exact⟨rfl,HS.out,hk⟩
theorem Fj(L b tb:Nat)(n:Nd)(t:ByteArray)(E:Int)(X:List Sv.aT)(w:World)(h:Wk L w b n)(hL:L<=b)(hX:∀x∈X,x.ok)(pU:∀v W,Sv.Sl W v n.sv->Calls AS 203 #[v,Y n.name,Y t] W λe w'=>∃p l c,e=By (Ik #[J p l c,U O E])/\Hid (Sv.Own W.heap.size w' (J p l c) X)/\Below W.heap.size W w')(hc:w.heap[tb]?=AI (AT #[Y t] 9 (0,0))) :
 Calls AS 151 #[Ie (AI ⟨b,0,be⟩),Ie (AI ⟨tb,0,be⟩)] w λe w'=>e=By (U O (E))/\Sh (λk=>k=b) w w'/\Hid (E=0->Wk L w' b { n with sv:=X }):=by
 have HC:Hid (Calls _ _ _ _ _):=Fh L b n t E X w h hL hX pU;have y0:=ae hc 0;clear h hc pU hX;go_enter Tryz.func151,Tryz.ntmps151;go_wp2_with fail;refine HC.out.mono ?_;rintro e w1 ⟨rfl,hs,hk⟩;have HS:Hid _:=hs;clear hs;go_wp2_with fail;go_ret;exact⟨rfl,HS.out,hk⟩
theorem Fk(L b tb:Nat)(n:Nd)(ad:Int)(E:Int)(X:List Gw.bK)(w:World)(h:Wk L w b n)(hL:L<=b)(hX:∀x∈X,x.ok)(pU:∀v W,Gw.Sl W v n.gw->Calls AS 204 #[v,Y n.aD,U O ad] W λe w'=>∃p l c,e=By (Ik #[J p l c,U O E])/\Hid (Gw.Own W.heap.size w' (J p l c) X)/\Below W.heap.size W w')(hc:w.heap[tb]?=AI (AT #[U O ad] 3 (0,0))) :
 Calls AS 153 #[Ie (AI ⟨b,0,be⟩),Ie (AI ⟨tb,0,be⟩)] w λe w'=>e=By (U O (E))/\Sh (λk=>k=b) w w'/\Hid (E=0->Wk L w' b { n with gw:=X }):=by
 have HC:Hid (Calls _ _ _ _ _):=Fi L b n ad E X w h hL hX pU;have y0:=ae hc 0;clear h hc pU hX;go_enter Tryz.func153,Tryz.ntmps153;go_wp2_with fail;refine HC.out.mono ?_;rintro e w1 ⟨rfl,hs,hk⟩;have HS:Hid _:=hs;clear hs;go_wp2_with fail;go_ret;exact⟨rfl,HS.out,hk⟩
theorem Fl(n:Nd)(s:Sv.aT)(E:Int)(X:List Sv.aT)(vm vr vs vg vw:Value)(w:World)(h:eS w n vm vr vs vg vw)(hX:∀x∈X,x.ok)(pU:n.e=0->∀v W,Sv.Sl W v n.sv->Calls AS 202 #[v,TQ s] W λe w'=>∃p l c,e=By (Ik #[J p l c,U O E])/\Hid (Sv.Own W.heap.size w' (J p l c) X)/\Below W.heap.size W w') :
 Calls AS 93 #[Ij (dt n vm vr vs vg vw),Ij #[Y s.node,Y s.bu,Y s.name,Y s.tag,U O s.addr,U O s.port,Ia s.aj,U O s.version,Ia s.gone]] w λe w'=>dz n.e (rY n s E) ({ n with sv:=X }) w e w':=by
 have ml:Hid _:=h;obtain⟨W0,bJ⟩:∃W0,W0=w.heap.size:=⟨_,rfl⟩;clear bJ W0;have lR:Hid (∀W0,Below w.heap.size w W0->W0.heap.size=w.heap.size+3->W0.heap[w.heap.size+1]?=AI (AT #[Y s.node,Y s.bu,Y s.name,Y s.tag,U O s.addr,U O s.port,Ia s.aj,U O s.version,Ia s.gone] 46 (0,0))->Calls AS 29 #[Ij (dt n vm vr vs vg vw),IQ (.func 149) #[] #[Ie (AI ⟨w.heap.size+1,0,be⟩)]] W0 λe w'=>fu n.e (rY n s E) ({ n with sv:=X }) (λ_=>False) (λ_=>True) W0 e w'):=λW0 hb hs hc1=>
  iV 149 #[Ie (AI ⟨w.heap.size+1,0,be⟩)] (Jk Tryz.func149 (by kernel_rfl) rfl) n vm vr vs vg vw W0 (h.below hb) (λ_=>False) (rY n s E) ({ n with sv:=X }) (λ_=>True)
   (λhe W b hW aJ hk=>by
    refine(B5 (W0.heap.size+2) b (w.heap.size+1) n s E X W hk (by omega) hX (pU he) ((hW.block _ (by omega)).trans hc1)).mono ?_;rintro e w' ⟨rfl,hs,hh⟩;exact⟨rfl,hs.mono (λk hk=>.inl (by omega)),λh=>⟨hh.out h,trivial⟩⟩
   ) (λ_ _ _ _=>trivial) (λ_ hk=>hk.elim)
 clear pU;obtain⟨nm,ct,ms,rs,sv,gw,⟨px,py,pz,ph,pq⟩,wh⟩:=n;obtain⟨⟨em,cm,rfl,_,_⟩,⟨qL,cr,rfl,_,_⟩,⟨es,qM,rfl,_,_⟩,⟨qN,cg,rfl,_,_⟩,⟨eh,ch,rfl,_,_⟩,_,_⟩:=h;simp only[dt] at lR ⊢;generalize ms.length=km at *;generalize rs.length=kr at *;generalize sv.length=ks at *;generalize gw.length=kg at *;generalize wh.length=kh at *;generalize Nd.e ⟨nm,ct,ms,rs,sv,gw,⟨px,py,pz,ph,pq⟩,wh⟩=ne at *;generalize rY ⟨nm,ct,ms,rs,sv,gw,⟨px,py,pz,ph,pq⟩,wh⟩ s E=er at *;generalize(⟨nm,ct,ms,rs,X,gw,⟨px,py,pz,ph,pq⟩,wh⟩:Nd)=n' at *;obtain⟨W0,bJ,bM,eE,vz,hc1,dh⟩:=oe w #[Y nm,Y ct,J em km cm,J qL kr cr,J es ks qM,J qN kg cg,U O px,U O py,U O pz,U O ph,U O pq,J eh kh ch] #[Y s.node,Y s.bu,Y s.name,Y s.tag,U O s.addr,U O s.port,Ia s.aj,U O s.version,Ia s.gone] #[Y ⟨#[]⟩,Y ⟨#[]⟩,J be 0 0,J be 0 0,J be 0 0,J be 0 0,U O 0,U O 0,U O 0,U O 0,U O 0,J be 0 0] 42 46 42;have rz:=lR.out W0 bM eE hc1;have da:Hid _:=bM;have nI:Hid _:=dh;clear bM eE vz hc1 dh lR;go_enter Tryz.func93,Tryz.ntmps93;go_wp2_with fail;rw[<- bJ];refine rz.mono ?_;intro e w1 h;obtain⟨cZ,u0,u1,b2,m2,e2,b3,m3,e3,b4,m4,e4,b5,m5,e5,u6,u7,u8,u9,u10,b11,m11,e11,r1,rfl,HR⟩:=h.wrap da.out nI.out (by omega);obtain⟨q0,q1,q2,q3,q4,q5,q6,q7,q8,q9,q10,q11⟩:=bA cZ;obtain⟨vK,vL,xc,xd,xe,xf,CV,CW,CX,CY,pG,pH⟩:=jT cZ;clear h cZ rz bJ da nI;simp only[aC,IC,Jh] at HR;go_wp2_with fail;exact IK (v:=Ik #[Ij #[Y u0,Y u1,J b2 m2 e2,J b3 m3 e3,J b4 m4 e4,J b5 m5 e5,U O u6,U O u7,U O u8,U O u9,U O u10,J b11 m11 e11],U O r1]) (by simp[results,Tryz.results93,go_sem,q0,q1,q2,q3,q4,q5,q6,q7,q8,q9,q10,q11]) rfl HR.out
theorem KN(n:Nd)(t:ByteArray)(E:Int)(X:List Sv.aT)(vm vr vs vg vw:Value)(w:World)(h:eS w n vm vr vs vg vw)(hX:∀x∈X,x.ok)(pU:n.e=0->∀v W,Sv.Sl W v n.sv->Calls AS 203 #[v,Y n.name,Y t] W λe w'=>∃p l c,e=By (Ik #[J p l c,U O E])/\Hid (Sv.Own W.heap.size w' (J p l c) X)/\Below W.heap.size W w') :
 Calls AS 95 #[Ij (dt n vm vr vs vg vw),Y t] w λe w'=>dz n.e (E) ({ n with sv:=X }) w e w':=by
 have ml:Hid _:=h;obtain⟨W0,bJ⟩:∃W0,W0=w.heap.size:=⟨_,rfl⟩;clear bJ W0;have lR:Hid (∀W0,Below w.heap.size w W0->W0.heap.size=w.heap.size+3->W0.heap[w.heap.size+1]?=AI (AT #[Y t] 9 (0,0))->Calls AS 29 #[Ij (dt n vm vr vs vg vw),IQ (.func 151) #[] #[Ie (AI ⟨w.heap.size+1,0,be⟩)]] W0 λe w'=>fu n.e (E) ({ n with sv:=X }) (λ_=>False) (λ_=>True) W0 e w'):=λW0 hb hs hc1=>
  iV 151 #[Ie (AI ⟨w.heap.size+1,0,be⟩)] (Jk Tryz.func151 (by kernel_rfl) rfl) n vm vr vs vg vw W0 (h.below hb) (λ_=>False) (E) ({ n with sv:=X }) (λ_=>True)
   (λhe W b hW aJ hk=>by
    refine(Fj (W0.heap.size+2) b (w.heap.size+1) n t E X W hk (by omega) hX (pU he) ((hW.block _ (by omega)).trans hc1)).mono ?_;rintro e w' ⟨rfl,hs,hh⟩;exact⟨rfl,hs.mono (λk hk=>.inl (by omega)),λh=>⟨hh.out h,trivial⟩⟩
   ) (λ_ _ _ _=>trivial) (λ_ hk=>hk.elim)
 clear pU;obtain⟨nm,ct,ms,rs,sv,gw,⟨px,py,pz,ph,pq⟩,wh⟩:=n;obtain⟨⟨em,cm,rfl,_,_⟩,⟨qL,cr,rfl,_,_⟩,⟨es,qM,rfl,_,_⟩,⟨qN,cg,rfl,_,_⟩,⟨eh,ch,rfl,_,_⟩,_,_⟩:=h;simp only[dt] at lR ⊢;generalize ms.length=km at *;generalize rs.length=kr at *;generalize sv.length=ks at *;generalize gw.length=kg at *;generalize wh.length=kh at *;generalize Nd.e ⟨nm,ct,ms,rs,sv,gw,⟨px,py,pz,ph,pq⟩,wh⟩=ne at *;generalize E=er at *;generalize(⟨nm,ct,ms,rs,X,gw,⟨px,py,pz,ph,pq⟩,wh⟩:Nd)=n' at *;obtain⟨W0,bJ,bM,eE,vz,hc1,dh⟩:=oe w #[Y nm,Y ct,J em km cm,J qL kr cr,J es ks qM,J qN kg cg,U O px,U O py,U O pz,U O ph,U O pq,J eh kh ch] #[Y t] #[Y ⟨#[]⟩,Y ⟨#[]⟩,J be 0 0,J be 0 0,J be 0 0,J be 0 0,U O 0,U O 0,U O 0,U O 0,U O 0,J be 0 0] 42 9 42;have rz:=lR.out W0 bM eE hc1;have da:Hid _:=bM;have nI:Hid _:=dh;clear bM eE vz hc1 dh lR;go_enter Tryz.func95,Tryz.ntmps95;go_wp2_with fail;rw[<- bJ];refine rz.mono ?_;intro e w1 h;obtain⟨cZ,u0,u1,b2,m2,e2,b3,m3,e3,b4,m4,e4,b5,m5,e5,u6,u7,u8,u9,u10,b11,m11,e11,r1,rfl,HR⟩:=h.wrap da.out nI.out (by omega);obtain⟨q0,q1,q2,q3,q4,q5,q6,q7,q8,q9,q10,q11⟩:=bA cZ;obtain⟨vK,vL,xc,xd,xe,xf,CV,CW,CX,CY,pG,pH⟩:=jT cZ;clear h cZ rz bJ da nI;simp only[aC,IC,Jh] at HR;go_wp2_with fail;exact IK (v:=Ik #[Ij #[Y u0,Y u1,J b2 m2 e2,J b3 m3 e3,J b4 m4 e4,J b5 m5 e5,U O u6,U O u7,U O u8,U O u9,U O u10,J b11 m11 e11],U O r1]) (by simp[results,Tryz.results95,go_sem,q0,q1,q2,q3,q4,q5,q6,q7,q8,q9,q10,q11]) rfl HR.out
theorem KO(n:Nd)(ad:Int)(E:Int)(X:List Gw.bK)(vm vr vs vg vw:Value)(w:World)(h:eS w n vm vr vs vg vw)(hX:∀x∈X,x.ok)(pU:n.e=0->∀v W,Gw.Sl W v n.gw->Calls AS 204 #[v,Y n.aD,U O ad] W λe w'=>∃p l c,e=By (Ik #[J p l c,U O E])/\Hid (Gw.Own W.heap.size w' (J p l c) X)/\Below W.heap.size W w') :
 Calls AS 97 #[Ij (dt n vm vr vs vg vw),U O ad] w λe w'=>dz n.e (E) ({ n with gw:=X }) w e w':=by
 have ml:Hid _:=h;obtain⟨W0,bJ⟩:∃W0,W0=w.heap.size:=⟨_,rfl⟩;clear bJ W0;have lR:Hid (∀W0,Below w.heap.size w W0->W0.heap.size=w.heap.size+3->W0.heap[w.heap.size+1]?=AI (AT #[U O ad] 3 (0,0))->Calls AS 29 #[Ij (dt n vm vr vs vg vw),IQ (.func 153) #[] #[Ie (AI ⟨w.heap.size+1,0,be⟩)]] W0 λe w'=>fu n.e (E) ({ n with gw:=X }) (λ_=>False) (λ_=>True) W0 e w'):=λW0 hb hs hc1=>
  iV 153 #[Ie (AI ⟨w.heap.size+1,0,be⟩)] (Jk Tryz.func153 (by kernel_rfl) rfl) n vm vr vs vg vw W0 (h.below hb) (λ_=>False) (E) ({ n with gw:=X }) (λ_=>True)
   (λhe W b hW aJ hk=>by
    refine(Fk (W0.heap.size+2) b (w.heap.size+1) n ad E X W hk (by omega) hX (pU he) ((hW.block _ (by omega)).trans hc1)).mono ?_;rintro e w' ⟨rfl,hs,hh⟩;exact⟨rfl,hs.mono (λk hk=>.inl (by omega)),λh=>⟨hh.out h,trivial⟩⟩
   ) (λ_ _ _ _=>trivial) (λ_ hk=>hk.elim)
 clear pU;obtain⟨nm,ct,ms,rs,sv,gw,⟨px,py,pz,ph,pq⟩,wh⟩:=n;obtain⟨⟨em,cm,rfl,_,_⟩,⟨qL,cr,rfl,_,_⟩,⟨es,qM,rfl,_,_⟩,⟨qN,cg,rfl,_,_⟩,⟨eh,ch,rfl,_,_⟩,_,_⟩:=h;simp only[dt] at lR ⊢;generalize ms.length=km at *;generalize rs.length=kr at *;generalize sv.length=ks at *;generalize gw.length=kg at *;generalize wh.length=kh at *;generalize Nd.e ⟨nm,ct,ms,rs,sv,gw,⟨px,py,pz,ph,pq⟩,wh⟩=ne at *;generalize E=er at *;generalize(⟨nm,ct,ms,rs,sv,X,⟨px,py,pz,ph,pq⟩,wh⟩:Nd)=n' at *;obtain⟨W0,bJ,bM,eE,vz,hc1,dh⟩:=oe w #[Y nm,Y ct,J em km cm,J qL kr cr,J es ks qM,J qN kg cg,U O px,U O py,U O pz,U O ph,U O pq,J eh kh ch] #[U O ad] #[Y ⟨#[]⟩,Y ⟨#[]⟩,J be 0 0,J be 0 0,J be 0 0,J be 0 0,U O 0,U O 0,U O 0,U O 0,U O 0,J be 0 0] 42 3 42;have rz:=lR.out W0 bM eE hc1;have da:Hid _:=bM;have nI:Hid _:=dh;clear bM eE vz hc1 dh lR;go_enter Tryz.func97,Tryz.ntmps97;go_wp2_with fail;rw[<- bJ];refine rz.mono ?_;intro e w1 h;obtain⟨cZ,u0,u1,b2,m2,e2,b3,m3,e3,b4,m4,e4,b5,m5,e5,u6,u7,u8,u9,u10,b11,m11,e11,r1,rfl,HR⟩:=h.wrap da.out nI.out (by omega);obtain⟨q0,q1,q2,q3,q4,q5,q6,q7,q8,q9,q10,q11⟩:=bA cZ;obtain⟨vK,vL,xc,xd,xe,xf,CV,CW,CX,CY,pG,pH⟩:=jT cZ;clear h cZ rz bJ da nI;simp only[aC,IC,Jh] at HR;go_wp2_with fail;exact IK (v:=Ik #[Ij #[Y u0,Y u1,J b2 m2 e2,J b3 m3 e3,J b4 m4 e4,J b5 m5 e5,U O u6,U O u7,U O u8,U O u9,U O u10,J b11 m11 e11],U O r1]) (by simp[results,Tryz.results97,go_sem,q0,q1,q2,q3,q4,q5,q6,q7,q8,q9,q10,q11]) rfl HR.out
theorem Fm(L b tb:Nat)(n:Nd)(t:ByteArray)(w:World)(h:Wk L w b n)(hL:L<=b)(vc:Sp n)(ht:t.size<=Il)(hc:w.heap[tb]?=AI (AT #[Y t] 9 (0,0))) :
 Calls AS 144 #[Ie (AI ⟨b,0,be⟩),Ie (AI ⟨tb,0,be⟩)] w λe w'=>e=By (U O (sn n t 2 3))/\Sh (λk=>k=b) w w'/\Hid (sn n t 2 3=0->Wk L w' b (zA n t 3)):=by
 have HC:Hid (Calls _ _ _ _ _):=tw L b n t 2 3 w h hL vc.ms vc.rs vc.name ht rfl;have y0:=ae hc 0;clear h vc hc;generalize sn n t 2 3=we at *;go_enter Tryz.func144,Tryz.ntmps144;go_wp2_with fail;refine HC.out.mono ?_;rintro e w1 ⟨rfl,hs,hk⟩;have HS:Hid _:=hs;clear hs;go_wp2_with fail;go_ret;exact⟨rfl,HS.out,hk⟩
theorem KP(n:Nd)(t:ByteArray)(vm vr vs vg vw:Value)(w:World)(h:eS w n vm vr vs vg vw)(ht:t.size<=Il) :
 Calls AS 87 #[Ij (dt n vm vr vs vg vw),Y t] w λe w'=>dz n.e (sn n t 2 3) (zA n t 3) w e w':=by
 have ml:Hid _:=h;obtain⟨W0,bJ⟩:∃W0,W0=w.heap.size:=⟨_,rfl⟩;clear bJ W0;have lR:Hid (∀W0,Below w.heap.size w W0->W0.heap.size=w.heap.size+3->W0.heap[w.heap.size+1]?=AI (AT #[Y t] 9 (0,0))->Calls AS 29 #[Ij (dt n vm vr vs vg vw),IQ (.func 144) #[] #[Ie (AI ⟨w.heap.size+1,0,be⟩)]] W0 λe w'=>fu n.e (sn n t 2 3) (zA n t 3) (λ_=>False) (λ_=>True) W0 e w'):=λW0 hb hs hc1=>
  iV 144 #[Ie (AI ⟨w.heap.size+1,0,be⟩)] (Jk Tryz.func144 (by kernel_rfl) rfl) n vm vr vs vg vw W0 (h.below hb) (λ_=>False) (sn n t 2 3) (zA n t 3) (λ_=>True)
   (λhe W b hW aJ hk=>by
    refine(Fm (W0.heap.size+2) b (w.heap.size+1) n t W hk (by omega) (Nd.sp he) ht ((hW.block _ (by omega)).trans hc1)).mono ?_;rintro e w' ⟨rfl,hs,hh⟩;exact⟨rfl,hs.mono (λk hk=>.inl (by omega)),λh=>⟨hh.out h,trivial⟩⟩
   ) (λ_ _ _ _=>trivial) (λ_ hk=>hk.elim)
 obtain⟨nm,ct,ms,rs,sv,gw,⟨px,py,pz,ph,pq⟩,wh⟩:=n;obtain⟨⟨em,cm,rfl,_,_⟩,⟨qL,cr,rfl,_,_⟩,⟨es,qM,rfl,_,_⟩,⟨qN,cg,rfl,_,_⟩,⟨eh,ch,rfl,_,_⟩,_,_⟩:=h;simp only[dt] at lR ⊢;generalize ms.length=km at *;generalize rs.length=kr at *;generalize sv.length=ks at *;generalize gw.length=kg at *;generalize wh.length=kh at *;generalize Nd.e ⟨nm,ct,ms,rs,sv,gw,⟨px,py,pz,ph,pq⟩,wh⟩=ne at *;generalize sn ⟨nm,ct,ms,rs,sv,gw,⟨px,py,pz,ph,pq⟩,wh⟩ t 2 3=er at *;generalize zA ⟨nm,ct,ms,rs,sv,gw,⟨px,py,pz,ph,pq⟩,wh⟩ t 3=n' at *;obtain⟨W0,bJ,bM,eE,vz,hc1,dh⟩:=oe w #[Y nm,Y ct,J em km cm,J qL kr cr,J es ks qM,J qN kg cg,U O px,U O py,U O pz,U O ph,U O pq,J eh kh ch] #[Y t] #[Y ⟨#[]⟩,Y ⟨#[]⟩,J be 0 0,J be 0 0,J be 0 0,J be 0 0,U O 0,U O 0,U O 0,U O 0,U O 0,J be 0 0] 42 9 42;have rz:=lR.out W0 bM eE hc1;have da:Hid _:=bM;have nI:Hid _:=dh;clear bM eE vz hc1 dh lR;go_enter Tryz.func87,Tryz.ntmps87;go_wp2_with fail;rw[<- bJ];refine rz.mono ?_;intro e w1 h;obtain⟨cZ,u0,u1,b2,m2,e2,b3,m3,e3,b4,m4,e4,b5,m5,e5,u6,u7,u8,u9,u10,b11,m11,e11,r1,rfl,HR⟩:=h.wrap da.out nI.out (by omega);obtain⟨q0,q1,q2,q3,q4,q5,q6,q7,q8,q9,q10,q11⟩:=bA cZ;obtain⟨vK,vL,xc,xd,xe,xf,CV,CW,CX,CY,pG,pH⟩:=jT cZ;clear h cZ rz bJ da nI;simp only[aC,IC,Jh] at HR;go_wp2_with fail;exact IK (v:=Ik #[Ij #[Y u0,Y u1,J b2 m2 e2,J b3 m3 e3,J b4 m4 e4,J b5 m5 e5,U O u6,U O u7,U O u8,U O u9,U O u10,J b11 m11 e11],U O r1]) (by simp[results,Tryz.results87,go_sem,q0,q1,q2,q3,q4,q5,q6,q7,q8,q9,q10,q11]) rfl HR.out
def Nc(n:Nd):Mem:={ eV n.ms n.name with state:=4,aI:=(eV n.ms n.name).aI+1 }
def Dq(n:Nd):Int:=if(eV n.ms n.name).state=4 then 4 else if(eV n.ms n.name).aI=1000000 then 3 else mm n (Nc n)
def Gp(n:Nd):Nd:=mA n (Nc n)
theorem B6(L b:Nat)(n:Nd)(w:World)(h:Wk L w b n)(hL:L<=b)(hJ:bj n.ms=0)(oN:dW n.rs=0)(hl:bb n.name=true)(hfd:(cI n.ms n.name).isSome=true) :
 Calls AS 146 #[Ie (AI ⟨b,0,be⟩)] w λe w'=>e=By (U O (Dq n))/\Sh (λk=>k=b) w w'/\Hid (Dq n=0->Wk L w' b (Gp n)):=by
 have pN:Hid (Wk L w b n):=h;have aN:=h.lt;obtain⟨vm,vr,vs,vg,vw,h1,h2,h3,h4⟩:=h;have ml:Hid _:=h2.is h4;obtain⟨am,cm,nJ,_⟩:=aA h2.ms;subst nJ;have D5:Hid (Calls AS 67 #[Ie (AI ⟨b,0,be⟩),Y n.name] w λe w'=>e=By (Ik #[Ij #[Y (eV n.ms n.name).name,U O (eV n.ms n.name).state,U O (eV n.ms n.name).aI,U O (eV n.ms n.name).addr,Ia (eV n.ms n.name).server],Ia (cI n.ms n.name).isSome])/\Below w.heap.size w w'):=
  iP b am n.ms.length cm n.ms n.name w (ae h1 2) ml.out.ms (by have:=(af hJ).1;omega)
 obtain⟨g1,g2⟩:=nA hfd;have he:=(kE _).1 (lK hJ _ g1);have WT:Hid (1<=(eV n.ms n.name).aI/\(eV n.ms n.name).aI<=1000000):=by
  have h5:=he.2.2.1;simp[within] at h5;exact h5
 have AA:Hid ((eV n.ms n.name).aI≠1000000->∀W,Below w.heap.size w W->Calls AS 63 #[Ie (AI ⟨b,0,be⟩),Ij #[Y (eV n.ms n.name).name,U O 4,U O ((eV n.ms n.name).aI+1),U O (eV n.ms n.name).addr,Ia (eV n.ms n.name).server]] W λe w'=>e=By (U O (mm n (Nc n)))/\Sh (λk=>k=b) W w'/\Hid (mm n (Nc n)=0->Wk L w' b (Gp n))):=λaM W hW=>by
  have h6:=WT.out;have h7:within ((eV n.ms n.name).aI+1) 1 1000000=true:=by
   simp only[within,IM,decide_eq_true_eq];omega
  exact oD L b n (Nc n) W (pN.out.below hW) hL hJ oN hl ((kE _).2 ⟨he.1,(by decide:within 4 1 4=true),h7,he.2.2.2⟩) (show(eV n.ms n.name).name.size<=Il from h4.ms _ g1)
 have y0:=ae h1 0;have HE:Hid (Dq n=if(eV n.ms n.name).state=4 then 4 else if(eV n.ms n.name).aI=1000000 then 3 else mm n (Nc n)):=rfl;generalize Dq n=res at *;generalize mm n (Nc n)=se at *;generalize Gp n=ln at *;clear h1 h2 h3 h4 hJ oN g1 g2 he hfd;generalize(cI n.ms n.name).isSome=fd at *;generalize GA:eV n.ms n.name=m at *;clear GA;obtain⟨mn,st,lf,ad,sv⟩:=m;simp only at D5 AA HE WT;go_enter Tryz.func146,Tryz.ntmps146;go_wp2_with fail;refine D5.out.mono ?_;rintro e w1 ⟨rfl,aB⟩;obtain⟨W2,bF⟩:∃W2,W2=w1.alloc (AT #[Y mn,U O st,U O lf,U O ad,Ia sv] 50):=⟨_,rfl⟩;have aJ:Below w.heap.size w W2:=by rw[bF];exact aB.alloc aB.size _
 have dQ:W2.heap[w1.heap.size]?=AI (AT #[Y mn,U O st,U O lf,U O ad,Ia sv] 50 (0,0)):=by rw[bF];exact Ih w1 _
 have bp:Hid _:=aJ;have fg:=aB.size;have x1:=ae dQ 1;have x2:=ae dQ 2;have zf:=an dQ 1;have zg:=an dQ 2;go_upto_region 2 with fail
 rw[<- bF];clear bF aB aJ D5 y0;by_cases oM:st=4
 .have HR:Hid _:=HE.out.trans (if_pos oM)
  subst oM;clear HE;go_wp2_with fail;go_ret;exact⟨ai HR.out.symm,Sh.of bp.out,λh=>by have:=HR.out.symm.trans h;cases this⟩
 have ado:(st==4)=false:=by simpa using oM
 by_cases M8:lf=1000000
 .have HR:Hid _:=HE.out.trans ((if_neg oM).trans (if_pos M8))
  subst M8;clear HE oM;go_wp2_with fail;go_ret;exact⟨ai HR.out.symm,Sh.of bp.out,λh=>by have:=HR.out.symm.trans h;cases this⟩
 have HR:Hid _:=HE.out.trans ((if_neg oM).trans (if_neg M8));have alc:(lf==1000000)=false:=by simpa using M8
 have H8:=λW hW=>AA.out M8 W hW;have mj:=WT.out.1;have rh:=WT.out.2;clear HE oM M8 AA WT;obtain⟨W3,ea⟩:∃W3,W3=(W2.setCell ⟨w1.heap.size,1,be⟩ (U O 4)).setCell ⟨w1.heap.size,2,be⟩ (U O (lf+1)):=⟨_,rfl⟩;have cj:Hid (Below w.heap.size w W3):=by rw[ea];exact(bp.out.setCell (p:=⟨w1.heap.size,1,be⟩) fg _).setCell (p:=⟨w1.heap.size,2,be⟩) fg _
 have ji:W3.heap[w1.heap.size]?=AI (AT #[Y mn,U O 4,U O (lf+1),U O ad,Ia sv] 50 (0,0)):=by rw[ea];exact IB (i:=2) (IB (i:=1) dQ _) _
 obtain⟨v0,v1,v2,v3,v4⟩:=jd ji;have Sm:Hid (Calls _ _ _ _ _):=H8 W3 cj.out;clear H8 ji dQ;go_upto_region 8 with fail
 rw[<- ea];clear ea x1 x2 zf zg;go_wp2_with fail;refine Sm.out.mono ?_;rintro e w5 ⟨rfl,Hl,AP⟩;have HS5:Hid _:=(Sh.of cj.out).trans Hl;clear Hl;go_wp2_with fail;go_ret;exact⟨ai HR.out.symm,HS5.out,λh=>AP.out (HR.out.symm.trans h)⟩
theorem B7(L b:Nat)(n:Nd)(w:World)(h:Wk L w b n)(hL:L<=b)(he:n.e=0) :
 Calls AS 145 #[Ie (AI ⟨b,0,be⟩)] w λe w'=>e=By (U O (Dq n))/\Sh (λk=>k=b) w w'/\Hid (Dq n=0->Wk L w' b (Gp n)):=by
 have hp:=Nd.parts (Nd.aU he).1;obtain⟨me,LM,_⟩:=Nd.ko (Nd.aU he).2;have HC:Hid (Calls _ _ _ _ _):=B6 L b n w h hL hp.ms hp.rs hp.name (by rw[LM];rfl);clear h hp LM he;generalize Dq n=we at *;generalize Gp n=ln at *;go_enter Tryz.func145,Tryz.ntmps145;go_wp2_with fail;refine HC.out.mono ?_;rintro e w1 ⟨rfl,hs,hk⟩;have HS:Hid _:=hs;clear hs;go_wp2_with fail;go_ret;exact⟨rfl,HS.out,hk⟩
theorem Fo(n:Nd) (vm vr vs vg vw:Value)(w:World)(h:eS w n vm vr vs vg vw)  :
 Calls AS 89 #[Ij (dt n vm vr vs vg vw)] w λe w'=>dz n.e (Dq n) (Gp n) w e w':=by
 have ml:Hid _:=h;obtain⟨W0,bJ⟩:∃W0,W0=w.heap.size:=⟨_,rfl⟩;clear bJ W0;have lR:Hid (∀W0,Below w.heap.size w W0->W0.heap.size=w.heap.size+2->Calls AS 29 #[Ij (dt n vm vr vs vg vw),IQ (.func 145) #[] #[]] W0 λe w'=>fu n.e (Dq n) (Gp n) (λ_=>False) (λ_=>True) W0 e w'):=λW0 hb hs  =>
  iV 145 #[] (Jk Tryz.func145 (by kernel_rfl) rfl) n vm vr vs vg vw W0 (h.below hb) (λ_=>False) (Dq n) (Gp n) (λ_=>True)
   (λhe W b hW aJ hk=>by
    refine(B7 (W0.heap.size+2) b n W hk (by omega) he).mono ?_;rintro e w' ⟨rfl,hs,hh⟩;exact⟨rfl,hs.mono (λk hk=>.inl (by omega)),λh=>⟨hh.out h,trivial⟩⟩
   ) (λ_ _ _ _=>trivial) (λ_ hk=>hk.elim)
 obtain⟨nm,ct,ms,rs,sv,gw,⟨px,py,pz,ph,pq⟩,wh⟩:=n;obtain⟨⟨em,cm,rfl,_,_⟩,⟨qL,cr,rfl,_,_⟩,⟨es,qM,rfl,_,_⟩,⟨qN,cg,rfl,_,_⟩,⟨eh,ch,rfl,_,_⟩,_,_⟩:=h;simp only[dt] at lR ⊢;generalize ms.length=km at *;generalize rs.length=kr at *;generalize sv.length=ks at *;generalize gw.length=kg at *;generalize wh.length=kh at *;generalize Nd.e ⟨nm,ct,ms,rs,sv,gw,⟨px,py,pz,ph,pq⟩,wh⟩=ne at *;generalize Dq ⟨nm,ct,ms,rs,sv,gw,⟨px,py,pz,ph,pq⟩,wh⟩=er at *;generalize Gp ⟨nm,ct,ms,rs,sv,gw,⟨px,py,pz,ph,pq⟩,wh⟩=n' at *;obtain⟨W0,bJ,bM,eE,vz,dh⟩:=GM w #[Y nm,Y ct,J em km cm,J qL kr cr,J es ks qM,J qN kg cg,U O px,U O py,U O pz,U O ph,U O pq,J eh kh ch] #[Y ⟨#[]⟩,Y ⟨#[]⟩,J be 0 0,J be 0 0,J be 0 0,J be 0 0,U O 0,U O 0,U O 0,U O 0,U O 0,J be 0 0] 42 42;have rz:=lR.out W0 bM eE;have da:Hid _:=bM;have nI:Hid _:=dh;clear bM eE vz  dh lR;go_enter Tryz.func89,Tryz.ntmps89;go_wp2_with fail;rw[<- bJ];refine rz.mono ?_;intro e w1 h;obtain⟨cZ,u0,u1,b2,m2,e2,b3,m3,e3,b4,m4,e4,b5,m5,e5,u6,u7,u8,u9,u10,b11,m11,e11,r1,rfl,HR⟩:=h.wrap da.out nI.out (by omega);obtain⟨q0,q1,q2,q3,q4,q5,q6,q7,q8,q9,q10,q11⟩:=bA cZ;obtain⟨vK,vL,xc,xd,xe,xf,CV,CW,CX,CY,pG,pH⟩:=jT cZ;clear h cZ rz bJ da nI;simp only[aC,IC,Jh] at HR;go_wp2_with fail;exact IK (v:=Ik #[Ij #[Y u0,Y u1,J b2 m2 e2,J b3 m3 e3,J b4 m4 e4,J b5 m5 e5,U O u6,U O u7,U O u8,U O u9,U O u10,J b11 m11 e11],U O r1]) (by simp[results,Tryz.results89,go_sem,q0,q1,q2,q3,q4,q5,q6,q7,q8,q9,q10,q11]) rfl HR.out
section
variable {α:Type} (o:α→α→Int) (nw:α→α→Bool) (d:α)
theorem xQ(hk:RL.Keyed o):∀{ms:List α},RL.bn o ms->∀s∈ms,RL.get o ms s=AI s
 |[],_,s,h=>by cases h
 |x::r,hr,s,h=>by
  rcases List.mem_cons.1 h with rfl|h
  .exact RL.cA o s r (hk.refl s)
  .have h1:=RL.np o hk hr s h
   rw[RL.dv o x r (λe=>h1 (hk.symm e))];exact xQ hk (List.pairwise_cons.1 hr).2 s h
theorem KQ(hk:RL.Keyed o){ms:List α}(hr:RL.bn o ms){s r:α}(h:RL.get o ms s=AI r):∃p,RL.At o d ms s p true/\ms.getD p d=r:=by
 obtain⟨p,hp,he⟩:=List.getElem_of_mem (RL.get_mem o h);have hg:ms.getD p d=r:=by rw[RL.j9 d hp,he]
 exact⟨p,RL.yB o d hk hr hp (by rw[hg];exact RL.L0 o h),hg⟩
theorem Nf(hn:RL.qj o nw){a b:α}(h:nw a b=true):nw b a=false:=by
 rcases hb:nw b a with _|_
 .rfl
 .have:=hn.trans a b a h hb
  rw[hn.irrefl] at this;cases this
def T0(a b:List α):Prop:=∀s∈a,∃p,RL.At o d b s p true/\nw s (b.getD p d)=false
theorem iX(hk:RL.Keyed o)(hn:RL.qj o nw){a:List α}(ha:RL.bn o a):T0 o nw d a a:=λs hs=>by
 obtain⟨p,h1,h2⟩:=KQ o d hk ha (xQ o hk ha s hs);exact⟨p,h1,by rw[h2];exact hn.irrefl s⟩
theorem pV(hk:RL.Keyed o)(hn:RL.qj o nw){a b:List α}(ha:RL.bn o a)(hb:RL.bn o b):T0 o nw d a (RL.join o nw a b):=λs hs=>by
 have hg:=RL.get_join o nw hk b a ha hb s;rw[xQ o hk ha s hs] at hg;have hr:=RL.kM o nw hk b a ha;rcases hy:RL.get o b s with _|y
 .rw[hy] at hg
  obtain⟨p,h1,h2⟩:=KQ o d hk hr (hg.trans (show RL.comb nw (AI s) be=AI s from rfl));exact⟨p,h1,by rw[h2];exact hn.irrefl s⟩
 .rw[hy] at hg
  obtain⟨p,h1,h2⟩:=KQ o d hk hr (hg.trans (show RL.comb nw (AI s) (AI y)=AI (RL.mx nw s y) from rfl));refine⟨p,h1,?_⟩;rw[h2];unfold RL.mx;split
  .rename_i h;exact Nf o nw hn h
  .exact hn.irrefl s
end
theorem pW{ms:List Mem}(hr:bn ms){m:Mem}(h:m∈ms):cI ms m.name=AI m:=by
 obtain⟨k,hk,rfl⟩:=List.getElem_of_mem h;have e:∀j (h:j<ms.length),ms.getD j dm=ms[j]:=λj h=>by simp[List.getD,List.getElem?_eq_getElem h]
 have h2:=ny (ms:=ms) (t:=ms[k].name) hk (λj hj hn=>by
  have hp:=List.pairwise_iff_getElem.1 hr j k (by omega) hk hj;rw[e j (by omega)] at hn;rw[hn,gp] at hp;cases hp) (by rw[e k hk])
 rw[e k hk] at h2;exact h2
structure fP(a b:Nd):Prop where
 ms:∀m∈a.ms,∃k,cI b.ms m.name=AI k/\eB m k=false
 sv:T0 Sv.ord Sv.bP Sv.dm a.sv b.sv
 gw:T0 Gw.ord Gw.bP Gw.dm a.gw b.gw
theorem pX{a b:Nd}(h:a.nP)(hl:Le a.ms b.ms)(hs:b.sv=a.sv)(hg:b.gw=a.gw):fP a b:=by
 refine⟨λm hm=>hl _ _ (pW (af h.ms).2.1 hm),?_,?_⟩
 .rw[hs];exact iX _ _ _ Sv.keyed Sv.iA (Sv.af h.sv).2.1
 .rw[hg];exact iX _ _ _ Gw.keyed Gw.iA (Gw.af h.gw).2.1
theorem zP{n:Nd}{p:Pk}(h0:pR n p=0):p.e=0/\qJ n p.ms=0/\Sv.aE n.sv p.sv=0/\Gw.aE n.gw p.gw=0:=by
 unfold pR at h0;split at h0
 .rename_i h1
  split at h0
  .rename_i h2
   split at h0
   .rename_i h3;exact⟨h1,h2,h3,h0⟩
   .rename_i h3;exact absurd h0 h3
  .rename_i h2;exact absurd h0 h2
 .rename_i h1;exact absurd h0 h1
theorem KR{wh:List Wh.bE}{x y:Wh.bE}(h:y∈uW wh x):y∈wh\/y=x:=by
 unfold uW at h;split at h
 .exact .inl h
 .rcases Wh.ec wh x y h with h|h
  .exact .inr h
  .exact .inl h
theorem Dr:∀(l wh:List Wh.bE) (y:Wh.bE),y∈Bs wh l->y∈wh\/y∈l
 |[],_,y,h=>.inl h
 |x::r,wh,y,h=>by
  rcases Dr r (uW wh x) y h with h|h
  .rcases KR h with h|rfl
   .exact .inl h
   .exact .inr (by simp)
  .exact .inr (by simp[h])
theorem WU{n:Nd}{p:Pk}(he:n.e=0)(hk:∀m∈n.wh,m.ok)(jz:∀m∈p.wh,m.ok)(h0:pR n p=0):(rQ n p).e=0:=by
 obtain⟨h1,h2,h3,h4⟩:=zP h0;have hp:=Nd.parts (Nd.aU he).1;obtain⟨pm,_,pw,oP,oQ⟩:=zB h1;have hN:=PC p.ms n he pm h2;have hq:=Nd.parts (Nd.aU hN).1;rw[Sv.ik hp.sv oP] at h3;rw[Gw.ik hp.gw oQ] at h4;have l3:(Sv.av n.sv p.sv).length<=40:=by
  split at h3
  .cases h3
  .omega
 have l4:(Gw.av n.gw p.gw).length<=6:=by
  split at h4
  .cases h4
  .omega
 have hf:=zq (Wh.tM hp.wh hk) jz;refine Nd.Sq (Nd.nP.pe ⟨hq.name,hq.aD,hq.ms,hq.rs,?_,?_,hq.p,?_⟩) (Nd.aU hN).2
 .refine Sv.jV l3 (Sv.dE p.sv n.sv (Sv.af hp.sv).2.1) (λm hm=>?_)
  rcases Sv.dS p.sv n.sv m hm with h|h
  .exact Sv.bc _ (Sv.af hp.sv).2.2 m h
  .exact Sv.bc _ (Sv.af oP).2.2 m h
 .refine Gw.jV l4 (Gw.dE p.gw n.gw (Gw.af hp.gw).2.1) (λm hm=>?_)
  rcases Gw.dS p.gw n.gw m hm with h|h
  .exact Gw.bc _ (Gw.af hp.gw).2.2 m h
  .exact Gw.bc _ (Gw.af oQ).2.2 m h
 .refine Wh.jV hf.len hf.Eh (λm hm=>?_)
  rcases Dr p.wh n.wh m hm with h|h
  .exact Wh.bc _ (Wh.af hp.wh).2.2 m h
  .exact Wh.bc _ (Wh.af pw).2.2 m h
theorem xR{n:Nd}{p:Pk}(he:n.e=0)(h0:pR n p=0):fP n (rQ n p):=by
 obtain⟨h1,h2,h3,h4⟩:=zP h0;have hp:=Nd.parts (Nd.aU he).1;obtain⟨pm,_,pw,oP,oQ⟩:=zB h1;refine⟨λm hm=>PD p.ms n ⟨hp.ms,hp.rs,hp.name⟩ pm h2 _ _ (pW (af hp.ms).2.1 hm),?_,?_⟩
 .exact pV _ _ _ Sv.keyed Sv.iA (Sv.af hp.sv).2.1 (Sv.af oP).2.1
 .exact pV _ _ _ Gw.keyed Gw.iA (Gw.af hp.gw).2.1 (Gw.af oQ).2.1
theorem Ds{n:Nd}{t:ByteArray}{a b:Int}(he:n.e=0)(hb:within b 1 4=true)(h0:sn n t a b=0):(zA n t b).e=0/\fP n (zA n t b):=by
 have hp:=Nd.parts (Nd.aU he).1;unfold sn at h0;split at h0
 .split at h0
  .split at h0
   .cases h0
   .split at h0
    .rename_i hs _ _
     obtain⟨g1,g2⟩:=nA hs;have hx:=(kE _).1 (lK hp.ms _ g1);have hm:=(kE { eV n.ms t with state:=b }).2 ⟨hx.1,hb,hx.2.2.1,hx.2.2.2⟩;have hr:=fT n { eV n.ms t with state:=b };exact⟨Kg he hm h0,pX hp (Ke ⟨hp.ms,hp.rs,hp.name⟩ hm (xx h0)) hr.sv hr.gw⟩
    .cases h0
  .cases h0
 .cases h0
theorem Dt{n:Nd}(he:n.e=0)(h0:Dq n=0):(Gp n).e=0/\fP n (Gp n):=by
 have hp:=Nd.parts (Nd.aU he).1;obtain⟨me,LM,_⟩:=Nd.ko (Nd.aU he).2;unfold Dq at h0;split at h0
 .cases h0
 .split at h0
  .cases h0
  .rename_i _ hl
   obtain⟨g1,g2⟩:=nA (ms:=n.ms) (t:=n.name) (by rw[LM];rfl);have hx:=(kE _).1 (lK hp.ms _ g1);have h5:=hx.2.2.1;simp only[within,IM,decide_eq_true_eq] at h5;have hm:(Nc n).e=0:=(kE _).2 ⟨hx.1,(by decide:within 4 1 4=true),by
    simp only[within,IM,decide_eq_true_eq];show 1<=(eV n.ms n.name).aI+1/\(eV n.ms n.name).aI+1<=1000000;omega,hx.2.2.2⟩
   have hr:=fT n (Nc n);exact⟨Kg he hm h0,pX hp (Ke ⟨hp.ms,hp.rs,hp.name⟩ hm (xx h0)) hr.sv hr.gw⟩
def KS(t:ByteArray)(p:Pl):Wh.bE:=⟨t,p.x,p.y,p.z,p.h,p.s⟩
def B8(n:Nd)(t:ByteArray)(p:Pl)(r:Int):Int:=if bb t=true then(if dZ p=0 then(if t=n.name then 6 else if mY r 1 5000000=true then PE n.wh (KS t p) else 3) else 3) else 1
def Gq(n:Nd)(t:ByteArray)(p:Pl)(r:Int):Nd:={ n with p:=kX n.p p r,wh:=Wh.aP n.wh (KS t p) }
theorem Fp(a b:Pl)(r:Int)(ha:dZ a=0)(hb:dZ b=0):∃(q:Pl),(mY r 1 5000000=true->q=kX a b r)/\∀W,Calls AS 200 #[Ij #[U O a.x,U O a.y,U O a.z,U O a.h,U O a.s],Ij #[U O b.x,U O b.y,U O b.z,U O b.h,U O b.s],U O r] W λe w'=>e=By (Ik #[Ij #[U O q.x,U O q.y,U O q.z,U O q.h,U O q.s],U O (if mY r 1 5000000=true then 0 else 3)])/\Below W.heap.size W w':=by
 have ha':=(nB a).1 ha;have wG:=(nB b).1 hb;rcases hr:mY r 1 5000000 with _|_
 .exact⟨⟨0,0,0,0,0⟩,(λh=>by cases h),λW=>B3 a b r W ((wi a b).2 ⟨ha',wG⟩) hr⟩
 .exact⟨kX a b r,λ_=>rfl,λW=>Ff a b r W ha' wG hr⟩
theorem Ng{b:Nat}{a w:World}(h:Sh (λk=>k=b) a w)(i0 i1 i2 i3 i4:Nat)(v0 v1 v2 v3 v4:Value):Sh (λk=>k=b) a (((((w.setCell ⟨b,i0,be⟩ v0).setCell ⟨b,i1,be⟩ v1).setCell ⟨b,i2,be⟩ v2).setCell ⟨b,i3,be⟩ v3).setCell ⟨b,i4,be⟩ v4):=
 ((((h.setCell (S:=λk=>k=b) rfl _).setCell (S:=λk=>k=b) rfl _).setCell (S:=λk=>k=b) rfl _).setCell (S:=λk=>k=b) rfl _).setCell (S:=λk=>k=b) rfl _
theorem Ca(L b:Nat)(n:Nd)(t:ByteArray)(p:Pl)(r:Int)(w:World)(h:Wk L w b n)(hL:L<=b)(hf:Wh.oB n.wh)(GZ:dZ n.p=0)(ht:t.size<=Il) :
 Calls AS 148 #[Ie (AI ⟨b,0,be⟩),Y t,Ij #[U O p.x,U O p.y,U O p.z,U O p.h,U O p.s],U O r] w λe w'=>e=By (U O (B8 n t p r))/\Sh (λk=>k=b) w w'/\Hid (B8 n t p r=0->Wk L w' b (Gq n t p r)):=by
 have pN:Hid (Wk L w b n):=h;have aN:=h.lt;obtain⟨vm,vr,vs,vg,vw,h1,h2,h3,h4⟩:=h;have HX:Hid (∀W,Below w.heap.size w W->(W.heap[w.heap.size]?=AI (AT #[U O p.x,U O p.y,U O p.z,U O p.h,U O p.s] 39 (0,0)))->W.heap[b]?=AI (AT (dt n vm vr vs vg vw) 90 (0,0))/\W.heap[w.heap.size]?=AI (AT #[U O p.x,U O p.y,U O p.z,U O p.h,U O p.s] 39 (0,0))):=λW hW hp=>⟨(hW.block _ aN).trans h1,hp⟩;have nN:Hid (∀W,Calls AS 101 #[Ij #[U O p.x,U O p.y,U O p.z,U O p.h,U O p.s]] W λe w'=>e=By (U O (dZ p))/\Below W.heap.size W w'):=λW=>lJ p W;have HMV:Hid (dZ p=0->∃(q:Pl),(mY r 1 5000000=true->q=kX n.p p r)/\∀W,Calls AS 200 #[Ij #[U O n.p.x,U O n.p.y,U O n.p.z,U O n.p.h,U O n.p.s],Ij #[U O p.x,U O p.y,U O p.z,U O p.h,U O p.s],U O r] W λe w'=>e=By (Ik #[Ij #[U O q.x,U O q.y,U O q.z,U O q.h,U O q.s],U O (if mY r 1 5000000=true then 0 else 3)])/\Below W.heap.size W w'):=λh=>Fp n.p p r GZ h;have MM:Hid (∀(q:Pl) W,Below w.heap.size w W->Wk L (((((W.setCell ⟨b,6,be⟩ (U O q.x)).setCell ⟨b,7,be⟩ (U O q.y)).setCell ⟨b,8,be⟩ (U O q.z)).setCell ⟨b,9,be⟩ (U O q.h)).setCell ⟨b,10,be⟩ (U O q.s)) b { n with p:=q }):=λq W hW=>(pN.out.below hW).VU q;have SQ:Hid (∀(q:Pl) W,Wk L W b { n with p:=q }->Calls AS 201 #[Ie (AI ⟨b,0,be⟩),Ij #[Y t,U O p.x,U O p.y,U O p.z,U O p.h,U O p.s]] W λe w'=>e=By (U O (PE n.wh (KS t p)))/\Sh (λk=>k=b) W w'/\Hid (Wk L w' b { n with p:=q,wh:=Wh.aP n.wh (KS t p) })):=λq W hk=>En L b { n with p:=q } (KS t p) W hk hL hf ht;have HE:Hid (B8 n t p r=if bb t=true then(if dZ p=0 then(if t=n.name then 6 else if mY r 1 5000000=true then PE n.wh (KS t p) else 3) else 3) else 1):=rfl;have WV:Hid (Gq n t p r={ n with p:=kX n.p p r,wh:=Wh.aP n.wh (KS t p) }):=rfl;have HCO:=Du p;generalize B8 n t p r=res at *;generalize Gq n t p r=TN at *;generalize PE n.wh (KS t p)=nte at *;obtain⟨px,py,pz,ph,ps⟩:=p;simp only at HX nN HMV SQ;clear h2 h3 h4 hf GZ;obtain⟨W1,cM,aB,-,cK⟩:=bW w #[U O px,U O py,U O pz,U O ph,U O ps] 39;have aV:Hid (Below w.heap.size w W1):=aB;have uS:Hid _:=cK;have fg:W1.heap.size=w.heap.size+1:=by rw[cM];simp
 have tv:Hid (W1.heap.size=w.heap.size+1):=fg;obtain⟨c0,c1,c2,c3,c4⟩:=jd cK;clear aB cK fg h1;have T1:Hid (∀W,Calls AS 53 #[Y t] W λe w'=>e=By (Ia (bb t))/\w'=W):=λW=>bR t W ht;go_enter Tryz.func148,Tryz.ntmps148;go_upto_region 1 with fail
 rw[<- cM];clear cM;rcases hlab:bb t with _|_
 .have HR:Hid (res=1):=HE.out.trans (by rw[hlab];rfl)
  rw[hlab] at T1;clear HE;go_wp2_with (first|(go_at_call 53;refine(T1.out _).mono ?_;rintro e w' ⟨rfl,Px⟩;have Gl:=Px.symm;subst Gl)|fail);go_ret;exact⟨ai HR.out.symm,Sh.of aV.out,λh=>by rw[HR.out] at h;cases h⟩
 rw[hlab] at T1;go_wp2_with (first|(go_at_call 53;refine(T1.out _).mono ?_;rintro e w' ⟨rfl,Px⟩;have Gl:=Px.symm;subst Gl)|fail);refine(nN.out W1).mono ?_;rintro e w2 ⟨rfl,aJ⟩;have bp:Hid (Below w.heap.size w w2):=aV.out.trans (aJ.mono aV.out.size);have dQ:w2.heap[w.heap.size]?=AI (AT #[U O px,U O py,U O pz,U O ph,U O ps] 39 (0,0)):=(aJ.block _ (by have:=tv.out;omega)).trans uS.out;clear c0 c1 c2 c3 c4 aJ;rcases HCO with BH|BH;rotate_left
 .have HR:Hid (res=3):=HE.out.trans (by rw[hlab,BH];rfl)
  rw[BH];clear HE BH dQ;go_wp2_with fail;go_ret;exact⟨ai HR.out.symm,Sh.of bp.out,λh=>by rw[HR.out] at h;cases h⟩
 have kz:Hid (res=if t=n.name then 6 else if mY r 1 5000000=true then nte else 3):=HE.out.trans (by rw[hlab,BH];rfl);obtain⟨⟨mx,my,mz,mh,Nh⟩,vh,hmv⟩:=HMV.out BH;rw[BH];clear HE BH HMV;have HTN:Hid (mY r 1 5000000=true->TN={ n with p:=⟨mx,my,mz,mh,Nh⟩,wh:=Wh.aP n.wh (KS t ⟨px,py,pz,ph,ps⟩) }):=λh=>by rw[WV.out,vh h]
 have AA:=λW hW=>MM.out ⟨mx,my,mz,mh,Nh⟩ W hW;have T2:=λW hk=>SQ.out ⟨mx,my,mz,mh,Nh⟩ W hk;have HMC:Hid _:=hmv;clear WV MM SQ vh hmv;simp only at AA T2;obtain⟨T3,nct,VI,VJ,VK,VL,⟨ax,ay,az,ah,AB⟩,VM⟩:=n;simp only[dt] at HX;simp only at kz HMC HTN AA T2;have WW:Hid _:=AA;have WX:Hid _:=T2;clear AA T2;have AA:=WW;have T2:=WX;clear WW WX;generalize(⟨T3,nct,VI,VJ,VK,VL,⟨mx,my,mz,mh,Nh⟩,VM⟩:Nd)=NN at *;obtain⟨xS,_⟩:=HX.out w2 bp.out dQ;have wK:Hid _:=dQ;have HPB:Hid (∀W,Below w2.heap.size w2 W->W.heap[w.heap.size]?=AI (AT #[U O px,U O py,U O pz,U O ph,U O ps] 39 (0,0))):=λW hW=>(hW.block _ (BY.1 wK.out).1).trans wK.out;have y0:w2.cell? ⟨b,0,be⟩=AI (Y T3):=ae xS 0;obtain⟨c0,c1,c2,c3,c4⟩:=jd dQ;have d0:w2.cell? ⟨b,6,be⟩=AI (U O ax):=ae xS 6;have d1:w2.cell? ⟨b,7,be⟩=AI (U O ay):=ae xS 7;have d2:w2.cell? ⟨b,8,be⟩=AI (U O az):=ae xS 8;have d3:w2.cell? ⟨b,9,be⟩=AI (U O ah):=ae xS 9;have d4:w2.cell? ⟨b,10,be⟩=AI (U O AB):=ae xS 10;have aJ:b<w2.heap.size:=by have:=bp.out.size;omega
 have tn:w.heap.size<w2.heap.size:=(BY.1 dQ).1;clear dQ xS;by_cases cV:t=T3
 .have HR:Hid (res=6):=kz.out.trans (if_pos cV)
  have hq:(t.toList==T3.toList)=true:=by rw[cV];simp
  have TR:t.toList=T3.toList:=by rw[cV]
  clear kz cV;go_wp2_with fail;go_ret;exact⟨ai HR.out.symm,Sh.of bp.out,λh=>by rw[HR.out] at h;cases h⟩
 have hq:(t.toList==T3.toList)=false:=by rw[jA,decide_eq_false cV]
 have Dd:Hid (res=if mY r 1 5000000=true then nte else 3):=kz.out.trans (if_neg cV);clear kz cV;generalize mY r 1 5000000=bt at *;have HBT:Hid ((bt=true->res=nte)/\(bt=false->res=3)):=⟨λh=>by rw[Dd.out,h];rfl,λh=>by rw[Dd.out,h];rfl⟩;clear Dd;obtain⟨mE,hmE⟩:∃mE:Int,mE=if bt=true then 0 else 3:=⟨_,rfl⟩;rw[<- hmE] at HMC;have MN:Hid (mE=if bt=true then 0 else 3):=hmE;clear hmE;go_upto_region 8 with fail
 go_region_with (first|(go_at_call 200;refine(HMC.out _).mono ?_;rintro e w3 ⟨rfl,bV⟩;first
  |(have cj:Hid (Below w2.heap.size w2 w3):=(Ib w2.heap.size w2).drew.trans bV;clear bV)
  |(have cj:Hid (Below w2.heap.size w2 w3):=by
     first
     |exact(((Ib w2.heap.size w2).alloc (Ic _) _).drew).trans (bV.mono (by simp))
     |exact(((Ib w2.heap.size w2).drew).alloc (Ic _) _).trans (bV.mono (by simp))
    have qi:w3.heap[w2.heap.size]?=AI (AT #[U O 0,U O 0,U O 0,U O 0,U O 0] 39 (0,0)):=(bV.block _ (by simp)).trans (Ih w2 _);obtain⟨f0,f1,f2,f3,f4⟩:=jd qi;obtain⟨g0,g1,g2,g3,g4⟩:=acP qi;clear bV)))
 all_goals
  first
  |(obtain⟨V,hV⟩:∃V,V=w3.alloc (AT #[U O mx,U O my,U O mz,U O mh,U O Nh] 39):=⟨_,rfl⟩
    rw[<- hV];have vh:V.heap[w3.heap.size]?=AI (AT #[U O mx,U O my,U O mz,U O mh,U O Nh] 39 (0,0)):=by rw[hV];exact Ih w3 _
    have nE:Hid (Below w2.heap.size w2 V):=by rw[hV];exact cj.out.alloc cj.out.size _
    clear hV;generalize w3.heap.size=mb at vh ⊢)
  |(obtain⟨V,hV⟩:∃V,V=(((((w3.setCell ⟨w2.heap.size,0,be⟩ (U O mx)).setCell ⟨w2.heap.size,1,be⟩ (U O my)).setCell ⟨w2.heap.size,2,be⟩ (U O mz)).setCell ⟨w2.heap.size,3,be⟩ (U O mh)).setCell ⟨w2.heap.size,4,be⟩ (U O Nh)):=⟨_,rfl⟩
    rw[<- hV];have vh:V.heap[w2.heap.size]?=AI (AT #[U O mx,U O my,U O mz,U O mh,U O Nh] 39 (0,0)):=by rw[hV];exact IB (i:=4) (IB (i:=3) (IB (i:=2) (IB (i:=1) (IB (i:=0) qi _) _) _) _) _
    have nE:Hid (Below w2.heap.size w2 V):=by rw[hV];exact((((cj.out.setCell (p:=⟨w2.heap.size,0,be⟩) (Ic _) _).setCell (p:=⟨w2.heap.size,1,be⟩) (Ic _) _).setCell (p:=⟨w2.heap.size,2,be⟩) (Ic _) _).setCell (p:=⟨w2.heap.size,3,be⟩) (Ic _) _).setCell (p:=⟨w2.heap.size,4,be⟩) (Ic _) _
    clear hV f0 f1 f2 f3 f4 g0 g1 g2 g3 g4 qi;generalize w2.heap.size=mb at vh ⊢)
  clear c0 c1 c2 c3 c4 d0 d1 d2 d3 d4 y0 aJ tn;have lM:Hid (Below w.heap.size w V):=bp.out.trans (nE.out.mono bp.out.size);obtain⟨xS,Gx⟩:=HX.out V lM.out (HPB.out V nE.out);obtain⟨c0,c1,c2,c3,c4⟩:=jd Gx;obtain⟨m0,m1,m2,m3,m4⟩:=jd vh;have d0:V.cell? ⟨b,6,be⟩=AI (U O ax):=ae xS 6;have dz0:V.frozen? ⟨b,6,be⟩=false:=an xS 6;have d1:V.cell? ⟨b,7,be⟩=AI (U O ay):=ae xS 7;have dz1:V.frozen? ⟨b,7,be⟩=false:=an xS 7;have d2:V.cell? ⟨b,8,be⟩=AI (U O az):=ae xS 8;have dz2:V.frozen? ⟨b,8,be⟩=false:=an xS 8;have d3:V.cell? ⟨b,9,be⟩=AI (U O ah):=ae xS 9;have dz3:V.frozen? ⟨b,9,be⟩=false:=an xS 9;have d4:V.cell? ⟨b,10,be⟩=AI (U O AB):=ae xS 10;have dz4:V.frozen? ⟨b,10,be⟩=false:=an xS 10;have Ni:b<V.heap.size:=by have:=lM.out.size;omega
  have hwV:w.heap.size<V.heap.size:=(BY.1 Gx).1;have V0:¬ w.heap.size=b:=by omega
  rcases GO:bt with _|_
  .have WY:=HBT.out.2 GO
   have Ar:Hid (res=3):=WY;have hm:mE=3:=MN.out.trans (by rw[GO];rfl);rw[hm];clear hm WY GO;go_wp2_with fail;go_ret;exact⟨ai Ar.out.symm,Sh.of lM.out,λh=>by rw[Ar.out] at h;cases h⟩
  .have hm:mE=0:=MN.out.trans (by rw[GO];rfl)
   have HRE:Hid (res=nte):=HBT.out.1 GO;have HTE:Hid (TN=_):=HTN.out GO;rw[hm];clear hm GO;obtain⟨W9,WZ⟩:∃W9,W9=(((((V.setCell ⟨b,6,be⟩ (U O mx)).setCell ⟨b,7,be⟩ (U O my)).setCell ⟨b,8,be⟩ (U O mz)).setCell ⟨b,9,be⟩ (U O mh)).setCell ⟨b,10,be⟩ (U O Nh)):=⟨_,rfl⟩;have HK9:Hid (Wk L W9 b NN):=by rw[WZ];exact AA.out V lM.out
   have HS9:Hid (Sh (λk=>k=b) w W9):=by rw[WZ];exact Ng (Sh.of lM.out) _ _ _ _ _ _ _ _ _ _
   have hp9:W9.heap[w.heap.size]?=AI (AT #[U O px,U O py,U O pz,U O ph,U O ps] 39 (0,0)):=by
    have e5:∀(W:World) (j:Nat) (v:Value),(W.setCell ⟨b,j,be⟩ v).heap[w.heap.size]?=W.heap[w.heap.size]?:=λW j v=>Below.heap_setCell _ _ _ _ (by simp only;omega);rw[WZ,e5,e5,e5,e5,e5];exact Gx
   go_upto_region 12 with fail
   rw[<- WZ];clear WZ c0 c1 c2 c3 c4 m0 m1 m2 m3 m4 d0 dz0 d1 dz1 d2 dz2 d3 dz3 d4 dz4 xS Gx vh;obtain⟨c0,c1,c2,c3,c4⟩:=jd hp9;go_wp2_with fail;refine(T2.out W9 HK9.out).mono ?_;rintro e w9 ⟨rfl,WA,hk9⟩;have aet:Hid (Sh (λk=>k=b) w w9):=HS9.out.trans WA;clear WA;go_wp2_with fail;go_ret;exact⟨ai HRE.out.symm,aet.out,λ_=>by rw[HTE.out];exact hk9.out⟩
theorem Cb(L b tb:Nat)(n:Nd)(t:ByteArray)(p:Pl)(r:Int)(w:World)(h:Wk L w b n)(hL:L<=b)(hf:Wh.oB n.wh)(GZ:dZ n.p=0)(ht:t.size<=Il)(hc1:w.heap[tb+1]?=AI (AT #[Y t] 9 (0,0)))(Dv:w.heap[tb+2]?=AI (AT #[U O p.x,U O p.y,U O p.z,U O p.h,U O p.s] 39 (0,0)))(Mg:w.heap[tb+3]?=AI (AT #[U O r] 3 (0,0))) :
 Calls AS 147 #[Ie (AI ⟨b,0,be⟩),Ie (AI ⟨tb+1,0,be⟩),Ie (AI ⟨tb+2,0,be⟩),Ie (AI ⟨tb+3,0,be⟩)] w λe w'=>e=By (U O (B8 n t p r))/\Sh (λk=>k=b) w w'/\Hid (B8 n t p r=0->Wk L w' b (Gq n t p r)):=by
 have HC:Hid (Calls AS 148 #[Ie (AI ⟨b,0,be⟩),Y t,Ij #[U O p.x,U O p.y,U O p.z,U O p.h,U O p.s],U O r] w λe w'=>e=By (U O (B8 n t p r))/\Sh (λk=>k=b) w w'/\Hid (B8 n t p r=0->Wk L w' b (Gq n t p r))):=Ca L b n t p r w h hL hf GZ ht;have y0:w.cell? ⟨tb+1,0,be⟩=AI (Y t):=ae hc1 0;have z0:w.cell? ⟨tb+3,0,be⟩=AI (U O r):=ae Mg 0;obtain⟨x0,x1,x2,x3,x4⟩:=jd Dv;clear h hc1 Dv Mg hf GZ;generalize B8 n t p r=we at *;generalize Gq n t p r=wn at *;obtain⟨px,py,pz,ph,ps⟩:=p;simp only at HC x0 x1 x2 x3 x4;go_enter Tryz.func147,Tryz.ntmps147;go_wp2_with fail;refine HC.out.mono ?_;rintro e w1 ⟨rfl,hs,hk⟩;have HS:Hid (Sh (λk=>k=b) w w1):=hs;clear hs;go_wp2_with fail;go_ret;exact⟨rfl,HS.out,hk⟩
theorem Fq(n:Nd)(t:ByteArray)(p:Pl)(r:Int)(vm vr vs vg vw:Value)(w:World)(h:eS w n vm vr vs vg vw)(ht:t.size<=Il) :
 Calls AS 91 #[Ij (dt n vm vr vs vg vw),Y t,Ij #[U O p.x,U O p.y,U O p.z,U O p.h,U O p.s],U O r] w λe w'=>dz n.e (B8 n t p r) (Gq n t p r) w e w':=by
 have ml:Hid (eS w n vm vr vs vg vw):=h;obtain⟨W0,bJ⟩:∃W0,W0=w.heap.size:=⟨_,rfl⟩;clear bJ W0;have lR:Hid (∀W0,Below w.heap.size w W0->W0.heap.size=w.heap.size+5->W0.heap[w.heap.size+1]?=AI (AT #[Y t] 9 (0,0))->W0.heap[w.heap.size+2]?=AI (AT #[U O p.x,U O p.y,U O p.z,U O p.h,U O p.s] 39 (0,0))->W0.heap[w.heap.size+3]?=AI (AT #[U O r] 3 (0,0))->Calls AS 29 #[Ij (dt n vm vr vs vg vw),IQ (.func 147) #[] #[Ie (AI ⟨w.heap.size+1,0,be⟩),Ie (AI ⟨w.heap.size+2,0,be⟩),Ie (AI ⟨w.heap.size+3,0,be⟩)]] W0 λe w'=>fu n.e (B8 n t p r) (Gq n t p r) (λ_=>False) (λ_=>True) W0 e w'):=λW0 hb hs hc1 Dv Mg=>
  iV 147 #[Ie (AI ⟨w.heap.size+1,0,be⟩),Ie (AI ⟨w.heap.size+2,0,be⟩),Ie (AI ⟨w.heap.size+3,0,be⟩)] (Jk Tryz.func147 (by kernel_rfl) rfl) n vm vr vs vg vw W0 (h.below hb) (λ_=>False) (B8 n t p r) (Gq n t p r) (λ_=>True)
   (λhe W b hW aJ hk=>by
    refine(Cb (W0.heap.size+2) b (w.heap.size) n t p r W hk (by omega) (Wh.tM (Nd.parts (Nd.aU he).1).wh h.ok.wh) (Nd.parts (Nd.aU he).1).p ht ((hW.block _ (by omega)).trans hc1) ((hW.block _ (by omega)).trans Dv) ((hW.block _ (by omega)).trans Mg)).mono ?_;rintro e w' ⟨rfl,hs,hh⟩;exact⟨rfl,hs.mono (λk hk=>.inl (by omega)),λh=>⟨hh.out h,trivial⟩⟩
   ) (λ_ _ _ _=>trivial) (λ_ hk=>hk.elim)
 obtain⟨nm,ct,ms,rs,sv,gw,⟨px,py,pz,ph,pq⟩,wh⟩:=n;obtain⟨⟨em,cm,rfl,_,_⟩,⟨qL,cr,rfl,_,_⟩,⟨es,qM,rfl,_,_⟩,⟨qN,cg,rfl,_,_⟩,⟨eh,ch,rfl,_,_⟩,_,_⟩:=h;simp only[dt] at lR ⊢;generalize ms.length=km at *;generalize rs.length=kr at *;generalize sv.length=ks at *;generalize gw.length=kg at *;generalize wh.length=kh at *;generalize Nd.e ⟨nm,ct,ms,rs,sv,gw,⟨px,py,pz,ph,pq⟩,wh⟩=ne at *;generalize B8 ⟨nm,ct,ms,rs,sv,gw,⟨px,py,pz,ph,pq⟩,wh⟩ t p r=er at *;generalize Gq ⟨nm,ct,ms,rs,sv,gw,⟨px,py,pz,ph,pq⟩,wh⟩ t p r=n' at *;obtain⟨bx,by_,bz,bh,bs⟩:=p;simp only at lR ⊢;obtain⟨W0,bJ,bM,eE,vz,hc1,Dv,Mg,dh⟩:=Rt w #[Y nm,Y ct,J em km cm,J qL kr cr,J es ks qM,J qN kg cg,U O px,U O py,U O pz,U O ph,U O pq,J eh kh ch] #[Y t] #[U O bx,U O by_,U O bz,U O bh,U O bs] #[U O r] #[Y ⟨#[]⟩,Y ⟨#[]⟩,J be 0 0,J be 0 0,J be 0 0,J be 0 0,U O 0,U O 0,U O 0,U O 0,U O 0,J be 0 0] 42 9 39 3 42;have rz:=lR.out W0 bM eE hc1 Dv Mg;have da:Hid _:=bM;have nI:Hid _:=dh;clear bM eE vz hc1 Dv Mg dh lR;go_enter Tryz.func91,Tryz.ntmps91;go_wp2_with fail;rw[<- bJ];refine rz.mono ?_;intro e w1 h;obtain⟨cZ,u0,u1,b2,m2,e2,b3,m3,e3,b4,m4,e4,b5,m5,e5,u6,u7,u8,u9,u10,b11,m11,e11,r1,rfl,HR⟩:=h.wrap da.out nI.out (by omega);obtain⟨q0,q1,q2,q3,q4,q5,q6,q7,q8,q9,q10,q11⟩:=bA cZ;obtain⟨vK,vL,xc,xd,xe,xf,CV,CW,CX,CY,pG,pH⟩:=jT cZ;clear h cZ rz bJ da nI;simp only[aC,IC,Jh] at HR;go_wp2_with fail;exact IK (v:=Ik #[Ij #[Y u0,Y u1,J b2 m2 e2,J b3 m3 e3,J b4 m4 e4,J b5 m5 e5,U O u6,U O u7,U O u8,U O u9,U O u10,J b11 m11 e11],U O r1]) (by simp[results,Tryz.results91,go_sem,q0,q1,q2,q3,q4,q5,q6,q7,q8,q9,q10,q11]) rfl HR.out
end Go.Proofs.YtfidhgjmifendaaGreatDoor
