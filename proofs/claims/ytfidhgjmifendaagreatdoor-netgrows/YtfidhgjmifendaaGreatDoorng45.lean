import Derived.Test.YtfidhgjmifendaaGreatDoorng43
import Derived.Test.YtfidhgjmifendaaGreatDoorng39
import Derived.Test.YtfidhgjmifendaaGreatDoorng44
set_option maxHeartbeats 25600000
set_option maxRecDepth 100000
open Go.Ending renaming returned→AT
open Go.Value renaming tuple→Im,slice→J,int→U,pointer→If,string→Y,bool→Ia,agg→Ik,func→IP
open Go.IntKind renaming i64→O
open Go.Proofs.Tryz renaming prog→AS
open Option renaming some→AI,none→be
open Go.Obj renaming cells→By
open Go.RowKit.Below renaming refl→Ib
open Nat renaming le_refl→Ic,zero_add→ID,reduceAdd→Jg
open Go renaming heap_alloc_new→Ii,below_drewN→Jc,bodyPost_ret→IL,maxLen→Io
open Go.Proofs renaming enters_of→Jj
open Bool renaming and_eq_true→IW
open Go.Joins renaming block_setCell→IC
open Array renaming getElem?_eq_some_iff→BY
namespace Go.Proofs.YtfidhgjmifendaaGreatDoor
open Go.RowKit
def rR(n:Nd)(s:Sv.aW)(E:Int):Int:=if s.node=n.name then E else 4
theorem B8(L b:Nat)(n:Nd)(s:Sv.aW)(E:Int)(X:List Sv.aW)(w:World)(h:Wk L w b n)(hL:L<=b)(hX:∀x∈X,x.ok)(pP:∀v W,Sv.Sl W v n.sv->Calls AS 202 #[v,T4 s] W λe w'=>∃p l c,e=AT (Im #[J p l c,U O E])/\Hid (Sv.Own W.heap.size w' (J p l c) X)/\Below W.heap.size W w') :
 Calls AS 150 #[If (AI ⟨b,0,be⟩),T4 s] w λe w'=>e=AT (U O (rR n s E))/\Sh (λk=>k=b) w w'/\Hid (rR n s E=0->Wk L w' b { n with sv:=X }):=by
 have pD:Hid (Wk L w b n):=h;have aN:=h.lt;obtain⟨vm,vr,vs,vg,vw,h1,h2,h3,h4⟩:=h;have l9:Hid _:=h2.is h4;obtain⟨Ax,cs,tF,_⟩:=aA h2.sv;subst tF;have yb:Hid (∀W,Below w.heap.size w W->Calls _ _ _ _ _):=λW hW=>pP _ W (l9.out.sv.below hW);have tq:Hid (∀W w1 a k c,Below w.heap.size w W->Below W.heap.size W w1->Sv.Own W.heap.size w1 (J a k c) X->Wk L (w1.setCell ⟨b,4,be⟩ (J a k c)) b { n with sv:=X }):=λW w1 a k c hW h1 h2=>
  (pD.out.below hW).Bm (by have:=hW.size;omega) h1 h2 hX
 have HX:Hid (∀W,Below w.heap.size w W->W.heap[b]?=AI (By (dw n vm vr (J Ax n.sv.length cs) vg vw) 90 (0,0))):=λW hW=>(hW.block _ aN).trans h1;have HE:Hid (rR n s E=if s.node=n.name then E else 4):=rfl;generalize rR n s E=res at *;generalize AY:n.sv.length=kr at *;clear AY h1 h2 h3 h4 hX pP;obtain⟨s0,s1,s2,s3,s4,s5,s6,s7,s8⟩:=s;simp only[T4] at yb HE ⊢;obtain⟨W2,bL⟩:∃W2,W2=w.alloc (By #[Y s0,Y s1,Y s2,Y s3,U O s4,U O s5,Ia s6,U O s7,Ia s8] 46):=⟨_,rfl⟩;have aI:Below w.heap.size w W2:=by rw[bL];exact(Ib _ _).alloc (Ic _) _
 have bp:Hid _:=aI;have dS:W2.heap[w.heap.size]?=AI (By #[Y s0,Y s1,Y s2,Y s3,U O s4,U O s5,Ia s6,U O s7,Ia s8] 46 (0,0)):=by rw[bL];exact Ii w _
 obtain⟨x0,x1,x2,x3,x4,x5,x6,x7,x8⟩:=Hy dS;have y0:=ae (HX.out W2 aI) 0;have y3:=ae (HX.out W2 aI) 4;have Sz:b<W2.heap.size:=by have:=bp.out.size;omega
 go_enter Tryz.func150,Tryz.ntmps150;go_upto_region 1 with fail
 rw[<- bL];clear bL aI dS;by_cases dy:s0=n.name
 .have HR:Hid _:=HE.out.trans (if_pos dy)
  have hq:(s0.toList==n.name.toList)=true:=by rw[dy];simp
  have jX:s0.toList=n.name.toList:=by rw[dy]
  clear HE dy;go_quiet (fail)
  go_wp2_with fail;generalize hV:W2.drewN _=V;have oD:Hid (Below w.heap.size w V):=by rw[<- hV];exact Jc bp.out _
  have u0:V.cell? ⟨w.heap.size,0,be⟩=AI (Y s0):=by rw[<- hV];exact x0
  have u1:V.cell? ⟨w.heap.size,1,be⟩=AI (Y s1):=by rw[<- hV];exact x1
  have u2:V.cell? ⟨w.heap.size,2,be⟩=AI (Y s2):=by rw[<- hV];exact x2
  have u3:V.cell? ⟨w.heap.size,3,be⟩=AI (Y s3):=by rw[<- hV];exact x3
  have u4:V.cell? ⟨w.heap.size,4,be⟩=AI (U O s4):=by rw[<- hV];exact x4
  have u5:V.cell? ⟨w.heap.size,5,be⟩=AI (U O s5):=by rw[<- hV];exact x5
  have u6:V.cell? ⟨w.heap.size,6,be⟩=AI (Ia s6):=by rw[<- hV];exact x6
  have u7:V.cell? ⟨w.heap.size,7,be⟩=AI (U O s7):=by rw[<- hV];exact x7
  have u8:V.cell? ⟨w.heap.size,8,be⟩=AI (Ia s8):=by rw[<- hV];exact x8
  have v3:V.cell? ⟨b,4,be⟩=AI (J Ax kr cs):=by rw[<- hV];exact y3
  have hbv:b<V.heap.size:=by rw[<- hV];exact Sz
  clear hV x0 x1 x2 x3 x4 x5 x6 x7 x8 y0 y3 Sz bp;go_region_with (first|(go_at_call 202;refine(yb.out _ oD.out.drew).mono ?_;rintro e w3 ⟨a,k,c,rfl,kZ,bU⟩;have cF:Hid (Below V.heap.size V w3):=(Ib V.heap.size V).drew.trans bU;have dY:Hid (Wk L (w3.setCell ⟨b,4,be⟩ (J a k c)) b { n with sv:=X }):=tq.out _ _ a k c oD.out.drew bU kZ.out;have hJ:=HX.out w3 (oD.out.trans (cF.out.mono oD.out.size));have z3:w3.cell? ⟨b,4,be⟩=AI (J Ax kr cs):=ae hJ 4;have zf:w3.frozen? ⟨b,4,be⟩=false:=an hJ 4;clear bU kZ hJ))
  all_goals
   go_wp2_with fail;go_ret;exact⟨ai HR.out.symm,((Sh.of oD.out).next cF.out).setCell (S:=λk=>k=b) rfl _,λ_=>dY.out⟩
 .have HR:Hid _:=HE.out.trans (if_neg dy)
  have hq:(s0.toList==n.name.toList)=false:=by rw[jy,decide_eq_false dy]
  clear HE dy;go_quiet (fail)
  go_wp2_with fail;go_ret;exact⟨ai HR.out.symm,Sh.of (Jc bp.out _),λh=>by have:=HR.out.symm.trans h;cases this⟩
theorem Fc(L b:Nat)(n:Nd)(t:ByteArray)(E:Int)(X:List Sv.aW)(w:World)(h:Wk L w b n)(hL:L<=b)(hX:∀x∈X,x.ok)(pP:∀v W,Sv.Sl W v n.sv->Calls AS 203 #[v,Y n.name,Y t] W λe w'=>∃p l c,e=AT (Im #[J p l c,U O E])/\Hid (Sv.Own W.heap.size w' (J p l c) X)/\Below W.heap.size W w') :
 Calls AS 152 #[If (AI ⟨b,0,be⟩),Y t] w λe w'=>e=AT (U O E)/\Sh (λk=>k=b) w w'/\Hid (E=0->Wk L w' b { n with sv:=X }):=by
 have pD:Hid (Wk L w b n):=h;have aN:=h.lt;obtain⟨vm,vr,vs,vg,vw,h1,h2,h3,h4⟩:=h;have l9:Hid _:=h2.is h4;obtain⟨Ax,cs,tF,_⟩:=aA h2.sv;subst tF;have yb:Hid (∀W,Below w.heap.size w W->Calls _ _ _ _ _):=λW hW=>pP _ W (l9.out.sv.below hW);have tq:Hid (∀W w1 a k c,Below w.heap.size w W->Below W.heap.size W w1->Sv.Own W.heap.size w1 (J a k c) X->Wk L (w1.setCell ⟨b,4,be⟩ (J a k c)) b { n with sv:=X }):=λW w1 a k c hW h1 h2=>
  (pD.out.below hW).Bm (by have:=hW.size;omega) h1 h2 hX
 have HX:Hid (∀W,Below w.heap.size w W->W.heap[b]?=AI (By (dw n vm vr (J Ax n.sv.length cs) vg vw) 90 (0,0))):=λW hW=>(hW.block _ aN).trans h1;have y0:=ae h1 0;have y3:=ae h1 4;generalize AY:n.sv.length=kr at *;clear AY h1 h2 h3 h4 hX pP;have oD:Hid (Below w.heap.size w w):=Ib _ _;go_enter Tryz.func152,Tryz.ntmps152;go_upto_region 1 with fail
 go_region_with (first|(go_at_call 203;refine(yb.out _ oD.out.drew).mono ?_;rintro e w3 ⟨a,k,c,rfl,kZ,bU⟩;have cF:Hid (Below w.heap.size w w3):=(Ib w.heap.size w).drew.trans bU;have dY:Hid (Wk L (w3.setCell ⟨b,4,be⟩ (J a k c)) b { n with sv:=X }):=tq.out _ _ a k c oD.out.drew bU kZ.out;have hJ:=HX.out w3 (oD.out.trans (cF.out.mono oD.out.size));have z3:w3.cell? ⟨b,4,be⟩=AI (J Ax kr cs):=ae hJ 4;have zf:w3.frozen? ⟨b,4,be⟩=false:=an hJ 4;clear bU kZ hJ))
 all_goals
  go_wp2_with fail;go_ret;exact⟨rfl,((Sh.of oD.out).next cF.out).setCell (S:=λk=>k=b) rfl _,λ_=>dY.out⟩
theorem Fe(L b:Nat)(n:Nd)(ad:Int)(E:Int)(X:List Gw.bC)(w:World)(h:Wk L w b n)(hL:L<=b)(hX:∀x∈X,x.ok)(pP:∀v W,Gw.Sl W v n.gw->Calls AS 204 #[v,Y n.aC,U O ad] W λe w'=>∃p l c,e=AT (Im #[J p l c,U O E])/\Hid (Gw.Own W.heap.size w' (J p l c) X)/\Below W.heap.size W w') :
 Calls AS 154 #[If (AI ⟨b,0,be⟩),U O ad] w λe w'=>e=AT (U O E)/\Sh (λk=>k=b) w w'/\Hid (E=0->Wk L w' b { n with gw:=X }):=by
 have pD:Hid (Wk L w b n):=h;have aN:=h.lt;obtain⟨vm,vr,vs,vg,vw,h1,h2,h3,h4⟩:=h;have l9:Hid _:=h2.is h4;obtain⟨Ax,cs,tF,_⟩:=aA h2.gw;subst tF;have yb:Hid (∀W,Below w.heap.size w W->Calls _ _ _ _ _):=λW hW=>pP _ W (l9.out.gw.below hW);have tq:Hid (∀W w1 a k c,Below w.heap.size w W->Below W.heap.size W w1->Gw.Own W.heap.size w1 (J a k c) X->Wk L (w1.setCell ⟨b,5,be⟩ (J a k c)) b { n with gw:=X }):=λW w1 a k c hW h1 h2=>
  (pD.out.below hW).H7 (by have:=hW.size;omega) h1 h2 hX
 have HX:Hid (∀W,Below w.heap.size w W->W.heap[b]?=AI (By (dw n vm vr vs (J Ax n.gw.length cs) vw) 90 (0,0))):=λW hW=>(hW.block _ aN).trans h1;have y0:=ae h1 1;have y3:=ae h1 5;generalize AY:n.gw.length=kr at *;clear AY h1 h2 h3 h4 hX pP;have oD:Hid (Below w.heap.size w w):=Ib _ _;go_enter Tryz.func154,Tryz.ntmps154;go_upto_region 1 with fail
 go_region_with (first|(go_at_call 204;refine(yb.out _ oD.out.drew).mono ?_;rintro e w3 ⟨a,k,c,rfl,kZ,bU⟩;have cF:Hid (Below w.heap.size w w3):=(Ib w.heap.size w).drew.trans bU;have dY:Hid (Wk L (w3.setCell ⟨b,5,be⟩ (J a k c)) b { n with gw:=X }):=tq.out _ _ a k c oD.out.drew bU kZ.out;have hJ:=HX.out w3 (oD.out.trans (cF.out.mono oD.out.size));have z3:w3.cell? ⟨b,5,be⟩=AI (J Ax kr cs):=ae hJ 5;have zf:w3.frozen? ⟨b,5,be⟩=false:=an hJ 5;clear bU kZ hJ))
 all_goals
  go_wp2_with fail;go_ret;exact⟨rfl,((Sh.of oD.out).next cF.out).setCell (S:=λk=>k=b) rfl _,λ_=>dY.out⟩
theorem Ca(L b tb:Nat)(n:Nd)(s:Sv.aW)(E:Int)(X:List Sv.aW)(w:World)(h:Wk L w b n)(hL:L<=b)(hX:∀x∈X,x.ok)(pP:∀v W,Sv.Sl W v n.sv->Calls AS 202 #[v,T4 s] W λe w'=>∃p l c,e=AT (Im #[J p l c,U O E])/\Hid (Sv.Own W.heap.size w' (J p l c) X)/\Below W.heap.size W w')(hc:w.heap[tb]?=AI (By #[Y s.node,Y s.bq,Y s.name,Y s.tag,U O s.addr,U O s.port,Ia s.aj,U O s.version,Ia s.gone] 46 (0,0))) :
 Calls AS 149 #[If (AI ⟨b,0,be⟩),If (AI ⟨tb,0,be⟩)] w λe w'=>e=AT (U O (rR n s E))/\Sh (λk=>k=b) w w'/\Hid (rR n s E=0->Wk L w' b { n with sv:=X }):=by
 have HC:Hid (Calls _ _ _ _ _):=B8 L b n s E X w h hL hX pP;obtain⟨y0,y1,y2,y3,y4,y5,y6,y7,y8⟩:=Hy hc;clear h hc pP hX;generalize rR n s E=we at *;go_enter Tryz.func149,Tryz.ntmps149;go_wp2_with fail;refine HC.out.mono ?_;rintro e w1 ⟨rfl,hs,hk⟩;have HS:Hid _:=hs;clear hs;go_wp2_with fail;go_ret;exact⟨rfl,HS.out,hk⟩
theorem Ff(L b tb:Nat)(n:Nd)(t:ByteArray)(E:Int)(X:List Sv.aW)(w:World)(h:Wk L w b n)(hL:L<=b)(hX:∀x∈X,x.ok)(pP:∀v W,Sv.Sl W v n.sv->Calls AS 203 #[v,Y n.name,Y t] W λe w'=>∃p l c,e=AT (Im #[J p l c,U O E])/\Hid (Sv.Own W.heap.size w' (J p l c) X)/\Below W.heap.size W w')(hc:w.heap[tb]?=AI (By #[Y t] 9 (0,0))) :
 Calls AS 151 #[If (AI ⟨b,0,be⟩),If (AI ⟨tb,0,be⟩)] w λe w'=>e=AT (U O (E))/\Sh (λk=>k=b) w w'/\Hid (E=0->Wk L w' b { n with sv:=X }):=by
 have HC:Hid (Calls _ _ _ _ _):=Fc L b n t E X w h hL hX pP;have y0:=ae hc 0;clear h hc pP hX;go_enter Tryz.func151,Tryz.ntmps151;go_wp2_with fail;refine HC.out.mono ?_;rintro e w1 ⟨rfl,hs,hk⟩;have HS:Hid _:=hs;clear hs;go_wp2_with fail;go_ret;exact⟨rfl,HS.out,hk⟩
theorem Fg(L b tb:Nat)(n:Nd)(ad:Int)(E:Int)(X:List Gw.bC)(w:World)(h:Wk L w b n)(hL:L<=b)(hX:∀x∈X,x.ok)(pP:∀v W,Gw.Sl W v n.gw->Calls AS 204 #[v,Y n.aC,U O ad] W λe w'=>∃p l c,e=AT (Im #[J p l c,U O E])/\Hid (Gw.Own W.heap.size w' (J p l c) X)/\Below W.heap.size W w')(hc:w.heap[tb]?=AI (By #[U O ad] 3 (0,0))) :
 Calls AS 153 #[If (AI ⟨b,0,be⟩),If (AI ⟨tb,0,be⟩)] w λe w'=>e=AT (U O (E))/\Sh (λk=>k=b) w w'/\Hid (E=0->Wk L w' b { n with gw:=X }):=by
 have HC:Hid (Calls _ _ _ _ _):=Fe L b n ad E X w h hL hX pP;have y0:=ae hc 0;clear h hc pP hX;go_enter Tryz.func153,Tryz.ntmps153;go_wp2_with fail;refine HC.out.mono ?_;rintro e w1 ⟨rfl,hs,hk⟩;have HS:Hid _:=hs;clear hs;go_wp2_with fail;go_ret;exact⟨rfl,HS.out,hk⟩
theorem Fh(n:Nd)(s:Sv.aW)(E:Int)(X:List Sv.aW)(vm vr vs vg vw:Value)(w:World)(h:eT w n vm vr vs vg vw)(hX:∀x∈X,x.ok)(pP:n.e=0->∀v W,Sv.Sl W v n.sv->Calls AS 202 #[v,T4 s] W λe w'=>∃p l c,e=AT (Im #[J p l c,U O E])/\Hid (Sv.Own W.heap.size w' (J p l c) X)/\Below W.heap.size W w') :
 Calls AS 93 #[Ik (dw n vm vr vs vg vw),Ik #[Y s.node,Y s.bq,Y s.name,Y s.tag,U O s.addr,U O s.port,Ia s.aj,U O s.version,Ia s.gone]] w λe w'=>dx n.e (rR n s E) ({ n with sv:=X }) w e w':=by
 have l9:Hid _:=h;obtain⟨W0,bA⟩:∃W0,W0=w.heap.size:=⟨_,rfl⟩;clear bA W0;have lC:Hid (∀W0,Below w.heap.size w W0->W0.heap.size=w.heap.size+3->W0.heap[w.heap.size+1]?=AI (By #[Y s.node,Y s.bq,Y s.name,Y s.tag,U O s.addr,U O s.port,Ia s.aj,U O s.version,Ia s.gone] 46 (0,0))->Calls AS 29 #[Ik (dw n vm vr vs vg vw),IP (.func 149) #[] #[If (AI ⟨w.heap.size+1,0,be⟩)]] W0 λe w'=>fu n.e (rR n s E) ({ n with sv:=X }) (λ_=>False) (λ_=>True) W0 e w'):=λW0 hb hs hc1=>
  iR 149 #[If (AI ⟨w.heap.size+1,0,be⟩)] (Jj Tryz.func149 (by kernel_rfl) rfl) n vm vr vs vg vw W0 (h.below hb) (λ_=>False) (rR n s E) ({ n with sv:=X }) (λ_=>True)
   (λhe W b hW aI hk=>by
    refine(Ca (W0.heap.size+2) b (w.heap.size+1) n s E X W hk (by omega) hX (pP he) ((hW.block _ (by omega)).trans hc1)).mono ?_;rintro e w' ⟨rfl,hs,hh⟩;exact⟨rfl,hs.mono (λk hk=>.inl (by omega)),λh=>⟨hh.out h,trivial⟩⟩
   ) (λ_ _ _ _=>trivial) (λ_ hk=>hk.elim)
 clear pP;obtain⟨nm,ct,ms,rs,sv,gw,⟨px,py,pz,ph,pq⟩,wh⟩:=n;obtain⟨⟨em,cm,rfl,_,_⟩,⟨qG,cr,rfl,_,_⟩,⟨es,qH,rfl,_,_⟩,⟨qI,cg,rfl,_,_⟩,⟨eh,ch,rfl,_,_⟩,_,_⟩:=h;simp only[dw] at lC ⊢;generalize ms.length=km at *;generalize rs.length=kr at *;generalize sv.length=ks at *;generalize gw.length=kg at *;generalize wh.length=kh at *;generalize Nd.e ⟨nm,ct,ms,rs,sv,gw,⟨px,py,pz,ph,pq⟩,wh⟩=ne at *;generalize rR ⟨nm,ct,ms,rs,sv,gw,⟨px,py,pz,ph,pq⟩,wh⟩ s E=er at *;generalize(⟨nm,ct,ms,rs,X,gw,⟨px,py,pz,ph,pq⟩,wh⟩:Nd)=n' at *;obtain⟨W0,bA,bM,eE,vu,hc1,dd⟩:=n9 w #[Y nm,Y ct,J em km cm,J qG kr cr,J es ks qH,J qI kg cg,U O px,U O py,U O pz,U O ph,U O pq,J eh kh ch] #[Y s.node,Y s.bq,Y s.name,Y s.tag,U O s.addr,U O s.port,Ia s.aj,U O s.version,Ia s.gone] #[Y ⟨#[]⟩,Y ⟨#[]⟩,J be 0 0,J be 0 0,J be 0 0,J be 0 0,U O 0,U O 0,U O 0,U O 0,U O 0,J be 0 0] 42 46 42;have rh:=lC.out W0 bM eE hc1;have cY:Hid _:=bM;have nE:Hid _:=dd;clear bM eE vu hc1 dd lC;go_enter Tryz.func93,Tryz.ntmps93;go_wp2_with fail;rw[<- bA];refine rh.mono ?_;intro e w1 h;obtain⟨cX,u0,u1,b2,m2,e2,b3,m3,e3,b4,m4,e4,b5,m5,e5,u6,u7,u8,u9,u10,b11,m11,e11,r1,rfl,HR⟩:=h.wrap cY.out nE.out (by omega);obtain⟨q0,q1,q2,q3,q4,q5,q6,q7,q8,q9,q10,q11⟩:=bu cX;obtain⟨vI,vJ,xa,xb,xc,xd,CV,CW,CX,CY,pA,pB⟩:=jS cX;clear h cX rh bA cY nE;simp only[aD,ID,Jg] at HR;go_wp2_with fail;exact IL (v:=Im #[Ik #[Y u0,Y u1,J b2 m2 e2,J b3 m3 e3,J b4 m4 e4,J b5 m5 e5,U O u6,U O u7,U O u8,U O u9,U O u10,J b11 m11 e11],U O r1]) (by simp[results,Tryz.results93,go_sem,q0,q1,q2,q3,q4,q5,q6,q7,q8,q9,q10,q11]) rfl HR.out
theorem KT(n:Nd)(t:ByteArray)(E:Int)(X:List Sv.aW)(vm vr vs vg vw:Value)(w:World)(h:eT w n vm vr vs vg vw)(hX:∀x∈X,x.ok)(pP:n.e=0->∀v W,Sv.Sl W v n.sv->Calls AS 203 #[v,Y n.name,Y t] W λe w'=>∃p l c,e=AT (Im #[J p l c,U O E])/\Hid (Sv.Own W.heap.size w' (J p l c) X)/\Below W.heap.size W w') :
 Calls AS 95 #[Ik (dw n vm vr vs vg vw),Y t] w λe w'=>dx n.e (E) ({ n with sv:=X }) w e w':=by
 have l9:Hid _:=h;obtain⟨W0,bA⟩:∃W0,W0=w.heap.size:=⟨_,rfl⟩;clear bA W0;have lC:Hid (∀W0,Below w.heap.size w W0->W0.heap.size=w.heap.size+3->W0.heap[w.heap.size+1]?=AI (By #[Y t] 9 (0,0))->Calls AS 29 #[Ik (dw n vm vr vs vg vw),IP (.func 151) #[] #[If (AI ⟨w.heap.size+1,0,be⟩)]] W0 λe w'=>fu n.e (E) ({ n with sv:=X }) (λ_=>False) (λ_=>True) W0 e w'):=λW0 hb hs hc1=>
  iR 151 #[If (AI ⟨w.heap.size+1,0,be⟩)] (Jj Tryz.func151 (by kernel_rfl) rfl) n vm vr vs vg vw W0 (h.below hb) (λ_=>False) (E) ({ n with sv:=X }) (λ_=>True)
   (λhe W b hW aI hk=>by
    refine(Ff (W0.heap.size+2) b (w.heap.size+1) n t E X W hk (by omega) hX (pP he) ((hW.block _ (by omega)).trans hc1)).mono ?_;rintro e w' ⟨rfl,hs,hh⟩;exact⟨rfl,hs.mono (λk hk=>.inl (by omega)),λh=>⟨hh.out h,trivial⟩⟩
   ) (λ_ _ _ _=>trivial) (λ_ hk=>hk.elim)
 clear pP;obtain⟨nm,ct,ms,rs,sv,gw,⟨px,py,pz,ph,pq⟩,wh⟩:=n;obtain⟨⟨em,cm,rfl,_,_⟩,⟨qG,cr,rfl,_,_⟩,⟨es,qH,rfl,_,_⟩,⟨qI,cg,rfl,_,_⟩,⟨eh,ch,rfl,_,_⟩,_,_⟩:=h;simp only[dw] at lC ⊢;generalize ms.length=km at *;generalize rs.length=kr at *;generalize sv.length=ks at *;generalize gw.length=kg at *;generalize wh.length=kh at *;generalize Nd.e ⟨nm,ct,ms,rs,sv,gw,⟨px,py,pz,ph,pq⟩,wh⟩=ne at *;generalize E=er at *;generalize(⟨nm,ct,ms,rs,X,gw,⟨px,py,pz,ph,pq⟩,wh⟩:Nd)=n' at *;obtain⟨W0,bA,bM,eE,vu,hc1,dd⟩:=n9 w #[Y nm,Y ct,J em km cm,J qG kr cr,J es ks qH,J qI kg cg,U O px,U O py,U O pz,U O ph,U O pq,J eh kh ch] #[Y t] #[Y ⟨#[]⟩,Y ⟨#[]⟩,J be 0 0,J be 0 0,J be 0 0,J be 0 0,U O 0,U O 0,U O 0,U O 0,U O 0,J be 0 0] 42 9 42;have rh:=lC.out W0 bM eE hc1;have cY:Hid _:=bM;have nE:Hid _:=dd;clear bM eE vu hc1 dd lC;go_enter Tryz.func95,Tryz.ntmps95;go_wp2_with fail;rw[<- bA];refine rh.mono ?_;intro e w1 h;obtain⟨cX,u0,u1,b2,m2,e2,b3,m3,e3,b4,m4,e4,b5,m5,e5,u6,u7,u8,u9,u10,b11,m11,e11,r1,rfl,HR⟩:=h.wrap cY.out nE.out (by omega);obtain⟨q0,q1,q2,q3,q4,q5,q6,q7,q8,q9,q10,q11⟩:=bu cX;obtain⟨vI,vJ,xa,xb,xc,xd,CV,CW,CX,CY,pA,pB⟩:=jS cX;clear h cX rh bA cY nE;simp only[aD,ID,Jg] at HR;go_wp2_with fail;exact IL (v:=Im #[Ik #[Y u0,Y u1,J b2 m2 e2,J b3 m3 e3,J b4 m4 e4,J b5 m5 e5,U O u6,U O u7,U O u8,U O u9,U O u10,J b11 m11 e11],U O r1]) (by simp[results,Tryz.results95,go_sem,q0,q1,q2,q3,q4,q5,q6,q7,q8,q9,q10,q11]) rfl HR.out
theorem KU(n:Nd)(ad:Int)(E:Int)(X:List Gw.bC)(vm vr vs vg vw:Value)(w:World)(h:eT w n vm vr vs vg vw)(hX:∀x∈X,x.ok)(pP:n.e=0->∀v W,Gw.Sl W v n.gw->Calls AS 204 #[v,Y n.aC,U O ad] W λe w'=>∃p l c,e=AT (Im #[J p l c,U O E])/\Hid (Gw.Own W.heap.size w' (J p l c) X)/\Below W.heap.size W w') :
 Calls AS 97 #[Ik (dw n vm vr vs vg vw),U O ad] w λe w'=>dx n.e (E) ({ n with gw:=X }) w e w':=by
 have l9:Hid _:=h;obtain⟨W0,bA⟩:∃W0,W0=w.heap.size:=⟨_,rfl⟩;clear bA W0;have lC:Hid (∀W0,Below w.heap.size w W0->W0.heap.size=w.heap.size+3->W0.heap[w.heap.size+1]?=AI (By #[U O ad] 3 (0,0))->Calls AS 29 #[Ik (dw n vm vr vs vg vw),IP (.func 153) #[] #[If (AI ⟨w.heap.size+1,0,be⟩)]] W0 λe w'=>fu n.e (E) ({ n with gw:=X }) (λ_=>False) (λ_=>True) W0 e w'):=λW0 hb hs hc1=>
  iR 153 #[If (AI ⟨w.heap.size+1,0,be⟩)] (Jj Tryz.func153 (by kernel_rfl) rfl) n vm vr vs vg vw W0 (h.below hb) (λ_=>False) (E) ({ n with gw:=X }) (λ_=>True)
   (λhe W b hW aI hk=>by
    refine(Fg (W0.heap.size+2) b (w.heap.size+1) n ad E X W hk (by omega) hX (pP he) ((hW.block _ (by omega)).trans hc1)).mono ?_;rintro e w' ⟨rfl,hs,hh⟩;exact⟨rfl,hs.mono (λk hk=>.inl (by omega)),λh=>⟨hh.out h,trivial⟩⟩
   ) (λ_ _ _ _=>trivial) (λ_ hk=>hk.elim)
 clear pP;obtain⟨nm,ct,ms,rs,sv,gw,⟨px,py,pz,ph,pq⟩,wh⟩:=n;obtain⟨⟨em,cm,rfl,_,_⟩,⟨qG,cr,rfl,_,_⟩,⟨es,qH,rfl,_,_⟩,⟨qI,cg,rfl,_,_⟩,⟨eh,ch,rfl,_,_⟩,_,_⟩:=h;simp only[dw] at lC ⊢;generalize ms.length=km at *;generalize rs.length=kr at *;generalize sv.length=ks at *;generalize gw.length=kg at *;generalize wh.length=kh at *;generalize Nd.e ⟨nm,ct,ms,rs,sv,gw,⟨px,py,pz,ph,pq⟩,wh⟩=ne at *;generalize E=er at *;generalize(⟨nm,ct,ms,rs,sv,X,⟨px,py,pz,ph,pq⟩,wh⟩:Nd)=n' at *;obtain⟨W0,bA,bM,eE,vu,hc1,dd⟩:=n9 w #[Y nm,Y ct,J em km cm,J qG kr cr,J es ks qH,J qI kg cg,U O px,U O py,U O pz,U O ph,U O pq,J eh kh ch] #[U O ad] #[Y ⟨#[]⟩,Y ⟨#[]⟩,J be 0 0,J be 0 0,J be 0 0,J be 0 0,U O 0,U O 0,U O 0,U O 0,U O 0,J be 0 0] 42 3 42;have rh:=lC.out W0 bM eE hc1;have cY:Hid _:=bM;have nE:Hid _:=dd;clear bM eE vu hc1 dd lC;go_enter Tryz.func97,Tryz.ntmps97;go_wp2_with fail;rw[<- bA];refine rh.mono ?_;intro e w1 h;obtain⟨cX,u0,u1,b2,m2,e2,b3,m3,e3,b4,m4,e4,b5,m5,e5,u6,u7,u8,u9,u10,b11,m11,e11,r1,rfl,HR⟩:=h.wrap cY.out nE.out (by omega);obtain⟨q0,q1,q2,q3,q4,q5,q6,q7,q8,q9,q10,q11⟩:=bu cX;obtain⟨vI,vJ,xa,xb,xc,xd,CV,CW,CX,CY,pA,pB⟩:=jS cX;clear h cX rh bA cY nE;simp only[aD,ID,Jg] at HR;go_wp2_with fail;exact IL (v:=Im #[Ik #[Y u0,Y u1,J b2 m2 e2,J b3 m3 e3,J b4 m4 e4,J b5 m5 e5,U O u6,U O u7,U O u8,U O u9,U O u10,J b11 m11 e11],U O r1]) (by simp[results,Tryz.results97,go_sem,q0,q1,q2,q3,q4,q5,q6,q7,q8,q9,q10,q11]) rfl HR.out
theorem Fi(L b tb:Nat)(n:Nd)(t:ByteArray)(w:World)(h:Wk L w b n)(hL:L<=b)(uT:Sp n)(ht:t.size<=Io)(hc:w.heap[tb]?=AI (By #[Y t] 9 (0,0))) :
 Calls AS 144 #[If (AI ⟨b,0,be⟩),If (AI ⟨tb,0,be⟩)] w λe w'=>e=AT (U O (ts n t 2 3))/\Sh (λk=>k=b) w w'/\Hid (ts n t 2 3=0->Wk L w' b (zj n t 3)):=by
 have HC:Hid (Calls _ _ _ _ _):=tt L b n t 2 3 w h hL uT.ms uT.rs uT.name ht rfl;have y0:=ae hc 0;clear h uT hc;generalize ts n t 2 3=we at *;go_enter Tryz.func144,Tryz.ntmps144;go_wp2_with fail;refine HC.out.mono ?_;rintro e w1 ⟨rfl,hs,hk⟩;have HS:Hid _:=hs;clear hs;go_wp2_with fail;go_ret;exact⟨rfl,HS.out,hk⟩
theorem KV(n:Nd)(t:ByteArray)(vm vr vs vg vw:Value)(w:World)(h:eT w n vm vr vs vg vw)(ht:t.size<=Io) :
 Calls AS 87 #[Ik (dw n vm vr vs vg vw),Y t] w λe w'=>dx n.e (ts n t 2 3) (zj n t 3) w e w':=by
 have l9:Hid _:=h;obtain⟨W0,bA⟩:∃W0,W0=w.heap.size:=⟨_,rfl⟩;clear bA W0;have lC:Hid (∀W0,Below w.heap.size w W0->W0.heap.size=w.heap.size+3->W0.heap[w.heap.size+1]?=AI (By #[Y t] 9 (0,0))->Calls AS 29 #[Ik (dw n vm vr vs vg vw),IP (.func 144) #[] #[If (AI ⟨w.heap.size+1,0,be⟩)]] W0 λe w'=>fu n.e (ts n t 2 3) (zj n t 3) (λ_=>False) (λ_=>True) W0 e w'):=λW0 hb hs hc1=>
  iR 144 #[If (AI ⟨w.heap.size+1,0,be⟩)] (Jj Tryz.func144 (by kernel_rfl) rfl) n vm vr vs vg vw W0 (h.below hb) (λ_=>False) (ts n t 2 3) (zj n t 3) (λ_=>True)
   (λhe W b hW aI hk=>by
    refine(Fi (W0.heap.size+2) b (w.heap.size+1) n t W hk (by omega) (Nd.sp he) ht ((hW.block _ (by omega)).trans hc1)).mono ?_;rintro e w' ⟨rfl,hs,hh⟩;exact⟨rfl,hs.mono (λk hk=>.inl (by omega)),λh=>⟨hh.out h,trivial⟩⟩
   ) (λ_ _ _ _=>trivial) (λ_ hk=>hk.elim)
 obtain⟨nm,ct,ms,rs,sv,gw,⟨px,py,pz,ph,pq⟩,wh⟩:=n;obtain⟨⟨em,cm,rfl,_,_⟩,⟨qG,cr,rfl,_,_⟩,⟨es,qH,rfl,_,_⟩,⟨qI,cg,rfl,_,_⟩,⟨eh,ch,rfl,_,_⟩,_,_⟩:=h;simp only[dw] at lC ⊢;generalize ms.length=km at *;generalize rs.length=kr at *;generalize sv.length=ks at *;generalize gw.length=kg at *;generalize wh.length=kh at *;generalize Nd.e ⟨nm,ct,ms,rs,sv,gw,⟨px,py,pz,ph,pq⟩,wh⟩=ne at *;generalize ts ⟨nm,ct,ms,rs,sv,gw,⟨px,py,pz,ph,pq⟩,wh⟩ t 2 3=er at *;generalize zj ⟨nm,ct,ms,rs,sv,gw,⟨px,py,pz,ph,pq⟩,wh⟩ t 3=n' at *;obtain⟨W0,bA,bM,eE,vu,hc1,dd⟩:=n9 w #[Y nm,Y ct,J em km cm,J qG kr cr,J es ks qH,J qI kg cg,U O px,U O py,U O pz,U O ph,U O pq,J eh kh ch] #[Y t] #[Y ⟨#[]⟩,Y ⟨#[]⟩,J be 0 0,J be 0 0,J be 0 0,J be 0 0,U O 0,U O 0,U O 0,U O 0,U O 0,J be 0 0] 42 9 42;have rh:=lC.out W0 bM eE hc1;have cY:Hid _:=bM;have nE:Hid _:=dd;clear bM eE vu hc1 dd lC;go_enter Tryz.func87,Tryz.ntmps87;go_wp2_with fail;rw[<- bA];refine rh.mono ?_;intro e w1 h;obtain⟨cX,u0,u1,b2,m2,e2,b3,m3,e3,b4,m4,e4,b5,m5,e5,u6,u7,u8,u9,u10,b11,m11,e11,r1,rfl,HR⟩:=h.wrap cY.out nE.out (by omega);obtain⟨q0,q1,q2,q3,q4,q5,q6,q7,q8,q9,q10,q11⟩:=bu cX;obtain⟨vI,vJ,xa,xb,xc,xd,CV,CW,CX,CY,pA,pB⟩:=jS cX;clear h cX rh bA cY nE;simp only[aD,ID,Jg] at HR;go_wp2_with fail;exact IL (v:=Im #[Ik #[Y u0,Y u1,J b2 m2 e2,J b3 m3 e3,J b4 m4 e4,J b5 m5 e5,U O u6,U O u7,U O u8,U O u9,U O u10,J b11 m11 e11],U O r1]) (by simp[results,Tryz.results87,go_sem,q0,q1,q2,q3,q4,q5,q6,q7,q8,q9,q10,q11]) rfl HR.out
def Ny(n:Nd):Mem:={ fc n.ms n.name with state:=4,aM:=(fc n.ms n.name).aM+1 }
def Dp(n:Nd):Int:=if(fc n.ms n.name).state=4 then 4 else if(fc n.ms n.name).aM=1000000 then 3 else ma n (Ny n)
def Gx(n:Nd):Nd:=nG n (Ny n)
theorem Cb(L b:Nat)(n:Nd)(w:World)(h:Wk L w b n)(hL:L<=b)(hU:bj n.ms=0)(nx:dV n.rs=0)(hl:ba n.name=true)(hfd:(cK n.ms n.name).isSome=true) :
 Calls AS 146 #[If (AI ⟨b,0,be⟩)] w λe w'=>e=AT (U O (Dp n))/\Sh (λk=>k=b) w w'/\Hid (Dp n=0->Wk L w' b (Gx n)):=by
 have pD:Hid (Wk L w b n):=h;have aN:=h.lt;obtain⟨vm,vr,vs,vg,vw,h1,h2,h3,h4⟩:=h;have l9:Hid _:=h2.is h4;obtain⟨am,cm,nF,_⟩:=aA h2.ms;subst nF;have D6:Hid (Calls AS 67 #[If (AI ⟨b,0,be⟩),Y n.name] w λe w'=>e=AT (Im #[Ik #[Y (fc n.ms n.name).name,U O (fc n.ms n.name).state,U O (fc n.ms n.name).aM,U O (fc n.ms n.name).addr,Ia (fc n.ms n.name).server],Ia (cK n.ms n.name).isSome])/\Below w.heap.size w w'):=
  iP b am n.ms.length cm n.ms n.name w (ae h1 2) l9.out.ms (by have:=(af hU).1;omega)
 obtain⟨g1,g2⟩:=sd hfd;have he:=(kC _).1 (lL hU _ g1);have WH:Hid (1<=(fc n.ms n.name).aM/\(fc n.ms n.name).aM<=1000000):=by
  have h5:=he.2.2.1;simp[within] at h5;exact h5
 have Aw:Hid ((fc n.ms n.name).aM≠1000000->∀W,Below w.heap.size w W->Calls AS 63 #[If (AI ⟨b,0,be⟩),Ik #[Y (fc n.ms n.name).name,U O 4,U O ((fc n.ms n.name).aM+1),U O (fc n.ms n.name).addr,Ia (fc n.ms n.name).server]] W λe w'=>e=AT (U O (ma n (Ny n)))/\Sh (λk=>k=b) W w'/\Hid (ma n (Ny n)=0->Wk L w' b (Gx n))):=λaT W hW=>by
  have h6:=WH.out;have h7:within ((fc n.ms n.name).aM+1) 1 1000000=true:=by
   simp only[within,IW,decide_eq_true_eq];omega
  exact ox L b n (Ny n) W (pD.out.below hW) hL hU nx hl ((kC _).2 ⟨he.1,(by decide:within 4 1 4=true),h7,he.2.2.2⟩) (show(fc n.ms n.name).name.size<=Io from h4.ms _ g1)
 have y0:=ae h1 0;have HE:Hid (Dp n=if(fc n.ms n.name).state=4 then 4 else if(fc n.ms n.name).aM=1000000 then 3 else ma n (Ny n)):=rfl;generalize Dp n=res at *;generalize ma n (Ny n)=se at *;generalize Gx n=ln at *;clear h1 h2 h3 h4 hU nx g1 g2 he hfd;generalize(cK n.ms n.name).isSome=fd at *;generalize Ml:fc n.ms n.name=m at *;clear Ml;obtain⟨mn,st,lf,ad,sv⟩:=m;simp only at D6 Aw HE WH;go_enter Tryz.func146,Tryz.ntmps146;go_wp2_with fail;refine D6.out.mono ?_;rintro e w1 ⟨rfl,aB⟩;obtain⟨W2,bL⟩:∃W2,W2=w1.alloc (By #[Y mn,U O st,U O lf,U O ad,Ia sv] 50):=⟨_,rfl⟩;have aI:Below w.heap.size w W2:=by rw[bL];exact aB.alloc aB.size _
 have dS:W2.heap[w1.heap.size]?=AI (By #[Y mn,U O st,U O lf,U O ad,Ia sv] 50 (0,0)):=by rw[bL];exact Ii w1 _
 have bp:Hid _:=aI;have fh:=aB.size;have x1:=ae dS 1;have x2:=ae dS 2;have zf:=an dS 1;have zg:=an dS 2;go_upto_region 2 with fail
 rw[<- bL];clear bL aB aI D6 y0;by_cases oG:st=4
 .have HR:Hid _:=HE.out.trans (if_pos oG)
  subst oG;clear HE;go_wp2_with fail;go_ret;exact⟨ai HR.out.symm,Sh.of bp.out,λh=>by have:=HR.out.symm.trans h;cases this⟩
 have ady:(st==4)=false:=by simpa using oG
 by_cases Nr:lf=1000000
 .have HR:Hid _:=HE.out.trans ((if_neg oG).trans (if_pos Nr))
  subst Nr;clear HE oG;go_wp2_with fail;go_ret;exact⟨ai HR.out.symm,Sh.of bp.out,λh=>by have:=HR.out.symm.trans h;cases this⟩
 have HR:Hid _:=HE.out.trans ((if_neg oG).trans (if_neg Nr));have alW:(lf==1000000)=false:=by simpa using Nr
 have Kj:=λW hW=>Aw.out Nr W hW;have lg:=WH.out.1;have qU:=WH.out.2;clear HE oG Nr Aw WH;obtain⟨W3,ep⟩:∃W3,W3=(W2.setCell ⟨w1.heap.size,1,be⟩ (U O 4)).setCell ⟨w1.heap.size,2,be⟩ (U O (lf+1)):=⟨_,rfl⟩;have cF:Hid (Below w.heap.size w W3):=by rw[ep];exact(bp.out.setCell (p:=⟨w1.heap.size,1,be⟩) fh _).setCell (p:=⟨w1.heap.size,2,be⟩) fh _
 have lh:W3.heap[w1.heap.size]?=AI (By #[Y mn,U O 4,U O (lf+1),U O ad,Ia sv] 50 (0,0)):=by rw[ep];exact IC (i:=2) (IC (i:=1) dS _) _
 obtain⟨v0,v1,v2,v3,v4⟩:=iZ lh;have SD:Hid (Calls _ _ _ _ _):=Kj W3 cF.out;clear Kj lh dS;go_upto_region 8 with fail
 rw[<- ep];clear ep x1 x2 zf zg;go_wp2_with fail;refine SD.out.mono ?_;rintro e w5 ⟨rfl,HU,AP⟩;have HS5:Hid _:=(Sh.of cF.out).trans HU;clear HU;go_wp2_with fail;go_ret;exact⟨ai HR.out.symm,HS5.out,λh=>AP.out (HR.out.symm.trans h)⟩
theorem Cc(L b:Nat)(n:Nd)(w:World)(h:Wk L w b n)(hL:L<=b)(he:n.e=0) :
 Calls AS 145 #[If (AI ⟨b,0,be⟩)] w λe w'=>e=AT (U O (Dp n))/\Sh (λk=>k=b) w w'/\Hid (Dp n=0->Wk L w' b (Gx n)):=by
 have hp:=Nd.parts (Nd.bc he).1;obtain⟨me,L1,_⟩:=Nd.pK (Nd.bc he).2;have HC:Hid (Calls _ _ _ _ _):=Cb L b n w h hL hp.ms hp.rs hp.name (by rw[L1];rfl);clear h hp L1 he;generalize Dp n=we at *;generalize Gx n=ln at *;go_enter Tryz.func145,Tryz.ntmps145;go_wp2_with fail;refine HC.out.mono ?_;rintro e w1 ⟨rfl,hs,hk⟩;have HS:Hid _:=hs;clear hs;go_wp2_with fail;go_ret;exact⟨rfl,HS.out,hk⟩
theorem Fj(n:Nd) (vm vr vs vg vw:Value)(w:World)(h:eT w n vm vr vs vg vw)  :
 Calls AS 89 #[Ik (dw n vm vr vs vg vw)] w λe w'=>dx n.e (Dp n) (Gx n) w e w':=by
 have l9:Hid _:=h;obtain⟨W0,bA⟩:∃W0,W0=w.heap.size:=⟨_,rfl⟩;clear bA W0;have lC:Hid (∀W0,Below w.heap.size w W0->W0.heap.size=w.heap.size+2->Calls AS 29 #[Ik (dw n vm vr vs vg vw),IP (.func 145) #[] #[]] W0 λe w'=>fu n.e (Dp n) (Gx n) (λ_=>False) (λ_=>True) W0 e w'):=λW0 hb hs  =>
  iR 145 #[] (Jj Tryz.func145 (by kernel_rfl) rfl) n vm vr vs vg vw W0 (h.below hb) (λ_=>False) (Dp n) (Gx n) (λ_=>True)
   (λhe W b hW aI hk=>by
    refine(Cc (W0.heap.size+2) b n W hk (by omega) he).mono ?_;rintro e w' ⟨rfl,hs,hh⟩;exact⟨rfl,hs.mono (λk hk=>.inl (by omega)),λh=>⟨hh.out h,trivial⟩⟩
   ) (λ_ _ _ _=>trivial) (λ_ hk=>hk.elim)
 obtain⟨nm,ct,ms,rs,sv,gw,⟨px,py,pz,ph,pq⟩,wh⟩:=n;obtain⟨⟨em,cm,rfl,_,_⟩,⟨qG,cr,rfl,_,_⟩,⟨es,qH,rfl,_,_⟩,⟨qI,cg,rfl,_,_⟩,⟨eh,ch,rfl,_,_⟩,_,_⟩:=h;simp only[dw] at lC ⊢;generalize ms.length=km at *;generalize rs.length=kr at *;generalize sv.length=ks at *;generalize gw.length=kg at *;generalize wh.length=kh at *;generalize Nd.e ⟨nm,ct,ms,rs,sv,gw,⟨px,py,pz,ph,pq⟩,wh⟩=ne at *;generalize Dp ⟨nm,ct,ms,rs,sv,gw,⟨px,py,pz,ph,pq⟩,wh⟩=er at *;generalize Gx ⟨nm,ct,ms,rs,sv,gw,⟨px,py,pz,ph,pq⟩,wh⟩=n' at *;obtain⟨W0,bA,bM,eE,vu,dd⟩:=GW w #[Y nm,Y ct,J em km cm,J qG kr cr,J es ks qH,J qI kg cg,U O px,U O py,U O pz,U O ph,U O pq,J eh kh ch] #[Y ⟨#[]⟩,Y ⟨#[]⟩,J be 0 0,J be 0 0,J be 0 0,J be 0 0,U O 0,U O 0,U O 0,U O 0,U O 0,J be 0 0] 42 42;have rh:=lC.out W0 bM eE;have cY:Hid _:=bM;have nE:Hid _:=dd;clear bM eE vu  dd lC;go_enter Tryz.func89,Tryz.ntmps89;go_wp2_with fail;rw[<- bA];refine rh.mono ?_;intro e w1 h;obtain⟨cX,u0,u1,b2,m2,e2,b3,m3,e3,b4,m4,e4,b5,m5,e5,u6,u7,u8,u9,u10,b11,m11,e11,r1,rfl,HR⟩:=h.wrap cY.out nE.out (by omega);obtain⟨q0,q1,q2,q3,q4,q5,q6,q7,q8,q9,q10,q11⟩:=bu cX;obtain⟨vI,vJ,xa,xb,xc,xd,CV,CW,CX,CY,pA,pB⟩:=jS cX;clear h cX rh bA cY nE;simp only[aD,ID,Jg] at HR;go_wp2_with fail;exact IL (v:=Im #[Ik #[Y u0,Y u1,J b2 m2 e2,J b3 m3 e3,J b4 m4 e4,J b5 m5 e5,U O u6,U O u7,U O u8,U O u9,U O u10,J b11 m11 e11],U O r1]) (by simp[results,Tryz.results89,go_sem,q0,q1,q2,q3,q4,q5,q6,q7,q8,q9,q10,q11]) rfl HR.out
section
variable {α:Type} (o:α→α→Int) (nw:α→α→Bool) (d:α)
theorem xF(hk:RL.Keyed o):∀{ms:List α},RL.bl o ms->∀s∈ms,RL.get o ms s=AI s
 |[],_,s,h=>by cases h
 |x::r,hr,s,h=>by
  rcases List.mem_cons.1 h with rfl|h
  .exact RL.cv o s r (hk.refl s)
  .have h1:=RL.mZ o hk hr s h
   rw[RL.dn o x r (λe=>h1 (hk.symm e))];exact xF hk (List.pairwise_cons.1 hr).2 s h
theorem KW(hk:RL.Keyed o){ms:List α}(hr:RL.bl o ms){s r:α}(h:RL.get o ms s=AI r):∃p,RL.At o d ms s p true/\ms.getD p d=r:=by
 obtain⟨p,hp,he⟩:=List.getElem_of_mem (RL.get_mem o h);have hg:ms.getD p d=r:=by rw[RL.oL d hp,he]
 exact⟨p,RL.yj o d hk hr hp (by rw[hg];exact RL.Mi o h),hg⟩
theorem Nz(hn:RL.qe o nw){a b:α}(h:nw a b=true):nw b a=false:=by
 rcases hb:nw b a with _|_
 .rfl
 .have:=hn.trans a b a h hb
  rw[hn.irrefl] at this;cases this
def T5(a b:List α):Prop:=∀s∈a,∃p,RL.At o d b s p true/\nw s (b.getD p d)=false
theorem iT(hk:RL.Keyed o)(hn:RL.qe o nw){a:List α}(ha:RL.bl o a):T5 o nw d a a:=λs hs=>by
 obtain⟨p,h1,h2⟩:=KW o d hk ha (xF o hk ha s hs);exact⟨p,h1,by rw[h2];exact hn.irrefl s⟩
theorem pQ(hk:RL.Keyed o)(hn:RL.qe o nw){a b:List α}(ha:RL.bl o a)(hb:RL.bl o b):T5 o nw d a (RL.join o nw a b):=λs hs=>by
 have hg:=RL.get_join o nw hk b a ha hb s;rw[xF o hk ha s hs] at hg;have hr:=RL.kH o nw hk b a ha;rcases hy:RL.get o b s with _|y
 .rw[hy] at hg
  obtain⟨p,h1,h2⟩:=KW o d hk hr (hg.trans (show RL.comb nw (AI s) be=AI s from rfl));exact⟨p,h1,by rw[h2];exact hn.irrefl s⟩
 .rw[hy] at hg
  obtain⟨p,h1,h2⟩:=KW o d hk hr (hg.trans (show RL.comb nw (AI s) (AI y)=AI (RL.mx nw s y) from rfl));refine⟨p,h1,?_⟩;rw[h2];unfold RL.mx;split
  .rename_i h;exact Nz o nw hn h
  .exact hn.irrefl s
end
theorem WI{a b:Gw.bC}(h:Gw.bN a b=false):a.version<=b.version:=by
 have h1:¬ 0<Gw.xp a b:=by
  intro h2;unfold Gw.bN at h;rw[decide_eq_true h2] at h;cases h
 apply Classical.byContradiction;intro hv;apply h1;have h2:Gw.xp a b=if a.version-b.version=0 then a.addr-b.addr else a.version-b.version:=rfl;rw[h2,if_neg (show ¬ a.version-b.version=0 by omega)];omega
theorem tT{ms:List Mem}(hr:bl ms){m:Mem}(h:m∈ms):cK ms m.name=AI m:=by
 obtain⟨k,hk,rfl⟩:=List.getElem_of_mem h;have e:∀j (h:j<ms.length),ms.getD j dm=ms[j]:=λj h=>by simp[List.getD,List.getElem?_eq_getElem h]
 have h2:=nr (ms:=ms) (t:=ms[k].name) hk (λj hj hn=>by
  have hp:=List.pairwise_iff_getElem.1 hr j k (by omega) hk hj;rw[e j (by omega)] at hn;rw[hn,gu] at hp;cases hp) (by rw[e k hk])
 rw[e k hk] at h2;exact h2
structure fA(a b:Nd):Prop where
 ms:∀m∈a.ms,∃k,cK b.ms m.name=AI k/\eH m k=false
 sv:T5 Sv.ord Sv.bN Sv.dm a.sv b.sv
 gw:T5 Gw.ord Gw.bN Gw.dm a.gw b.gw
theorem pR{a b:Nd}(h:a.mL)(hl:Le a.ms b.ms)(hs:b.sv=a.sv)(hg:b.gw=a.gw):fA a b:=by
 refine⟨λm hm=>hl _ _ (tT (af h.ms).2.1 hm),?_,?_⟩
 .rw[hs];exact iT _ _ _ Sv.keyed Sv.iB (Sv.af h.sv).2.1
 .rw[hg];exact iT _ _ _ Gw.keyed Gw.iB (Gw.af h.gw).2.1
theorem zH{n:Nd}{p:Pk}(h0:pJ n p=0):p.e=0/\qC n p.ms=0/\Sv.aE n.sv p.sv=0/\Gw.aE n.gw p.gw=0:=by
 unfold pJ at h0;split at h0
 .rename_i h1
  split at h0
  .rename_i h2
   split at h0
   .rename_i h3;exact⟨h1,h2,h3,h0⟩
   .rename_i h3;exact absurd h0 h3
  .rename_i h2;exact absurd h0 h2
 .rename_i h1;exact absurd h0 h1
theorem KX{wh:List Wh.bJ}{x y:Wh.bJ}(h:y∈uQ wh x):y∈wh\/y=x:=by
 unfold uQ at h;split at h
 .exact .inl h
 .rcases Wh.fH wh x y h with h|h
  .exact .inr h
  .exact .inl h
theorem Dq:∀(l wh:List Wh.bJ) (y:Wh.bJ),y∈Bs wh l->y∈wh\/y∈l
 |[],_,y,h=>.inl h
 |x::r,wh,y,h=>by
  rcases Dq r (uQ wh x) y h with h|h
  .rcases KX h with h|rfl
   .exact .inl h
   .exact .inr (by simp)
  .exact .inr (by simp[h])
theorem WJ{n:Nd}{p:Pk}(he:n.e=0)(hk:∀m∈n.wh,m.ok)(jd:∀m∈p.wh,m.ok)(h0:pJ n p=0):(rJ n p).e=0:=by
 obtain⟨h1,h2,h3,h4⟩:=zH h0;have hp:=Nd.parts (Nd.bc he).1;obtain⟨pm,_,pw,oJ,oK⟩:=zn h1;have hN:=PJ p.ms n he pm h2;have hq:=Nd.parts (Nd.bc hN).1;rw[Sv.il hp.sv oJ] at h3;rw[Gw.il hp.gw oK] at h4;have l3:(Sv.av n.sv p.sv).length<=40:=by
  split at h3
  .cases h3
  .omega
 have l4:(Gw.av n.gw p.gw).length<=6:=by
  split at h4
  .cases h4
  .omega
 have hf:=yY (Wh.tG hp.wh hk) jd;refine Nd.SE (Nd.mL.pe ⟨hq.name,hq.aC,hq.ms,hq.rs,?_,?_,hq.p,?_⟩) (Nd.bc hN).2
 .refine Sv.jR l3 (Sv.dD p.sv n.sv (Sv.af hp.sv).2.1) (λm hm=>?_)
  rcases Sv.eB p.sv n.sv m hm with h|h
  .exact Sv.bb _ (Sv.af hp.sv).2.2 m h
  .exact Sv.bb _ (Sv.af oJ).2.2 m h
 .refine Gw.jR l4 (Gw.dD p.gw n.gw (Gw.af hp.gw).2.1) (λm hm=>?_)
  rcases Gw.eB p.gw n.gw m hm with h|h
  .exact Gw.bb _ (Gw.af hp.gw).2.2 m h
  .exact Gw.bb _ (Gw.af oK).2.2 m h
 .refine Wh.jR hf.len hf.Eb (λm hm=>?_)
  rcases Dq p.wh n.wh m hm with h|h
  .exact Wh.bb _ (Wh.af hp.wh).2.2 m h
  .exact Wh.bb _ (Wh.af pw).2.2 m h
theorem xG{n:Nd}{p:Pk}(he:n.e=0)(h0:pJ n p=0):fA n (rJ n p):=by
 obtain⟨h1,h2,h3,h4⟩:=zH h0;have hp:=Nd.parts (Nd.bc he).1;obtain⟨pm,_,pw,oJ,oK⟩:=zn h1;refine⟨λm hm=>PK p.ms n ⟨hp.ms,hp.rs,hp.name⟩ pm h2 _ _ (tT (af hp.ms).2.1 hm),?_,?_⟩
 .exact pQ _ _ _ Sv.keyed Sv.iB (Sv.af hp.sv).2.1 (Sv.af oJ).2.1
 .exact pQ _ _ _ Gw.keyed Gw.iB (Gw.af hp.gw).2.1 (Gw.af oK).2.1
theorem Dr{n:Nd}{t:ByteArray}{a b:Int}(he:n.e=0)(hb:within b 1 4=true)(h0:ts n t a b=0):(zj n t b).e=0/\fA n (zj n t b):=by
 have hp:=Nd.parts (Nd.bc he).1;unfold ts at h0;split at h0
 .split at h0
  .split at h0
   .cases h0
   .split at h0
    .rename_i hs _ _
     obtain⟨g1,g2⟩:=sd hs;have hx:=(kC _).1 (lL hp.ms _ g1);have hm:=(kC { fc n.ms t with state:=b }).2 ⟨hx.1,hb,hx.2.2.1,hx.2.2.2⟩;have hr:=ju n { fc n.ms t with state:=b };exact⟨Ks he hm h0,pR hp (Ko ⟨hp.ms,hp.rs,hp.name⟩ hm (xl h0)) hr.sv hr.gw⟩
    .cases h0
  .cases h0
 .cases h0
theorem Ds{n:Nd}(he:n.e=0)(h0:Dp n=0):(Gx n).e=0/\fA n (Gx n):=by
 have hp:=Nd.parts (Nd.bc he).1;obtain⟨me,L1,_⟩:=Nd.pK (Nd.bc he).2;unfold Dp at h0;split at h0
 .cases h0
 .split at h0
  .cases h0
  .rename_i _ hl
   obtain⟨g1,g2⟩:=sd (ms:=n.ms) (t:=n.name) (by rw[L1];rfl);have hx:=(kC _).1 (lL hp.ms _ g1);have h5:=hx.2.2.1;simp only[within,IW,decide_eq_true_eq] at h5;have hm:(Ny n).e=0:=(kC _).2 ⟨hx.1,(by decide:within 4 1 4=true),by
    simp only[within,IW,decide_eq_true_eq];show 1<=(fc n.ms n.name).aM+1/\(fc n.ms n.name).aM+1<=1000000;omega,hx.2.2.2⟩
   have hr:=ju n (Ny n);exact⟨Ks he hm h0,pR hp (Ko ⟨hp.ms,hp.rs,hp.name⟩ hm (xl h0)) hr.sv hr.gw⟩
def KY(t:ByteArray)(p:Pl):Wh.bJ:=⟨t,p.x,p.y,p.z,p.h,p.s⟩
def Cd(n:Nd)(t:ByteArray)(p:Pl)(r:Int):Int:=if ba t=true then(if dZ p=0 then(if t=n.name then 6 else if mT r 1 5000000=true then PM n.wh (KY t p) else 3) else 3) else 1
def Gy(n:Nd)(t:ByteArray)(p:Pl)(r:Int):Nd:={ n with p:=kU n.p p r,wh:=Wh.aQ n.wh (KY t p) }
theorem Fk(a b:Pl)(r:Int)(ha:dZ a=0)(hb:dZ b=0):∃(q:Pl),(mT r 1 5000000=true->q=kU a b r)/\∀W,Calls AS 200 #[Ik #[U O a.x,U O a.y,U O a.z,U O a.h,U O a.s],Ik #[U O b.x,U O b.y,U O b.z,U O b.h,U O b.s],U O r] W λe w'=>e=AT (Im #[Ik #[U O q.x,U O q.y,U O q.z,U O q.h,U O q.s],U O (if mT r 1 5000000=true then 0 else 3)])/\Below W.heap.size W w':=by
 have ha':=(nj a).1 ha;have wA:=(nj b).1 hb;rcases hr:mT r 1 5000000 with _|_
 .exact⟨⟨0,0,0,0,0⟩,(λh=>by cases h),λW=>B7 a b r W ((wa a b).2 ⟨ha',wA⟩) hr⟩
 .exact⟨kU a b r,λ_=>rfl,λW=>Fa a b r W ha' wA hr⟩
theorem NA{b:Nat}{a w:World}(h:Sh (λk=>k=b) a w)(i0 i1 i2 i3 i4:Nat)(v0 v1 v2 v3 v4:Value):Sh (λk=>k=b) a (((((w.setCell ⟨b,i0,be⟩ v0).setCell ⟨b,i1,be⟩ v1).setCell ⟨b,i2,be⟩ v2).setCell ⟨b,i3,be⟩ v3).setCell ⟨b,i4,be⟩ v4):=
 ((((h.setCell (S:=λk=>k=b) rfl _).setCell (S:=λk=>k=b) rfl _).setCell (S:=λk=>k=b) rfl _).setCell (S:=λk=>k=b) rfl _).setCell (S:=λk=>k=b) rfl _
theorem Ce(L b:Nat)(n:Nd)(t:ByteArray)(p:Pl)(r:Int)(w:World)(h:Wk L w b n)(hL:L<=b)(hf:Wh.ow n.wh)(Ho:dZ n.p=0)(ht:t.size<=Io) :
 Calls AS 148 #[If (AI ⟨b,0,be⟩),Y t,Ik #[U O p.x,U O p.y,U O p.z,U O p.h,U O p.s],U O r] w λe w'=>e=AT (U O (Cd n t p r))/\Sh (λk=>k=b) w w'/\Hid (Cd n t p r=0->Wk L w' b (Gy n t p r)):=by
 have pD:Hid (Wk L w b n):=h;have aN:=h.lt;obtain⟨vm,vr,vs,vg,vw,h1,h2,h3,h4⟩:=h;have HX:Hid (∀W,Below w.heap.size w W->(W.heap[w.heap.size]?=AI (By #[U O p.x,U O p.y,U O p.z,U O p.h,U O p.s] 39 (0,0)))->W.heap[b]?=AI (By (dw n vm vr vs vg vw) 90 (0,0))/\W.heap[w.heap.size]?=AI (By #[U O p.x,U O p.y,U O p.z,U O p.h,U O p.s] 39 (0,0))):=λW hW hp=>⟨(hW.block _ aN).trans h1,hp⟩;have mr:Hid (∀W,Calls AS 101 #[Ik #[U O p.x,U O p.y,U O p.z,U O p.h,U O p.s]] W λe w'=>e=AT (U O (dZ p))/\Below W.heap.size W w'):=λW=>lK p W;have HMV:Hid (dZ p=0->∃(q:Pl),(mT r 1 5000000=true->q=kU n.p p r)/\∀W,Calls AS 200 #[Ik #[U O n.p.x,U O n.p.y,U O n.p.z,U O n.p.h,U O n.p.s],Ik #[U O p.x,U O p.y,U O p.z,U O p.h,U O p.s],U O r] W λe w'=>e=AT (Im #[Ik #[U O q.x,U O q.y,U O q.z,U O q.h,U O q.s],U O (if mT r 1 5000000=true then 0 else 3)])/\Below W.heap.size W w'):=λh=>Fk n.p p r Ho h;have M1:Hid (∀(q:Pl) W,Below w.heap.size w W->Wk L (((((W.setCell ⟨b,6,be⟩ (U O q.x)).setCell ⟨b,7,be⟩ (U O q.y)).setCell ⟨b,8,be⟩ (U O q.z)).setCell ⟨b,9,be⟩ (U O q.h)).setCell ⟨b,10,be⟩ (U O q.s)) b { n with p:=q }):=λq W hW=>(pD.out.below hW).VS q;have Td:Hid (∀(q:Pl) W,Wk L W b { n with p:=q }->Calls AS 201 #[If (AI ⟨b,0,be⟩),Ik #[Y t,U O p.x,U O p.y,U O p.z,U O p.h,U O p.s]] W λe w'=>e=AT (U O (PM n.wh (KY t p)))/\Sh (λk=>k=b) W w'/\Hid (Wk L w' b { n with p:=q,wh:=Wh.aQ n.wh (KY t p) })):=λq W hk=>Ei L b { n with p:=q } (KY t p) W hk hL hf ht;have HE:Hid (Cd n t p r=if ba t=true then(if dZ p=0 then(if t=n.name then 6 else if mT r 1 5000000=true then PM n.wh (KY t p) else 3) else 3) else 1):=rfl;have WK:Hid (Gy n t p r={ n with p:=kU n.p p r,wh:=Wh.aQ n.wh (KY t p) }):=rfl;have HCO:=Dt p;generalize Cd n t p r=res at *;generalize Gy n t p r=TN at *;generalize PM n.wh (KY t p)=nte at *;obtain⟨px,py,pz,ph,ps⟩:=p;simp only at HX mr HMV Td;clear h2 h3 h4 hf Ho;obtain⟨W1,cQ,aB,-,cI⟩:=bV w #[U O px,U O py,U O pz,U O ph,U O ps] 39;have aY:Hid (Below w.heap.size w W1):=aB;have uJ:Hid _:=cI;have fh:W1.heap.size=w.heap.size+1:=by rw[cQ];simp
 have tr:Hid (W1.heap.size=w.heap.size+1):=fh;obtain⟨c0,c1,c2,c3,c4⟩:=iZ cI;clear aB cI fh h1;have T6:Hid (∀W,Calls AS 53 #[Y t] W λe w'=>e=AT (Ia (ba t))/\w'=W):=λW=>bQ t W ht;go_enter Tryz.func148,Tryz.ntmps148;go_upto_region 1 with fail
 rw[<- cQ];clear cQ;rcases hlab:ba t with _|_
 .have HR:Hid (res=1):=HE.out.trans (by rw[hlab];rfl)
  rw[hlab] at T6;clear HE;go_wp2_with (first|(go_at_call 53;refine(T6.out _).mono ?_;rintro e w' ⟨rfl,PF⟩;have Gt:=PF.symm;subst Gt)|fail);go_ret;exact⟨ai HR.out.symm,Sh.of aY.out,λh=>by rw[HR.out] at h;cases h⟩
 rw[hlab] at T6;go_wp2_with (first|(go_at_call 53;refine(T6.out _).mono ?_;rintro e w' ⟨rfl,PF⟩;have Gt:=PF.symm;subst Gt)|fail);refine(mr.out W1).mono ?_;rintro e w2 ⟨rfl,aI⟩;have bp:Hid (Below w.heap.size w w2):=aY.out.trans (aI.mono aY.out.size);have dS:w2.heap[w.heap.size]?=AI (By #[U O px,U O py,U O pz,U O ph,U O ps] 39 (0,0)):=(aI.block _ (by have:=tr.out;omega)).trans uJ.out;clear c0 c1 c2 c3 c4 aI;rcases HCO with BO|BO;rotate_left
 .have HR:Hid (res=3):=HE.out.trans (by rw[hlab,BO];rfl)
  rw[BO];clear HE BO dS;go_wp2_with fail;go_ret;exact⟨ai HR.out.symm,Sh.of bp.out,λh=>by rw[HR.out] at h;cases h⟩
 have kx:Hid (res=if t=n.name then 6 else if mT r 1 5000000=true then nte else 3):=HE.out.trans (by rw[hlab,BO];rfl);obtain⟨⟨mx,my,mz,mh,NB⟩,uZ,hmv⟩:=HMV.out BO;rw[BO];clear HE BO HMV;have HTN:Hid (mT r 1 5000000=true->TN={ n with p:=⟨mx,my,mz,mh,NB⟩,wh:=Wh.aQ n.wh (KY t ⟨px,py,pz,ph,ps⟩) }):=λh=>by rw[WK.out,uZ h]
 have Aw:=λW hW=>M1.out ⟨mx,my,mz,mh,NB⟩ W hW;have T7:=λW hk=>Td.out ⟨mx,my,mz,mh,NB⟩ W hk;have HMC:Hid _:=hmv;clear WK M1 Td uZ hmv;simp only at Aw T7;obtain⟨T8,nct,VL,VM,VN,VO,⟨ax,ay,az,ah,Ax⟩,VP⟩:=n;simp only[dw] at HX;simp only at kx HMC HTN Aw T7;have WL:Hid _:=Aw;have WM:Hid _:=T7;clear Aw T7;have Aw:=WL;have T7:=WM;clear WL WM;generalize(⟨T8,nct,VL,VM,VN,VO,⟨mx,my,mz,mh,NB⟩,VP⟩:Nd)=NN at *;obtain⟨xH,_⟩:=HX.out w2 bp.out dS;have wC:Hid _:=dS;have HPB:Hid (∀W,Below w2.heap.size w2 W->W.heap[w.heap.size]?=AI (By #[U O px,U O py,U O pz,U O ph,U O ps] 39 (0,0))):=λW hW=>(hW.block _ (BY.1 wC.out).1).trans wC.out;have y0:w2.cell? ⟨b,0,be⟩=AI (Y T8):=ae xH 0;obtain⟨c0,c1,c2,c3,c4⟩:=iZ dS;have d0:w2.cell? ⟨b,6,be⟩=AI (U O ax):=ae xH 6;have d1:w2.cell? ⟨b,7,be⟩=AI (U O ay):=ae xH 7;have d2:w2.cell? ⟨b,8,be⟩=AI (U O az):=ae xH 8;have d3:w2.cell? ⟨b,9,be⟩=AI (U O ah):=ae xH 9;have d4:w2.cell? ⟨b,10,be⟩=AI (U O Ax):=ae xH 10;have aI:b<w2.heap.size:=by have:=bp.out.size;omega
 have sJ:w.heap.size<w2.heap.size:=(BY.1 dS).1;clear dS xH;by_cases dy:t=T8
 .have HR:Hid (res=6):=kx.out.trans (if_pos dy)
  have hq:(t.toList==T8.toList)=true:=by rw[dy];simp
  have jX:t.toList=T8.toList:=by rw[dy]
  clear kx dy;go_wp2_with fail;go_ret;exact⟨ai HR.out.symm,Sh.of bp.out,λh=>by rw[HR.out] at h;cases h⟩
 have hq:(t.toList==T8.toList)=false:=by rw[jy,decide_eq_false dy]
 have Dc:Hid (res=if mT r 1 5000000=true then nte else 3):=kx.out.trans (if_neg dy);clear kx dy;generalize mT r 1 5000000=bt at *;have HBT:Hid ((bt=true->res=nte)/\(bt=false->res=3)):=⟨λh=>by rw[Dc.out,h];rfl,λh=>by rw[Dc.out,h];rfl⟩;clear Dc;obtain⟨mE,hmE⟩:∃mE:Int,mE=if bt=true then 0 else 3:=⟨_,rfl⟩;rw[<- hmE] at HMC;have M3:Hid (mE=if bt=true then 0 else 3):=hmE;clear hmE;go_upto_region 8 with fail
 go_region_with (first|(go_at_call 200;refine(HMC.out _).mono ?_;rintro e w3 ⟨rfl,bU⟩;first
  |(have cF:Hid (Below w2.heap.size w2 w3):=(Ib w2.heap.size w2).drew.trans bU;clear bU)
  |(have cF:Hid (Below w2.heap.size w2 w3):=by
     first
     |exact(((Ib w2.heap.size w2).alloc (Ic _) _).drew).trans (bU.mono (by simp))
     |exact(((Ib w2.heap.size w2).drew).alloc (Ic _) _).trans (bU.mono (by simp))
    have qb:w3.heap[w2.heap.size]?=AI (By #[U O 0,U O 0,U O 0,U O 0,U O 0] 39 (0,0)):=(bU.block _ (by simp)).trans (Ii w2 _);obtain⟨f0,f1,f2,f3,f4⟩:=iZ qb;obtain⟨g0,g1,g2,g3,g4⟩:=ade qb;clear bU)))
 all_goals
  first
  |(obtain⟨V,hV⟩:∃V,V=w3.alloc (By #[U O mx,U O my,U O mz,U O mh,U O NB] 39):=⟨_,rfl⟩
    rw[<- hV];have uZ:V.heap[w3.heap.size]?=AI (By #[U O mx,U O my,U O mz,U O mh,U O NB] 39 (0,0)):=by rw[hV];exact Ii w3 _
    have oD:Hid (Below w2.heap.size w2 V):=by rw[hV];exact cF.out.alloc cF.out.size _
    clear hV;generalize w3.heap.size=mb at uZ ⊢)
  |(obtain⟨V,hV⟩:∃V,V=(((((w3.setCell ⟨w2.heap.size,0,be⟩ (U O mx)).setCell ⟨w2.heap.size,1,be⟩ (U O my)).setCell ⟨w2.heap.size,2,be⟩ (U O mz)).setCell ⟨w2.heap.size,3,be⟩ (U O mh)).setCell ⟨w2.heap.size,4,be⟩ (U O NB)):=⟨_,rfl⟩
    rw[<- hV];have uZ:V.heap[w2.heap.size]?=AI (By #[U O mx,U O my,U O mz,U O mh,U O NB] 39 (0,0)):=by rw[hV];exact IC (i:=4) (IC (i:=3) (IC (i:=2) (IC (i:=1) (IC (i:=0) qb _) _) _) _) _
    have oD:Hid (Below w2.heap.size w2 V):=by rw[hV];exact((((cF.out.setCell (p:=⟨w2.heap.size,0,be⟩) (Ic _) _).setCell (p:=⟨w2.heap.size,1,be⟩) (Ic _) _).setCell (p:=⟨w2.heap.size,2,be⟩) (Ic _) _).setCell (p:=⟨w2.heap.size,3,be⟩) (Ic _) _).setCell (p:=⟨w2.heap.size,4,be⟩) (Ic _) _
    clear hV f0 f1 f2 f3 f4 g0 g1 g2 g3 g4 qb;generalize w2.heap.size=mb at uZ ⊢)
  clear c0 c1 c2 c3 c4 d0 d1 d2 d3 d4 y0 aI sJ;have jA:Hid (Below w.heap.size w V):=bp.out.trans (oD.out.mono bp.out.size);obtain⟨xH,GD⟩:=HX.out V jA.out (HPB.out V oD.out);obtain⟨c0,c1,c2,c3,c4⟩:=iZ GD;obtain⟨m0,m1,m2,m3,m4⟩:=iZ uZ;have d0:V.cell? ⟨b,6,be⟩=AI (U O ax):=ae xH 6;have dz0:V.frozen? ⟨b,6,be⟩=false:=an xH 6;have d1:V.cell? ⟨b,7,be⟩=AI (U O ay):=ae xH 7;have dz1:V.frozen? ⟨b,7,be⟩=false:=an xH 7;have d2:V.cell? ⟨b,8,be⟩=AI (U O az):=ae xH 8;have dz2:V.frozen? ⟨b,8,be⟩=false:=an xH 8;have d3:V.cell? ⟨b,9,be⟩=AI (U O ah):=ae xH 9;have dz3:V.frozen? ⟨b,9,be⟩=false:=an xH 9;have d4:V.cell? ⟨b,10,be⟩=AI (U O Ax):=ae xH 10;have dz4:V.frozen? ⟨b,10,be⟩=false:=an xH 10;have NC:b<V.heap.size:=by have:=jA.out.size;omega
  have hwV:w.heap.size<V.heap.size:=(BY.1 GD).1;have VX:¬ w.heap.size=b:=by omega
  rcases GY:bt with _|_
  .have WN:=HBT.out.2 GY
   have An:Hid (res=3):=WN;have hm:mE=3:=M3.out.trans (by rw[GY];rfl);rw[hm];clear hm WN GY;go_wp2_with fail;go_ret;exact⟨ai An.out.symm,Sh.of jA.out,λh=>by rw[An.out] at h;cases h⟩
  .have hm:mE=0:=M3.out.trans (by rw[GY];rfl)
   have HRE:Hid (res=nte):=HBT.out.1 GY;have HTE:Hid (TN=_):=HTN.out GY;rw[hm];clear hm GY;obtain⟨W9,WO⟩:∃W9,W9=(((((V.setCell ⟨b,6,be⟩ (U O mx)).setCell ⟨b,7,be⟩ (U O my)).setCell ⟨b,8,be⟩ (U O mz)).setCell ⟨b,9,be⟩ (U O mh)).setCell ⟨b,10,be⟩ (U O NB)):=⟨_,rfl⟩;have HK9:Hid (Wk L W9 b NN):=by rw[WO];exact Aw.out V jA.out
   have HS9:Hid (Sh (λk=>k=b) w W9):=by rw[WO];exact NA (Sh.of jA.out) _ _ _ _ _ _ _ _ _ _
   have hp9:W9.heap[w.heap.size]?=AI (By #[U O px,U O py,U O pz,U O ph,U O ps] 39 (0,0)):=by
    have e5:∀(W:World) (j:Nat) (v:Value),(W.setCell ⟨b,j,be⟩ v).heap[w.heap.size]?=W.heap[w.heap.size]?:=λW j v=>Below.heap_setCell _ _ _ _ (by simp only;omega);rw[WO,e5,e5,e5,e5,e5];exact GD
   go_upto_region 12 with fail
   rw[<- WO];clear WO c0 c1 c2 c3 c4 m0 m1 m2 m3 m4 d0 dz0 d1 dz1 d2 dz2 d3 dz3 d4 dz4 xH GD uZ;obtain⟨c0,c1,c2,c3,c4⟩:=iZ hp9;go_wp2_with fail;refine(T7.out W9 HK9.out).mono ?_;rintro e w9 ⟨rfl,WQ,hk9⟩;have aeB:Hid (Sh (λk=>k=b) w w9):=HS9.out.trans WQ;clear WQ;go_wp2_with fail;go_ret;exact⟨ai HRE.out.symm,aeB.out,λ_=>by rw[HTE.out];exact hk9.out⟩
theorem Cf(L b tb:Nat)(n:Nd)(t:ByteArray)(p:Pl)(r:Int)(w:World)(h:Wk L w b n)(hL:L<=b)(hf:Wh.ow n.wh)(Ho:dZ n.p=0)(ht:t.size<=Io)(hc1:w.heap[tb+1]?=AI (By #[Y t] 9 (0,0)))(AA:w.heap[tb+2]?=AI (By #[U O p.x,U O p.y,U O p.z,U O p.h,U O p.s] 39 (0,0)))(MC:w.heap[tb+3]?=AI (By #[U O r] 3 (0,0))) :
 Calls AS 147 #[If (AI ⟨b,0,be⟩),If (AI ⟨tb+1,0,be⟩),If (AI ⟨tb+2,0,be⟩),If (AI ⟨tb+3,0,be⟩)] w λe w'=>e=AT (U O (Cd n t p r))/\Sh (λk=>k=b) w w'/\Hid (Cd n t p r=0->Wk L w' b (Gy n t p r)):=by
 have HC:Hid (Calls AS 148 #[If (AI ⟨b,0,be⟩),Y t,Ik #[U O p.x,U O p.y,U O p.z,U O p.h,U O p.s],U O r] w λe w'=>e=AT (U O (Cd n t p r))/\Sh (λk=>k=b) w w'/\Hid (Cd n t p r=0->Wk L w' b (Gy n t p r))):=Ce L b n t p r w h hL hf Ho ht;have y0:w.cell? ⟨tb+1,0,be⟩=AI (Y t):=ae hc1 0;have z0:w.cell? ⟨tb+3,0,be⟩=AI (U O r):=ae MC 0;obtain⟨x0,x1,x2,x3,x4⟩:=iZ AA;clear h hc1 AA MC hf Ho;generalize Cd n t p r=we at *;generalize Gy n t p r=wn at *;obtain⟨px,py,pz,ph,ps⟩:=p;simp only at HC x0 x1 x2 x3 x4;go_enter Tryz.func147,Tryz.ntmps147;go_wp2_with fail;refine HC.out.mono ?_;rintro e w1 ⟨rfl,hs,hk⟩;have HS:Hid (Sh (λk=>k=b) w w1):=hs;clear hs;go_wp2_with fail;go_ret;exact⟨rfl,HS.out,hk⟩
theorem Fl(n:Nd)(t:ByteArray)(p:Pl)(r:Int)(vm vr vs vg vw:Value)(w:World)(h:eT w n vm vr vs vg vw)(ht:t.size<=Io) :
 Calls AS 91 #[Ik (dw n vm vr vs vg vw),Y t,Ik #[U O p.x,U O p.y,U O p.z,U O p.h,U O p.s],U O r] w λe w'=>dx n.e (Cd n t p r) (Gy n t p r) w e w':=by
 have l9:Hid (eT w n vm vr vs vg vw):=h;obtain⟨W0,bA⟩:∃W0,W0=w.heap.size:=⟨_,rfl⟩;clear bA W0;have lC:Hid (∀W0,Below w.heap.size w W0->W0.heap.size=w.heap.size+5->W0.heap[w.heap.size+1]?=AI (By #[Y t] 9 (0,0))->W0.heap[w.heap.size+2]?=AI (By #[U O p.x,U O p.y,U O p.z,U O p.h,U O p.s] 39 (0,0))->W0.heap[w.heap.size+3]?=AI (By #[U O r] 3 (0,0))->Calls AS 29 #[Ik (dw n vm vr vs vg vw),IP (.func 147) #[] #[If (AI ⟨w.heap.size+1,0,be⟩),If (AI ⟨w.heap.size+2,0,be⟩),If (AI ⟨w.heap.size+3,0,be⟩)]] W0 λe w'=>fu n.e (Cd n t p r) (Gy n t p r) (λ_=>False) (λ_=>True) W0 e w'):=λW0 hb hs hc1 AA MC=>
  iR 147 #[If (AI ⟨w.heap.size+1,0,be⟩),If (AI ⟨w.heap.size+2,0,be⟩),If (AI ⟨w.heap.size+3,0,be⟩)] (Jj Tryz.func147 (by kernel_rfl) rfl) n vm vr vs vg vw W0 (h.below hb) (λ_=>False) (Cd n t p r) (Gy n t p r) (λ_=>True)
   (λhe W b hW aI hk=>by
    refine(Cf (W0.heap.size+2) b (w.heap.size) n t p r W hk (by omega) (Wh.tG (Nd.parts (Nd.bc he).1).wh h.ok.wh) (Nd.parts (Nd.bc he).1).p ht ((hW.block _ (by omega)).trans hc1) ((hW.block _ (by omega)).trans AA) ((hW.block _ (by omega)).trans MC)).mono ?_;rintro e w' ⟨rfl,hs,hh⟩;exact⟨rfl,hs.mono (λk hk=>.inl (by omega)),λh=>⟨hh.out h,trivial⟩⟩
   ) (λ_ _ _ _=>trivial) (λ_ hk=>hk.elim)
 obtain⟨nm,ct,ms,rs,sv,gw,⟨px,py,pz,ph,pq⟩,wh⟩:=n;obtain⟨⟨em,cm,rfl,_,_⟩,⟨qG,cr,rfl,_,_⟩,⟨es,qH,rfl,_,_⟩,⟨qI,cg,rfl,_,_⟩,⟨eh,ch,rfl,_,_⟩,_,_⟩:=h;simp only[dw] at lC ⊢;generalize ms.length=km at *;generalize rs.length=kr at *;generalize sv.length=ks at *;generalize gw.length=kg at *;generalize wh.length=kh at *;generalize Nd.e ⟨nm,ct,ms,rs,sv,gw,⟨px,py,pz,ph,pq⟩,wh⟩=ne at *;generalize Cd ⟨nm,ct,ms,rs,sv,gw,⟨px,py,pz,ph,pq⟩,wh⟩ t p r=er at *;generalize Gy ⟨nm,ct,ms,rs,sv,gw,⟨px,py,pz,ph,pq⟩,wh⟩ t p r=n' at *;obtain⟨bx,by_,bz,bh,bs⟩:=p;simp only at lC ⊢;obtain⟨W0,bA,bM,eE,vu,hc1,AA,MC,dd⟩:=RR w #[Y nm,Y ct,J em km cm,J qG kr cr,J es ks qH,J qI kg cg,U O px,U O py,U O pz,U O ph,U O pq,J eh kh ch] #[Y t] #[U O bx,U O by_,U O bz,U O bh,U O bs] #[U O r] #[Y ⟨#[]⟩,Y ⟨#[]⟩,J be 0 0,J be 0 0,J be 0 0,J be 0 0,U O 0,U O 0,U O 0,U O 0,U O 0,J be 0 0] 42 9 39 3 42;have rh:=lC.out W0 bM eE hc1 AA MC;have cY:Hid _:=bM;have nE:Hid _:=dd;clear bM eE vu hc1 AA MC dd lC;go_enter Tryz.func91,Tryz.ntmps91;go_wp2_with fail;rw[<- bA];refine rh.mono ?_;intro e w1 h;obtain⟨cX,u0,u1,b2,m2,e2,b3,m3,e3,b4,m4,e4,b5,m5,e5,u6,u7,u8,u9,u10,b11,m11,e11,r1,rfl,HR⟩:=h.wrap cY.out nE.out (by omega);obtain⟨q0,q1,q2,q3,q4,q5,q6,q7,q8,q9,q10,q11⟩:=bu cX;obtain⟨vI,vJ,xa,xb,xc,xd,CV,CW,CX,CY,pA,pB⟩:=jS cX;clear h cX rh bA cY nE;simp only[aD,ID,Jg] at HR;go_wp2_with fail;exact IL (v:=Im #[Ik #[Y u0,Y u1,J b2 m2 e2,J b3 m3 e3,J b4 m4 e4,J b5 m5 e5,U O u6,U O u7,U O u8,U O u9,U O u10,J b11 m11 e11],U O r1]) (by simp[results,Tryz.results91,go_sem,q0,q1,q2,q3,q4,q5,q6,q7,q8,q9,q10,q11]) rfl HR.out
end Go.Proofs.YtfidhgjmifendaaGreatDoor
