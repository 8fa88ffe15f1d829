import Derived.Test.YtfidhgjmifendaaGreatDoorns42
import Derived.Test.YtfidhgjmifendaaGreatDoorns37
import Derived.Test.YtfidhgjmifendaaGreatDoorns43
set_option maxHeartbeats 25600000
set_option maxRecDepth 100000
open Go.Ending renaming returned→AT
open Go.Value renaming tuple→Ik,slice→J,int→U,pointer→Ie,string→Y,bool→Ia,agg→Ij,func→IT
open Go.IntKind renaming i64→O
open Go.Proofs.Tryz renaming prog→AS
open Option renaming some→AI,none→be
open Go.Obj renaming cells→By
open Go.RowKit.Below renaming refl→Ib
open Nat renaming le_refl→Ic,zero_add→IC,reduceAdd→Jf
open Go renaming heap_alloc_new→Ih,bodyPost_ret→IK,maxLen→Il
open Go.Proofs renaming enters_of→Jj
open Bool renaming and_eq_true→IF
open Go.Joins renaming block_setCell→IB
open List renaming mem_cons→IQ,getElem_of_mem→IX
open Array renaming getElem?_eq_some_iff→BY
namespace Go.Proofs.YtfidhgjmifendaaGreatDoor
open Go.RowKit
def sG(n:Nd)(s:Sv.aY)(E:Int):Int:=if s.node=n.name then E else 4
theorem Cs(L b:Nat)(n:Nd)(s:Sv.aY)(E:Int)(X:List Sv.aY)(w:World)(h:Wk L w b n)(hL:L<=b)(hX:∀x∈X,x.ok)(qw:∀v W,Sv.Sl W v n.sv->Calls AS 202 #[v,Vr s] W λe w'=>∃p l c,e=AT (Ik #[J p l c,U O E])/\Hid (Sv.Own W.heap.size w' (J p l c) X)/\Below W.heap.size W w') :
 Calls AS 150 #[Ie (AI ⟨b,0,be⟩),Vr s] w λe w'=>e=AT (U O (sG n s E))/\Sh (λk=>k=b) w w'/\Hid (sG n s E=0->Wk L w' b { n with sv:=X }):=by
 have qj:Hid (Wk L w b n):=h;have aR:=h.lt;obtain⟨vm,vr,vs,vg,vw,h1,h2,h3,h4⟩:=h;have mC:Hid _:=h2.is h4;obtain⟨A4,cs,uc,_⟩:=aA h2.sv;subst uc;have yL:Hid (∀W,Below w.heap.size w W->Calls _ _ _ _ _):=λW hW=>qw _ W (mC.out.sv.below hW);have tP:Hid (∀W w1 a k c,Below w.heap.size w W->Below W.heap.size W w1->Sv.Own W.heap.size w1 (J a k c) X->Wk L (w1.setCell ⟨b,4,be⟩ (J a k c)) b { n with sv:=X }):=λW w1 a k c hW h1 h2=>
  (qj.out.below hW).BS (by have:=hW.size;omega) h1 h2 hX
 have HX:Hid (∀W,Below w.heap.size w W->W.heap[b]?=AI (By (dv n vm vr (J A4 n.sv.length cs) vg vw) 90 (0,0))):=λW hW=>(hW.block _ aR).trans h1;have HE:Hid (sG n s E=if s.node=n.name then E else 4):=rfl;generalize sG n s E=res at *;generalize Bo:n.sv.length=kr at *;clear Bo h1 h2 h3 h4 hX qw;obtain⟨s0,s1,s2,s3,s4,s5,s6,s7,s8⟩:=s;simp only[Vr] at yL HE ⊢;obtain⟨W2,bJ⟩:∃W2,W2=w.alloc (By #[Y s0,Y s1,Y s2,Y s3,U O s4,U O s5,Ia s6,U O s7,Ia s8] 46):=⟨_,rfl⟩;have aK:Below w.heap.size w W2:=by rw[bJ];exact(Ib _ _).alloc (Ic _) _
 have bu:Hid _:=aK;have dS:W2.heap[w.heap.size]?=AI (By #[Y s0,Y s1,Y s2,Y s3,U O s4,U O s5,Ia s6,U O s7,Ia s8] 46 (0,0)):=by rw[bJ];exact Ih w _
 obtain⟨x0,x1,x2,x3,x4,x5,x6,x7,x8⟩:=H7 dS;have y0:=ae (HX.out W2 aK) 0;have y3:=ae (HX.out W2 aK) 4;have Sy:b<W2.heap.size:=by have:=bu.out.size;omega
 go_enter Tryz.func150,Tryz.ntmps150;go_upto_region 1 with fail
 rw[<- bJ];clear bJ aK dS;by_cases cZ:s0=n.name
 .have HR:Hid _:=HE.out.trans (if_pos cZ)
  have hq:(s0.toList==n.name.toList)=true:=by rw[cZ];simp
  have wD:s0.toList=n.name.toList:=by rw[cZ]
  clear HE cZ;go_quiet (fail)
  go_wp2_with fail;generalize hV:W2.drewN _=V;have pt:Hid (Below w.heap.size w V):=by rw[<- hV];exact below_drewN bu.out _
  have u0:V.cell? ⟨w.heap.size,0,be⟩=AI (Y s0):=by rw[<- hV];exact x0
  have u1:V.cell? ⟨w.heap.size,1,be⟩=AI (Y s1):=by rw[<- hV];exact x1
  have u2:V.cell? ⟨w.heap.size,2,be⟩=AI (Y s2):=by rw[<- hV];exact x2
  have u3:V.cell? ⟨w.heap.size,3,be⟩=AI (Y s3):=by rw[<- hV];exact x3
  have u4:V.cell? ⟨w.heap.size,4,be⟩=AI (U O s4):=by rw[<- hV];exact x4
  have u5:V.cell? ⟨w.heap.size,5,be⟩=AI (U O s5):=by rw[<- hV];exact x5
  have u6:V.cell? ⟨w.heap.size,6,be⟩=AI (Ia s6):=by rw[<- hV];exact x6
  have u7:V.cell? ⟨w.heap.size,7,be⟩=AI (U O s7):=by rw[<- hV];exact x7
  have u8:V.cell? ⟨w.heap.size,8,be⟩=AI (Ia s8):=by rw[<- hV];exact x8
  have v3:V.cell? ⟨b,4,be⟩=AI (J A4 kr cs):=by rw[<- hV];exact y3
  have hbv:b<V.heap.size:=by rw[<- hV];exact Sy
  clear hV x0 x1 x2 x3 x4 x5 x6 x7 x8 y0 y3 Sy bu;go_region_with (first|(go_at_call 202;refine(yL.out _ pt.out.drew).mono ?_;rintro e w3 ⟨a,k,c,rfl,lE,bX⟩;have cJ:Hid (Below V.heap.size V w3):=(Ib V.heap.size V).drew.trans bX;have ec:Hid (Wk L (w3.setCell ⟨b,4,be⟩ (J a k c)) b { n with sv:=X }):=tP.out _ _ a k c pt.out.drew bX lE.out;have ix:=HX.out w3 (pt.out.trans (cJ.out.mono pt.out.size));have z3:w3.cell? ⟨b,4,be⟩=AI (J A4 kr cs):=ae ix 4;have zf:w3.frozen? ⟨b,4,be⟩=false:=aj ix 4;clear bX lE ix))
  all_goals
   go_wp2_with fail;go_ret;exact⟨ai HR.out.symm,((Sh.of pt.out).next cJ.out).setCell (S:=λk=>k=b) rfl _,λ_=>ec.out⟩
 .have HR:Hid _:=HE.out.trans (if_neg cZ)
  have hq:(s0.toList==n.name.toList)=false:=by rw[jM,decide_eq_false cZ]
  clear HE cZ;go_quiet (fail)
  go_wp2_with fail;go_ret;exact⟨ai HR.out.symm,Sh.of (below_drewN bu.out _),λh=>by have:=HR.out.symm.trans h;cases this⟩
theorem FA(L b:Nat)(n:Nd)(t:ByteArray)(E:Int)(X:List Sv.aY)(w:World)(h:Wk L w b n)(hL:L<=b)(hX:∀x∈X,x.ok)(qw:∀v W,Sv.Sl W v n.sv->Calls AS 203 #[v,Y n.name,Y t] W λe w'=>∃p l c,e=AT (Ik #[J p l c,U O E])/\Hid (Sv.Own W.heap.size w' (J p l c) X)/\Below W.heap.size W w') :
 Calls AS 152 #[Ie (AI ⟨b,0,be⟩),Y t] w λe w'=>e=AT (U O E)/\Sh (λk=>k=b) w w'/\Hid (E=0->Wk L w' b { n with sv:=X }):=by
 have qj:Hid (Wk L w b n):=h;have aR:=h.lt;obtain⟨vm,vr,vs,vg,vw,h1,h2,h3,h4⟩:=h;have mC:Hid _:=h2.is h4;obtain⟨A4,cs,uc,_⟩:=aA h2.sv;subst uc;have yL:Hid (∀W,Below w.heap.size w W->Calls _ _ _ _ _):=λW hW=>qw _ W (mC.out.sv.below hW);have tP:Hid (∀W w1 a k c,Below w.heap.size w W->Below W.heap.size W w1->Sv.Own W.heap.size w1 (J a k c) X->Wk L (w1.setCell ⟨b,4,be⟩ (J a k c)) b { n with sv:=X }):=λW w1 a k c hW h1 h2=>
  (qj.out.below hW).BS (by have:=hW.size;omega) h1 h2 hX
 have HX:Hid (∀W,Below w.heap.size w W->W.heap[b]?=AI (By (dv n vm vr (J A4 n.sv.length cs) vg vw) 90 (0,0))):=λW hW=>(hW.block _ aR).trans h1;have y0:=ae h1 0;have y3:=ae h1 4;generalize Bo:n.sv.length=kr at *;clear Bo h1 h2 h3 h4 hX qw;have pt:Hid (Below w.heap.size w w):=Ib _ _;go_enter Tryz.func152,Tryz.ntmps152;go_upto_region 1 with fail
 go_region_with (first|(go_at_call 203;refine(yL.out _ pt.out.drew).mono ?_;rintro e w3 ⟨a,k,c,rfl,lE,bX⟩;have cJ:Hid (Below w.heap.size w w3):=(Ib w.heap.size w).drew.trans bX;have ec:Hid (Wk L (w3.setCell ⟨b,4,be⟩ (J a k c)) b { n with sv:=X }):=tP.out _ _ a k c pt.out.drew bX lE.out;have ix:=HX.out w3 (pt.out.trans (cJ.out.mono pt.out.size));have z3:w3.cell? ⟨b,4,be⟩=AI (J A4 kr cs):=ae ix 4;have zf:w3.frozen? ⟨b,4,be⟩=false:=aj ix 4;clear bX lE ix))
 all_goals
  go_wp2_with fail;go_ret;exact⟨rfl,((Sh.of pt.out).next cJ.out).setCell (S:=λk=>k=b) rfl _,λ_=>ec.out⟩
theorem FB(L b:Nat)(n:Nd)(ad:Int)(E:Int)(X:List Gw.bL)(w:World)(h:Wk L w b n)(hL:L<=b)(hX:∀x∈X,x.ok)(qw:∀v W,Gw.Sl W v n.gw->Calls AS 204 #[v,Y n.aD,U O ad] W λe w'=>∃p l c,e=AT (Ik #[J p l c,U O E])/\Hid (Gw.Own W.heap.size w' (J p l c) X)/\Below W.heap.size W w') :
 Calls AS 154 #[Ie (AI ⟨b,0,be⟩),U O ad] w λe w'=>e=AT (U O E)/\Sh (λk=>k=b) w w'/\Hid (E=0->Wk L w' b { n with gw:=X }):=by
 have qj:Hid (Wk L w b n):=h;have aR:=h.lt;obtain⟨vm,vr,vs,vg,vw,h1,h2,h3,h4⟩:=h;have mC:Hid _:=h2.is h4;obtain⟨A4,cs,uc,_⟩:=aA h2.gw;subst uc;have yL:Hid (∀W,Below w.heap.size w W->Calls _ _ _ _ _):=λW hW=>qw _ W (mC.out.gw.below hW);have tP:Hid (∀W w1 a k c,Below w.heap.size w W->Below W.heap.size W w1->Gw.Own W.heap.size w1 (J a k c) X->Wk L (w1.setCell ⟨b,5,be⟩ (J a k c)) b { n with gw:=X }):=λW w1 a k c hW h1 h2=>
  (qj.out.below hW).Kr (by have:=hW.size;omega) h1 h2 hX
 have HX:Hid (∀W,Below w.heap.size w W->W.heap[b]?=AI (By (dv n vm vr vs (J A4 n.gw.length cs) vw) 90 (0,0))):=λW hW=>(hW.block _ aR).trans h1;have y0:=ae h1 1;have y3:=ae h1 5;generalize Bo:n.gw.length=kr at *;clear Bo h1 h2 h3 h4 hX qw;have pt:Hid (Below w.heap.size w w):=Ib _ _;go_enter Tryz.func154,Tryz.ntmps154;go_upto_region 1 with fail
 go_region_with (first|(go_at_call 204;refine(yL.out _ pt.out.drew).mono ?_;rintro e w3 ⟨a,k,c,rfl,lE,bX⟩;have cJ:Hid (Below w.heap.size w w3):=(Ib w.heap.size w).drew.trans bX;have ec:Hid (Wk L (w3.setCell ⟨b,5,be⟩ (J a k c)) b { n with gw:=X }):=tP.out _ _ a k c pt.out.drew bX lE.out;have ix:=HX.out w3 (pt.out.trans (cJ.out.mono pt.out.size));have z3:w3.cell? ⟨b,5,be⟩=AI (J A4 kr cs):=ae ix 5;have zf:w3.frozen? ⟨b,5,be⟩=false:=aj ix 5;clear bX lE ix))
 all_goals
  go_wp2_with fail;go_ret;exact⟨rfl,((Sh.of pt.out).next cJ.out).setCell (S:=λk=>k=b) rfl _,λ_=>ec.out⟩
theorem Ct(L b tb:Nat)(n:Nd)(s:Sv.aY)(E:Int)(X:List Sv.aY)(w:World)(h:Wk L w b n)(hL:L<=b)(hX:∀x∈X,x.ok)(qw:∀v W,Sv.Sl W v n.sv->Calls AS 202 #[v,Vr s] W λe w'=>∃p l c,e=AT (Ik #[J p l c,U O E])/\Hid (Sv.Own W.heap.size w' (J p l c) X)/\Below W.heap.size W w')(hc:w.heap[tb]?=AI (By #[Y s.node,Y s.bP,Y s.name,Y s.tag,U O s.addr,U O s.port,Ia s.an,U O s.version,Ia s.gone] 46 (0,0))) :
 Calls AS 149 #[Ie (AI ⟨b,0,be⟩),Ie (AI ⟨tb,0,be⟩)] w λe w'=>e=AT (U O (sG n s E))/\Sh (λk=>k=b) w w'/\Hid (sG n s E=0->Wk L w' b { n with sv:=X }):=by
 have HC:Hid (Calls _ _ _ _ _):=Cs L b n s E X w h hL hX qw;obtain⟨y0,y1,y2,y3,y4,y5,y6,y7,y8⟩:=H7 hc;clear h hc qw hX;generalize sG n s E=we at *;go_enter Tryz.func149,Tryz.ntmps149;go_wp2_with fail;refine HC.out.mono ?_;rintro e w1 ⟨rfl,hs,hk⟩;have HS:Hid _:=hs;clear hs;go_wp2_with fail;go_ret;exact⟨rfl,HS.out,hk⟩
theorem FC(L b tb:Nat)(n:Nd)(t:ByteArray)(E:Int)(X:List Sv.aY)(w:World)(h:Wk L w b n)(hL:L<=b)(hX:∀x∈X,x.ok)(qw:∀v W,Sv.Sl W v n.sv->Calls AS 203 #[v,Y n.name,Y t] W λe w'=>∃p l c,e=AT (Ik #[J p l c,U O E])/\Hid (Sv.Own W.heap.size w' (J p l c) X)/\Below W.heap.size W w')(hc:w.heap[tb]?=AI (By #[Y t] 9 (0,0))) :
 Calls AS 151 #[Ie (AI ⟨b,0,be⟩),Ie (AI ⟨tb,0,be⟩)] w λe w'=>e=AT (U O (E))/\Sh (λk=>k=b) w w'/\Hid (E=0->Wk L w' b { n with sv:=X }):=by
 have HC:Hid (Calls _ _ _ _ _):=FA L b n t E X w h hL hX qw;have y0:=ae hc 0;clear h hc qw hX;go_enter Tryz.func151,Tryz.ntmps151;go_wp2_with fail;refine HC.out.mono ?_;rintro e w1 ⟨rfl,hs,hk⟩;have HS:Hid _:=hs;clear hs;go_wp2_with fail;go_ret;exact⟨rfl,HS.out,hk⟩
theorem FD(L b tb:Nat)(n:Nd)(ad:Int)(E:Int)(X:List Gw.bL)(w:World)(h:Wk L w b n)(hL:L<=b)(hX:∀x∈X,x.ok)(qw:∀v W,Gw.Sl W v n.gw->Calls AS 204 #[v,Y n.aD,U O ad] W λe w'=>∃p l c,e=AT (Ik #[J p l c,U O E])/\Hid (Gw.Own W.heap.size w' (J p l c) X)/\Below W.heap.size W w')(hc:w.heap[tb]?=AI (By #[U O ad] 3 (0,0))) :
 Calls AS 153 #[Ie (AI ⟨b,0,be⟩),Ie (AI ⟨tb,0,be⟩)] w λe w'=>e=AT (U O (E))/\Sh (λk=>k=b) w w'/\Hid (E=0->Wk L w' b { n with gw:=X }):=by
 have HC:Hid (Calls _ _ _ _ _):=FB L b n ad E X w h hL hX qw;have y0:=ae hc 0;clear h hc qw hX;go_enter Tryz.func153,Tryz.ntmps153;go_wp2_with fail;refine HC.out.mono ?_;rintro e w1 ⟨rfl,hs,hk⟩;have HS:Hid _:=hs;clear hs;go_wp2_with fail;go_ret;exact⟨rfl,HS.out,hk⟩
theorem FE(n:Nd)(s:Sv.aY)(E:Int)(X:List Sv.aY)(vm vr vs vg vw:Value)(w:World)(h:eY w n vm vr vs vg vw)(hX:∀x∈X,x.ok)(qw:n.e=0->∀v W,Sv.Sl W v n.sv->Calls AS 202 #[v,Vr s] W λe w'=>∃p l c,e=AT (Ik #[J p l c,U O E])/\Hid (Sv.Own W.heap.size w' (J p l c) X)/\Below W.heap.size W w') :
 Calls AS 93 #[Ij (dv n vm vr vs vg vw),Ij #[Y s.node,Y s.bP,Y s.name,Y s.tag,U O s.addr,U O s.port,Ia s.an,U O s.version,Ia s.gone]] w λe w'=>dB n.e (sG n s E) ({ n with sv:=X }) w e w':=by
 have mC:Hid _:=h;obtain⟨W0,bN⟩:∃W0,W0=w.heap.size:=⟨_,rfl⟩;clear bN W0;have mg:Hid (∀W0,Below w.heap.size w W0->W0.heap.size=w.heap.size+3->W0.heap[w.heap.size+1]?=AI (By #[Y s.node,Y s.bP,Y s.name,Y s.tag,U O s.addr,U O s.port,Ia s.an,U O s.version,Ia s.gone] 46 (0,0))->Calls AS 29 #[Ij (dv n vm vr vs vg vw),IT (.func 149) #[] #[Ie (AI ⟨w.heap.size+1,0,be⟩)]] W0 λe w'=>fG n.e (sG n s E) ({ n with sv:=X }) (λ_=>False) (λ_=>True) W0 e w'):=λW0 hb hs hc1=>
  jf 149 #[Ie (AI ⟨w.heap.size+1,0,be⟩)] (Jj Tryz.func149 (by kernel_rfl) rfl) n vm vr vs vg vw W0 (h.below hb) (λ_=>False) (sG n s E) ({ n with sv:=X }) (λ_=>True)
   (λhe W b hW aK hk=>by
    refine(Ct (W0.heap.size+2) b (w.heap.size+1) n s E X W hk (by omega) hX (qw he) ((hW.block _ (by omega)).trans hc1)).mono ?_;rintro e w' ⟨rfl,hs,hh⟩;exact⟨rfl,hs.mono (λk hk=>.inl (by omega)),λh=>⟨hh.out h,trivial⟩⟩
   ) (λ_ _ _ _=>trivial) (λ_ hk=>hk.elim)
 clear qw;obtain⟨nm,ct,ms,rs,sv,gw,⟨px,py,pz,ph,pq⟩,wh⟩:=n;obtain⟨⟨em,cm,rfl,_,_⟩,⟨rm,cr,rfl,_,_⟩,⟨es,rn,rfl,_,_⟩,⟨rq,cg,rfl,_,_⟩,⟨eh,ch,rfl,_,_⟩,_,_⟩:=h;simp only[dv] at mg ⊢;generalize ms.length=km at *;generalize rs.length=kr at *;generalize sv.length=ks at *;generalize gw.length=kg at *;generalize wh.length=kh at *;generalize Nd.e ⟨nm,ct,ms,rs,sv,gw,⟨px,py,pz,ph,pq⟩,wh⟩=ne at *;generalize sG ⟨nm,ct,ms,rs,sv,gw,⟨px,py,pz,ph,pq⟩,wh⟩ s E=er at *;generalize(⟨nm,ct,ms,rs,X,gw,⟨px,py,pz,ph,pq⟩,wh⟩:Nd)=n' at *;obtain⟨W0,bN,bO,eK,vR,hc1,di⟩:=oQ w #[Y nm,Y ct,J em km cm,J rm kr cr,J es ks rn,J rq kg cg,U O px,U O py,U O pz,U O ph,U O pq,J eh kh ch] #[Y s.node,Y s.bP,Y s.name,Y s.tag,U O s.addr,U O s.port,Ia s.an,U O s.version,Ia s.gone] #[Y ⟨#[]⟩,Y ⟨#[]⟩,J be 0 0,J be 0 0,J be 0 0,J be 0 0,U O 0,U O 0,U O 0,U O 0,U O 0,J be 0 0] 42 46 42;have rQ:=mg.out W0 bO eK hc1;have db:Hid _:=bO;have nY:Hid _:=di;clear bO eK vR hc1 di mg;go_enter Tryz.func93,Tryz.ntmps93;go_wp2_with fail;rw[<- bN];refine rQ.mono ?_;intro e w1 h;obtain⟨da,u0,u1,b2,m2,e2,b3,m3,e3,b4,m4,e4,b5,m5,e5,u6,u7,u8,u9,u10,b11,m11,e11,r1,rfl,HR⟩:=h.wrap db.out nY.out (by omega);obtain⟨q0,q1,q2,q3,q4,q5,q6,q7,q8,q9,q10,q11⟩:=bB da;obtain⟨wi,wj,xA,xB,xC,xD,Dh,Di,Dj,Dk,pZ,qb⟩:=kd da;clear h da rQ bN db nY;simp only[aC,IC,Jf] at HR;go_wp2_with fail;exact IK (v:=Ik #[Ij #[Y u0,Y u1,J b2 m2 e2,J b3 m3 e3,J b4 m4 e4,J b5 m5 e5,U O u6,U O u7,U O u8,U O u9,U O u10,J b11 m11 e11],U O r1]) (by simp[results,Tryz.results93,go_sem,q0,q1,q2,q3,q4,q5,q6,q7,q8,q9,q10,q11]) rfl HR.out
theorem Ld(n:Nd)(t:ByteArray)(E:Int)(X:List Sv.aY)(vm vr vs vg vw:Value)(w:World)(h:eY w n vm vr vs vg vw)(hX:∀x∈X,x.ok)(qw:n.e=0->∀v W,Sv.Sl W v n.sv->Calls AS 203 #[v,Y n.name,Y t] W λe w'=>∃p l c,e=AT (Ik #[J p l c,U O E])/\Hid (Sv.Own W.heap.size w' (J p l c) X)/\Below W.heap.size W w') :
 Calls AS 95 #[Ij (dv n vm vr vs vg vw),Y t] w λe w'=>dB n.e (E) ({ n with sv:=X }) w e w':=by
 have mC:Hid _:=h;obtain⟨W0,bN⟩:∃W0,W0=w.heap.size:=⟨_,rfl⟩;clear bN W0;have mg:Hid (∀W0,Below w.heap.size w W0->W0.heap.size=w.heap.size+3->W0.heap[w.heap.size+1]?=AI (By #[Y t] 9 (0,0))->Calls AS 29 #[Ij (dv n vm vr vs vg vw),IT (.func 151) #[] #[Ie (AI ⟨w.heap.size+1,0,be⟩)]] W0 λe w'=>fG n.e (E) ({ n with sv:=X }) (λ_=>False) (λ_=>True) W0 e w'):=λW0 hb hs hc1=>
  jf 151 #[Ie (AI ⟨w.heap.size+1,0,be⟩)] (Jj Tryz.func151 (by kernel_rfl) rfl) n vm vr vs vg vw W0 (h.below hb) (λ_=>False) (E) ({ n with sv:=X }) (λ_=>True)
   (λhe W b hW aK hk=>by
    refine(FC (W0.heap.size+2) b (w.heap.size+1) n t E X W hk (by omega) hX (qw he) ((hW.block _ (by omega)).trans hc1)).mono ?_;rintro e w' ⟨rfl,hs,hh⟩;exact⟨rfl,hs.mono (λk hk=>.inl (by omega)),λh=>⟨hh.out h,trivial⟩⟩
   ) (λ_ _ _ _=>trivial) (λ_ hk=>hk.elim)
 clear qw;obtain⟨nm,ct,ms,rs,sv,gw,⟨px,py,pz,ph,pq⟩,wh⟩:=n;obtain⟨⟨em,cm,rfl,_,_⟩,⟨rm,cr,rfl,_,_⟩,⟨es,rn,rfl,_,_⟩,⟨rq,cg,rfl,_,_⟩,⟨eh,ch,rfl,_,_⟩,_,_⟩:=h;simp only[dv] at mg ⊢;generalize ms.length=km at *;generalize rs.length=kr at *;generalize sv.length=ks at *;generalize gw.length=kg at *;generalize wh.length=kh at *;generalize Nd.e ⟨nm,ct,ms,rs,sv,gw,⟨px,py,pz,ph,pq⟩,wh⟩=ne at *;generalize E=er at *;generalize(⟨nm,ct,ms,rs,X,gw,⟨px,py,pz,ph,pq⟩,wh⟩:Nd)=n' at *;obtain⟨W0,bN,bO,eK,vR,hc1,di⟩:=oQ w #[Y nm,Y ct,J em km cm,J rm kr cr,J es ks rn,J rq kg cg,U O px,U O py,U O pz,U O ph,U O pq,J eh kh ch] #[Y t] #[Y ⟨#[]⟩,Y ⟨#[]⟩,J be 0 0,J be 0 0,J be 0 0,J be 0 0,U O 0,U O 0,U O 0,U O 0,U O 0,J be 0 0] 42 9 42;have rQ:=mg.out W0 bO eK hc1;have db:Hid _:=bO;have nY:Hid _:=di;clear bO eK vR hc1 di mg;go_enter Tryz.func95,Tryz.ntmps95;go_wp2_with fail;rw[<- bN];refine rQ.mono ?_;intro e w1 h;obtain⟨da,u0,u1,b2,m2,e2,b3,m3,e3,b4,m4,e4,b5,m5,e5,u6,u7,u8,u9,u10,b11,m11,e11,r1,rfl,HR⟩:=h.wrap db.out nY.out (by omega);obtain⟨q0,q1,q2,q3,q4,q5,q6,q7,q8,q9,q10,q11⟩:=bB da;obtain⟨wi,wj,xA,xB,xC,xD,Dh,Di,Dj,Dk,pZ,qb⟩:=kd da;clear h da rQ bN db nY;simp only[aC,IC,Jf] at HR;go_wp2_with fail;exact IK (v:=Ik #[Ij #[Y u0,Y u1,J b2 m2 e2,J b3 m3 e3,J b4 m4 e4,J b5 m5 e5,U O u6,U O u7,U O u8,U O u9,U O u10,J b11 m11 e11],U O r1]) (by simp[results,Tryz.results95,go_sem,q0,q1,q2,q3,q4,q5,q6,q7,q8,q9,q10,q11]) rfl HR.out
theorem Lf(n:Nd)(ad:Int)(E:Int)(X:List Gw.bL)(vm vr vs vg vw:Value)(w:World)(h:eY w n vm vr vs vg vw)(hX:∀x∈X,x.ok)(qw:n.e=0->∀v W,Gw.Sl W v n.gw->Calls AS 204 #[v,Y n.aD,U O ad] W λe w'=>∃p l c,e=AT (Ik #[J p l c,U O E])/\Hid (Gw.Own W.heap.size w' (J p l c) X)/\Below W.heap.size W w') :
 Calls AS 97 #[Ij (dv n vm vr vs vg vw),U O ad] w λe w'=>dB n.e (E) ({ n with gw:=X }) w e w':=by
 have mC:Hid _:=h;obtain⟨W0,bN⟩:∃W0,W0=w.heap.size:=⟨_,rfl⟩;clear bN W0;have mg:Hid (∀W0,Below w.heap.size w W0->W0.heap.size=w.heap.size+3->W0.heap[w.heap.size+1]?=AI (By #[U O ad] 3 (0,0))->Calls AS 29 #[Ij (dv n vm vr vs vg vw),IT (.func 153) #[] #[Ie (AI ⟨w.heap.size+1,0,be⟩)]] W0 λe w'=>fG n.e (E) ({ n with gw:=X }) (λ_=>False) (λ_=>True) W0 e w'):=λW0 hb hs hc1=>
  jf 153 #[Ie (AI ⟨w.heap.size+1,0,be⟩)] (Jj Tryz.func153 (by kernel_rfl) rfl) n vm vr vs vg vw W0 (h.below hb) (λ_=>False) (E) ({ n with gw:=X }) (λ_=>True)
   (λhe W b hW aK hk=>by
    refine(FD (W0.heap.size+2) b (w.heap.size+1) n ad E X W hk (by omega) hX (qw he) ((hW.block _ (by omega)).trans hc1)).mono ?_;rintro e w' ⟨rfl,hs,hh⟩;exact⟨rfl,hs.mono (λk hk=>.inl (by omega)),λh=>⟨hh.out h,trivial⟩⟩
   ) (λ_ _ _ _=>trivial) (λ_ hk=>hk.elim)
 clear qw;obtain⟨nm,ct,ms,rs,sv,gw,⟨px,py,pz,ph,pq⟩,wh⟩:=n;obtain⟨⟨em,cm,rfl,_,_⟩,⟨rm,cr,rfl,_,_⟩,⟨es,rn,rfl,_,_⟩,⟨rq,cg,rfl,_,_⟩,⟨eh,ch,rfl,_,_⟩,_,_⟩:=h;simp only[dv] at mg ⊢;generalize ms.length=km at *;generalize rs.length=kr at *;generalize sv.length=ks at *;generalize gw.length=kg at *;generalize wh.length=kh at *;generalize Nd.e ⟨nm,ct,ms,rs,sv,gw,⟨px,py,pz,ph,pq⟩,wh⟩=ne at *;generalize E=er at *;generalize(⟨nm,ct,ms,rs,sv,X,⟨px,py,pz,ph,pq⟩,wh⟩:Nd)=n' at *;obtain⟨W0,bN,bO,eK,vR,hc1,di⟩:=oQ w #[Y nm,Y ct,J em km cm,J rm kr cr,J es ks rn,J rq kg cg,U O px,U O py,U O pz,U O ph,U O pq,J eh kh ch] #[U O ad] #[Y ⟨#[]⟩,Y ⟨#[]⟩,J be 0 0,J be 0 0,J be 0 0,J be 0 0,U O 0,U O 0,U O 0,U O 0,U O 0,J be 0 0] 42 3 42;have rQ:=mg.out W0 bO eK hc1;have db:Hid _:=bO;have nY:Hid _:=di;clear bO eK vR hc1 di mg;go_enter Tryz.func97,Tryz.ntmps97;go_wp2_with fail;rw[<- bN];refine rQ.mono ?_;intro e w1 h;obtain⟨da,u0,u1,b2,m2,e2,b3,m3,e3,b4,m4,e4,b5,m5,e5,u6,u7,u8,u9,u10,b11,m11,e11,r1,rfl,HR⟩:=h.wrap db.out nY.out (by omega);obtain⟨q0,q1,q2,q3,q4,q5,q6,q7,q8,q9,q10,q11⟩:=bB da;obtain⟨wi,wj,xA,xB,xC,xD,Dh,Di,Dj,Dk,pZ,qb⟩:=kd da;clear h da rQ bN db nY;simp only[aC,IC,Jf] at HR;go_wp2_with fail;exact IK (v:=Ik #[Ij #[Y u0,Y u1,J b2 m2 e2,J b3 m3 e3,J b4 m4 e4,J b5 m5 e5,U O u6,U O u7,U O u8,U O u9,U O u10,J b11 m11 e11],U O r1]) (by simp[results,Tryz.results97,go_sem,q0,q1,q2,q3,q4,q5,q6,q7,q8,q9,q10,q11]) rfl HR.out
theorem FF(L b tb:Nat)(n:Nd)(t:ByteArray)(w:World)(h:Wk L w b n)(hL:L<=b)(tZ:Sp n)(ht:t.size<=Il)(hc:w.heap[tb]?=AI (By #[Y t] 9 (0,0))) :
 Calls AS 144 #[Ie (AI ⟨b,0,be⟩),Ie (AI ⟨tb,0,be⟩)] w λe w'=>e=AT (U O (sx n t 2 3))/\Sh (λk=>k=b) w w'/\Hid (sx n t 2 3=0->Wk L w' b (zN n t 3)):=by
 have HC:Hid (Calls _ _ _ _ _):=tT L b n t 2 3 w h hL tZ.ms tZ.rs tZ.name ht rfl;have y0:=ae hc 0;clear h tZ hc;generalize sx n t 2 3=we at *;go_enter Tryz.func144,Tryz.ntmps144;go_wp2_with fail;refine HC.out.mono ?_;rintro e w1 ⟨rfl,hs,hk⟩;have HS:Hid _:=hs;clear hs;go_wp2_with fail;go_ret;exact⟨rfl,HS.out,hk⟩
theorem Lg(n:Nd)(t:ByteArray)(vm vr vs vg vw:Value)(w:World)(h:eY w n vm vr vs vg vw)(ht:t.size<=Il) :
 Calls AS 87 #[Ij (dv n vm vr vs vg vw),Y t] w λe w'=>dB n.e (sx n t 2 3) (zN n t 3) w e w':=by
 have mC:Hid _:=h;obtain⟨W0,bN⟩:∃W0,W0=w.heap.size:=⟨_,rfl⟩;clear bN W0;have mg:Hid (∀W0,Below w.heap.size w W0->W0.heap.size=w.heap.size+3->W0.heap[w.heap.size+1]?=AI (By #[Y t] 9 (0,0))->Calls AS 29 #[Ij (dv n vm vr vs vg vw),IT (.func 144) #[] #[Ie (AI ⟨w.heap.size+1,0,be⟩)]] W0 λe w'=>fG n.e (sx n t 2 3) (zN n t 3) (λ_=>False) (λ_=>True) W0 e w'):=λW0 hb hs hc1=>
  jf 144 #[Ie (AI ⟨w.heap.size+1,0,be⟩)] (Jj Tryz.func144 (by kernel_rfl) rfl) n vm vr vs vg vw W0 (h.below hb) (λ_=>False) (sx n t 2 3) (zN n t 3) (λ_=>True)
   (λhe W b hW aK hk=>by
    refine(FF (W0.heap.size+2) b (w.heap.size+1) n t W hk (by omega) (Nd.sp he) ht ((hW.block _ (by omega)).trans hc1)).mono ?_;rintro e w' ⟨rfl,hs,hh⟩;exact⟨rfl,hs.mono (λk hk=>.inl (by omega)),λh=>⟨hh.out h,trivial⟩⟩
   ) (λ_ _ _ _=>trivial) (λ_ hk=>hk.elim)
 obtain⟨nm,ct,ms,rs,sv,gw,⟨px,py,pz,ph,pq⟩,wh⟩:=n;obtain⟨⟨em,cm,rfl,_,_⟩,⟨rm,cr,rfl,_,_⟩,⟨es,rn,rfl,_,_⟩,⟨rq,cg,rfl,_,_⟩,⟨eh,ch,rfl,_,_⟩,_,_⟩:=h;simp only[dv] at mg ⊢;generalize ms.length=km at *;generalize rs.length=kr at *;generalize sv.length=ks at *;generalize gw.length=kg at *;generalize wh.length=kh at *;generalize Nd.e ⟨nm,ct,ms,rs,sv,gw,⟨px,py,pz,ph,pq⟩,wh⟩=ne at *;generalize sx ⟨nm,ct,ms,rs,sv,gw,⟨px,py,pz,ph,pq⟩,wh⟩ t 2 3=er at *;generalize zN ⟨nm,ct,ms,rs,sv,gw,⟨px,py,pz,ph,pq⟩,wh⟩ t 3=n' at *;obtain⟨W0,bN,bO,eK,vR,hc1,di⟩:=oQ w #[Y nm,Y ct,J em km cm,J rm kr cr,J es ks rn,J rq kg cg,U O px,U O py,U O pz,U O ph,U O pq,J eh kh ch] #[Y t] #[Y ⟨#[]⟩,Y ⟨#[]⟩,J be 0 0,J be 0 0,J be 0 0,J be 0 0,U O 0,U O 0,U O 0,U O 0,U O 0,J be 0 0] 42 9 42;have rQ:=mg.out W0 bO eK hc1;have db:Hid _:=bO;have nY:Hid _:=di;clear bO eK vR hc1 di mg;go_enter Tryz.func87,Tryz.ntmps87;go_wp2_with fail;rw[<- bN];refine rQ.mono ?_;intro e w1 h;obtain⟨da,u0,u1,b2,m2,e2,b3,m3,e3,b4,m4,e4,b5,m5,e5,u6,u7,u8,u9,u10,b11,m11,e11,r1,rfl,HR⟩:=h.wrap db.out nY.out (by omega);obtain⟨q0,q1,q2,q3,q4,q5,q6,q7,q8,q9,q10,q11⟩:=bB da;obtain⟨wi,wj,xA,xB,xC,xD,Dh,Di,Dj,Dk,pZ,qb⟩:=kd da;clear h da rQ bN db nY;simp only[aC,IC,Jf] at HR;go_wp2_with fail;exact IK (v:=Ik #[Ij #[Y u0,Y u1,J b2 m2 e2,J b3 m3 e3,J b4 m4 e4,J b5 m5 e5,U O u6,U O u7,U O u8,U O u9,U O u10,J b11 m11 e11],U O r1]) (by simp[results,Tryz.results87,go_sem,q0,q1,q2,q3,q4,q5,q6,q7,q8,q9,q10,q11]) rfl HR.out
def NT(n:Nd):Mem:={ eF n.ms n.name with state:=4,aJ:=(eF n.ms n.name).aJ+1 }
def DM(n:Nd):Int:=if(eF n.ms n.name).state=4 then 4 else if(eF n.ms n.name).aJ=1000000 then 3 else lr n (NT n)
def GU(n:Nd):Nd:=kj n (NT n)
theorem Cu(L b:Nat)(n:Nd)(w:World)(h:Wk L w b n)(hL:L<=b)(gQ:bl n.ms=0)(oz:dZ n.rs=0)(hl:bc n.name=true)(hfd:(cv n.ms n.name).isSome=true) :
 Calls AS 146 #[Ie (AI ⟨b,0,be⟩)] w λe w'=>e=AT (U O (DM n))/\Sh (λk=>k=b) w w'/\Hid (DM n=0->Wk L w' b (GU n)):=by
 have qj:Hid (Wk L w b n):=h;have aR:=h.lt;obtain⟨vm,vr,vs,vg,vw,h1,h2,h3,h4⟩:=h;have mC:Hid _:=h2.is h4;obtain⟨am,cm,od,_⟩:=aA h2.ms;subst od;have Ep:Hid (Calls AS 67 #[Ie (AI ⟨b,0,be⟩),Y n.name] w λe w'=>e=AT (Ik #[Ij #[Y (eF n.ms n.name).name,U O (eF n.ms n.name).state,U O (eF n.ms n.name).aJ,U O (eF n.ms n.name).addr,Ia (eF n.ms n.name).server],Ia (cv n.ms n.name).isSome])/\Below w.heap.size w w'):=
  jc b am n.ms.length cm n.ms n.name w (ae h1 2) mC.out.ms (by have:=(af gQ).1;omega)
 obtain⟨g1,g2⟩:=iV hfd;have he:=(kR _).1 (lX gQ _ g1);have Xg:Hid (1<=(eF n.ms n.name).aJ/\(eF n.ms n.name).aJ<=1000000):=by
  have h5:=he.2.2.1;simp[within] at h5;exact h5
 have A3:Hid ((eF n.ms n.name).aJ≠1000000->∀W,Below w.heap.size w W->Calls AS 63 #[Ie (AI ⟨b,0,be⟩),Ij #[Y (eF n.ms n.name).name,U O 4,U O ((eF n.ms n.name).aJ+1),U O (eF n.ms n.name).addr,Ia (eF n.ms n.name).server]] W λe w'=>e=AT (U O (lr n (NT n)))/\Sh (λk=>k=b) W w'/\Hid (lr n (NT n)=0->Wk L w' b (GU n))):=λaQ W hW=>by
  have h6:=Xg.out;have h7:within ((eF n.ms n.name).aJ+1) 1 1000000=true:=by
   simp only[within,IF,decide_eq_true_eq];omega
  exact o8 L b n (NT n) W (qj.out.below hW) hL gQ oz hl ((kR _).2 ⟨he.1,(by decide:within 4 1 4=true),h7,he.2.2.2⟩) (show(eF n.ms n.name).name.size<=Il from h4.ms _ g1)
 have y0:=ae h1 0;have HE:Hid (DM n=if(eF n.ms n.name).state=4 then 4 else if(eF n.ms n.name).aJ=1000000 then 3 else lr n (NT n)):=rfl;generalize DM n=res at *;generalize lr n (NT n)=se at *;generalize GU n=ln at *;clear h1 h2 h3 h4 gQ oz g1 g2 he hfd;generalize(cv n.ms n.name).isSome=fd at *;generalize Hb:eF n.ms n.name=m at *;clear Hb;obtain⟨mn,st,lf,ad,sv⟩:=m;simp only at Ep A3 HE Xg;go_enter Tryz.func146,Tryz.ntmps146;go_wp2_with fail;refine Ep.out.mono ?_;rintro e w1 ⟨rfl,aB⟩;obtain⟨W2,bJ⟩:∃W2,W2=w1.alloc (By #[Y mn,U O st,U O lf,U O ad,Ia sv] 50):=⟨_,rfl⟩;have aK:Below w.heap.size w W2:=by rw[bJ];exact aB.alloc aB.size _
 have dS:W2.heap[w1.heap.size]?=AI (By #[Y mn,U O st,U O lf,U O ad,Ia sv] 50 (0,0)):=by rw[bJ];exact Ih w1 _
 have bu:Hid _:=aK;have ft:=aB.size;have x1:=ae dS 1;have x2:=ae dS 2;have zf:=aj dS 1;have zg:=aj dS 2;go_upto_region 2 with fail
 rw[<- bJ];clear bJ aB aK Ep y0;by_cases pC:st=4
 .have HR:Hid _:=HE.out.trans (if_pos pC)
  subst pC;clear HE;go_wp2_with fail;go_ret;exact⟨ai HR.out.symm,Sh.of bu.out,λh=>by have:=HR.out.symm.trans h;cases this⟩
 have aec:(st==4)=false:=by simpa using pC
 by_cases NO:lf=1000000
 .have HR:Hid _:=HE.out.trans ((if_neg pC).trans (if_pos NO))
  subst NO;clear HE pC;go_wp2_with fail;go_ret;exact⟨ai HR.out.symm,Sh.of bu.out,λh=>by have:=HR.out.symm.trans h;cases this⟩
 have HR:Hid _:=HE.out.trans ((if_neg pC).trans (if_neg NO));have amn:(lf==1000000)=false:=by simpa using NO
 have KB:=λW hW=>A3.out NO W hW;have nN:=Xg.out.1;have rJ:=Xg.out.2;clear HE pC NO A3 Xg;obtain⟨W3,eu⟩:∃W3,W3=(W2.setCell ⟨w1.heap.size,1,be⟩ (U O 4)).setCell ⟨w1.heap.size,2,be⟩ (U O (lf+1)):=⟨_,rfl⟩;have cJ:Hid (Below w.heap.size w W3):=by rw[eu];exact(bu.out.setCell (p:=⟨w1.heap.size,1,be⟩) ft _).setCell (p:=⟨w1.heap.size,2,be⟩) ft _
 have lF:W3.heap[w1.heap.size]?=AI (By #[Y mn,U O 4,U O (lf+1),U O ad,Ia sv] 50 (0,0)):=by rw[eu];exact IB (i:=2) (IB (i:=1) dS _) _
 obtain⟨v0,v1,v2,v3,v4⟩:=jw lF;have SH:Hid (Calls _ _ _ _ _):=KB W3 cJ.out;clear KB lF dS;go_upto_region 8 with fail
 rw[<- eu];clear eu x1 x2 zf zg;go_wp2_with fail;refine SH.out.mono ?_;rintro e w5 ⟨rfl,Kb,zp⟩;have HS5:Hid _:=(Sh.of cJ.out).trans Kb;clear Kb;go_wp2_with fail;go_ret;exact⟨ai HR.out.symm,HS5.out,λh=>zp.out (HR.out.symm.trans h)⟩
theorem Cv(L b:Nat)(n:Nd)(w:World)(h:Wk L w b n)(hL:L<=b)(he:n.e=0) :
 Calls AS 145 #[Ie (AI ⟨b,0,be⟩)] w λe w'=>e=AT (U O (DM n))/\Sh (λk=>k=b) w w'/\Hid (DM n=0->Wk L w' b (GU n)):=by
 have hp:=Nd.parts (Nd.aN he).1;obtain⟨me,Dy,_⟩:=Nd.iW (Nd.aN he).2;have HC:Hid (Calls _ _ _ _ _):=Cu L b n w h hL hp.ms hp.rs hp.name (by rw[Dy];rfl);clear h hp Dy he;generalize DM n=we at *;generalize GU n=ln at *;go_enter Tryz.func145,Tryz.ntmps145;go_wp2_with fail;refine HC.out.mono ?_;rintro e w1 ⟨rfl,hs,hk⟩;have HS:Hid _:=hs;clear hs;go_wp2_with fail;go_ret;exact⟨rfl,HS.out,hk⟩
theorem FG(n:Nd) (vm vr vs vg vw:Value)(w:World)(h:eY w n vm vr vs vg vw)  :
 Calls AS 89 #[Ij (dv n vm vr vs vg vw)] w λe w'=>dB n.e (DM n) (GU n) w e w':=by
 have mC:Hid _:=h;obtain⟨W0,bN⟩:∃W0,W0=w.heap.size:=⟨_,rfl⟩;clear bN W0;have mg:Hid (∀W0,Below w.heap.size w W0->W0.heap.size=w.heap.size+2->Calls AS 29 #[Ij (dv n vm vr vs vg vw),IT (.func 145) #[] #[]] W0 λe w'=>fG n.e (DM n) (GU n) (λ_=>False) (λ_=>True) W0 e w'):=λW0 hb hs  =>
  jf 145 #[] (Jj Tryz.func145 (by kernel_rfl) rfl) n vm vr vs vg vw W0 (h.below hb) (λ_=>False) (DM n) (GU n) (λ_=>True)
   (λhe W b hW aK hk=>by
    refine(Cv (W0.heap.size+2) b n W hk (by omega) he).mono ?_;rintro e w' ⟨rfl,hs,hh⟩;exact⟨rfl,hs.mono (λk hk=>.inl (by omega)),λh=>⟨hh.out h,trivial⟩⟩
   ) (λ_ _ _ _=>trivial) (λ_ hk=>hk.elim)
 obtain⟨nm,ct,ms,rs,sv,gw,⟨px,py,pz,ph,pq⟩,wh⟩:=n;obtain⟨⟨em,cm,rfl,_,_⟩,⟨rm,cr,rfl,_,_⟩,⟨es,rn,rfl,_,_⟩,⟨rq,cg,rfl,_,_⟩,⟨eh,ch,rfl,_,_⟩,_,_⟩:=h;simp only[dv] at mg ⊢;generalize ms.length=km at *;generalize rs.length=kr at *;generalize sv.length=ks at *;generalize gw.length=kg at *;generalize wh.length=kh at *;generalize Nd.e ⟨nm,ct,ms,rs,sv,gw,⟨px,py,pz,ph,pq⟩,wh⟩=ne at *;generalize DM ⟨nm,ct,ms,rs,sv,gw,⟨px,py,pz,ph,pq⟩,wh⟩=er at *;generalize GU ⟨nm,ct,ms,rs,sv,gw,⟨px,py,pz,ph,pq⟩,wh⟩=n' at *;obtain⟨W0,bN,bO,eK,vR,di⟩:=BB w #[Y nm,Y ct,J em km cm,J rm kr cr,J es ks rn,J rq kg cg,U O px,U O py,U O pz,U O ph,U O pq,J eh kh ch] #[Y ⟨#[]⟩,Y ⟨#[]⟩,J be 0 0,J be 0 0,J be 0 0,J be 0 0,U O 0,U O 0,U O 0,U O 0,U O 0,J be 0 0] 42 42;have rQ:=mg.out W0 bO eK;have db:Hid _:=bO;have nY:Hid _:=di;clear bO eK vR  di mg;go_enter Tryz.func89,Tryz.ntmps89;go_wp2_with fail;rw[<- bN];refine rQ.mono ?_;intro e w1 h;obtain⟨da,u0,u1,b2,m2,e2,b3,m3,e3,b4,m4,e4,b5,m5,e5,u6,u7,u8,u9,u10,b11,m11,e11,r1,rfl,HR⟩:=h.wrap db.out nY.out (by omega);obtain⟨q0,q1,q2,q3,q4,q5,q6,q7,q8,q9,q10,q11⟩:=bB da;obtain⟨wi,wj,xA,xB,xC,xD,Dh,Di,Dj,Dk,pZ,qb⟩:=kd da;clear h da rQ bN db nY;simp only[aC,IC,Jf] at HR;go_wp2_with fail;exact IK (v:=Ik #[Ij #[Y u0,Y u1,J b2 m2 e2,J b3 m3 e3,J b4 m4 e4,J b5 m5 e5,U O u6,U O u7,U O u8,U O u9,U O u10,J b11 m11 e11],U O r1]) (by simp[results,Tryz.results89,go_sem,q0,q1,q2,q3,q4,q5,q6,q7,q8,q9,q10,q11]) rfl HR.out
section
variable {α:Type} (o:α→α→Int) (nw:α→α→Bool) (d:α)
theorem yj(hk:RL.Keyed o):∀{ms:List α},RL.bp o ms->∀s∈ms,RL.get o ms s=AI s
 |[],_,s,h=>by cases h
 |x::r,hr,s,h=>by
  rcases IQ.1 h with rfl|h
  .exact RL.cD o s r (hk.refl s)
  .have h1:=RL.nG o hk hr s h
   rw[RL.dx o x r (λe=>h1 (hk.symm e))];exact yj hk (List.pairwise_cons.1 hr).2 s h
theorem Lh(hk:RL.Keyed o){ms:List α}(hr:RL.bp o ms){s r:α}(h:RL.get o ms s=AI r):∃p,RL.At o d ms s p true/\ms.getD p d=r:=by
 obtain⟨p,hp,he⟩:=IX (RL.get_mem o h);have hg:ms.getD p d=r:=by rw[RL.lJ d hp,he]
 exact⟨p,RL.G8 o d hk hr hp (by rw[hg];exact RL.MC o h),hg⟩
theorem NU(hn:RL.qR o nw){a b:α}(h:nw a b=true):nw b a=false:=by
 rcases hb:nw b a with _|_
 .rfl
 .have:=hn.trans a b a h hb
  rw[hn.irrefl] at this;cases this
def Vs(a b:List α):Prop:=∀s∈a,∃p,RL.At o d b s p true/\nw s (b.getD p d)=false
theorem jk(hk:RL.Keyed o)(hn:RL.qR o nw){a:List α}(ha:RL.bp o a):Vs o nw d a a:=λs hs=>by
 obtain⟨p,h1,h2⟩:=Lh o d hk ha (yj o hk ha s hs);exact⟨p,h1,by rw[h2];exact hn.irrefl s⟩
theorem qA(hk:RL.Keyed o)(hn:RL.qR o nw){a b:List α}(ha:RL.bp o a)(hb:RL.bp o b):Vs o nw d a (RL.join o nw a b):=λs hs=>by
 have hg:=RL.get_join o nw hk b a ha hb s;rw[yj o hk ha s hs] at hg;have hr:=RL.kY o nw hk b a ha;rcases hy:RL.get o b s with _|y
 .rw[hy] at hg
  obtain⟨p,h1,h2⟩:=Lh o d hk hr (hg.trans (show RL.comb nw (AI s) be=AI s from rfl));exact⟨p,h1,by rw[h2];exact hn.irrefl s⟩
 .rw[hy] at hg
  obtain⟨p,h1,h2⟩:=Lh o d hk hr (hg.trans (show RL.comb nw (AI s) (AI y)=AI (RL.mx nw s y) from rfl));refine⟨p,h1,?_⟩;rw[h2];unfold RL.mx;split
  .rename_i h;exact NU o nw hn h
  .exact hn.irrefl s
end
theorem qB{ms:List Mem}(hr:bp ms){m:Mem}(h:m∈ms):cv ms m.name=AI m:=by
 obtain⟨k,hk,rfl⟩:=IX h;have e:∀j (h:j<ms.length),ms.getD j dm=ms[j]:=λj h=>by simp[List.getD,List.getElem?_eq_getElem h]
 have h2:=nL (ms:=ms) (t:=ms[k].name) hk (λj hj hn=>by
  have hp:=List.pairwise_iff_getElem.1 hr j k (by omega) hk hj;rw[e j (by omega)] at hn;rw[hn,fp] at hp;cases hp) (by rw[e k hk])
 rw[e k hk] at h2;exact h2
structure fY(a b:Nd):Prop where
 ms:∀m∈a.ms,∃k,cv b.ms m.name=AI k/\eb m k=false
 sv:Vs Sv.ord Sv.bT Sv.dm a.sv b.sv
 gw:Vs Gw.ord Gw.bT Gw.dm a.gw b.gw
theorem qC{a b:Nd}(h:a.ot)(hl:Le a.ms b.ms)(hs:b.sv=a.sv)(hg:b.gw=a.gw):fY a b:=by
 refine⟨λm hm=>hl _ _ (qB (af h.ms).2.1 hm),?_,?_⟩
 .rw[hs];exact jk _ _ _ Sv.keyed Sv.iI (Sv.af h.sv).2.1
 .rw[hg];exact jk _ _ _ Gw.keyed Gw.iI (Gw.af h.gw).2.1
theorem Ad{n:Nd}{p:Pk}(h0:ou n p=0):p.e=0/\oe n p.ms=0/\Sv.aE n.sv p.sv=0/\Gw.aE n.gw p.gw=0:=by
 unfold ou at h0;split at h0
 .rename_i h1
  split at h0
  .rename_i h2
   split at h0
   .rename_i h3;exact⟨h1,h2,h3,h0⟩
   .rename_i h3;exact absurd h0 h3
  .rename_i h2;exact absurd h0 h2
 .rename_i h1;exact absurd h0 h1
theorem Li{wh:List Wh.bK}{x y:Wh.bK}(h:y∈vB wh x):y∈wh\/y=x:=by
 unfold vB at h;split at h
 .exact .inl h
 .rcases Wh.dn wh x y h with h|h
  .exact .inr h
  .exact .inl h
theorem DN:∀(l wh:List Wh.bK) (y:Wh.bK),y∈B4 wh l->y∈wh\/y∈l
 |[],_,y,h=>.inl h
 |x::r,wh,y,h=>by
  rcases DN r (vB wh x) y h with h|h
  .rcases Li h with h|rfl
   .exact .inl h
   .exact .inr (by simp)
  .exact .inr (by simp[h])
theorem Xh{n:Nd}{p:Pk}(he:n.e=0)(hk:∀m∈n.wh,m.ok)(jJ:∀m∈p.wh,m.ok)(h0:ou n p=0):(og n p).e=0:=by
 obtain⟨h1,h2,h3,h4⟩:=Ad h0;have hp:=Nd.parts (Nd.aN he).1;obtain⟨pm,_,pw,pG,pH⟩:=tV h1;have hN:=P2 p.ms n he pm h2;have hq:=Nd.parts (Nd.aN hN).1;rw[Sv.iF hp.sv pG] at h3;rw[Gw.iF hp.gw pH] at h4;have l3:(Sv.av n.sv p.sv).length<=40:=by
  split at h3
  .cases h3
  .omega
 have l4:(Gw.av n.gw p.gw).length<=6:=by
  split at h4
  .cases h4
  .omega
 have hf:=zM (Wh.ud hp.wh hk) jJ;refine Nd.SJ (Nd.ot.pe ⟨hq.name,hq.aD,hq.ms,hq.rs,?_,?_,hq.p,?_⟩) (Nd.aN hN).2
 .refine Sv.ki l3 (Sv.dF p.sv n.sv (Sv.af hp.sv).2.1) (λm hm=>?_)
  rcases Sv.dW p.sv n.sv m hm with h|h
  .exact Sv.bf _ (Sv.af hp.sv).2.2 m h
  .exact Sv.bf _ (Sv.af pG).2.2 m h
 .refine Gw.ki l4 (Gw.dF p.gw n.gw (Gw.af hp.gw).2.1) (λm hm=>?_)
  rcases Gw.dW p.gw n.gw m hm with h|h
  .exact Gw.bf _ (Gw.af hp.gw).2.2 m h
  .exact Gw.bf _ (Gw.af pH).2.2 m h
 .refine Wh.ki hf.len hf.EH (λm hm=>?_)
  rcases DN p.wh n.wh m hm with h|h
  .exact Wh.bf _ (Wh.af hp.wh).2.2 m h
  .exact Wh.bf _ (Wh.af pw).2.2 m h
theorem yk{n:Nd}{p:Pk}(he:n.e=0)(h0:ou n p=0):fY n (og n p):=by
 obtain⟨h1,h2,h3,h4⟩:=Ad h0;have hp:=Nd.parts (Nd.aN he).1;obtain⟨pm,_,pw,pG,pH⟩:=tV h1;refine⟨λm hm=>KJ p.ms n ⟨hp.ms,hp.rs,hp.name⟩ pm h2 _ _ (qB (af hp.ms).2.1 hm),?_,?_⟩
 .exact qA _ _ _ Sv.keyed Sv.iI (Sv.af hp.sv).2.1 (Sv.af pG).2.1
 .exact qA _ _ _ Gw.keyed Gw.iI (Gw.af hp.gw).2.1 (Gw.af pH).2.1
theorem DO{n:Nd}{t:ByteArray}{a b:Int}(he:n.e=0)(hb:within b 1 4=true)(h0:sx n t a b=0):(zN n t b).e=0/\fY n (zN n t b):=by
 have hp:=Nd.parts (Nd.aN he).1;unfold sx at h0;split at h0
 .split at h0
  .split at h0
   .cases h0
   .split at h0
    .rename_i hs _ _
     obtain⟨g1,g2⟩:=iV hs;have hx:=(kR _).1 (lX hp.ms _ g1);have hm:=(kR { eF n.ms t with state:=b }).2 ⟨hx.1,hb,hx.2.2.1,hx.2.2.2⟩;have hr:=ep n { eF n.ms t with state:=b };exact⟨Dx he hm h0,qC hp (KH ⟨hp.ms,hp.rs,hp.name⟩ hm (sQ h0)) hr.sv hr.gw⟩
    .cases h0
  .cases h0
 .cases h0
theorem DP{n:Nd}(he:n.e=0)(h0:DM n=0):(GU n).e=0/\fY n (GU n):=by
 have hp:=Nd.parts (Nd.aN he).1;obtain⟨me,Dy,_⟩:=Nd.iW (Nd.aN he).2;unfold DM at h0;split at h0
 .cases h0
 .split at h0
  .cases h0
  .rename_i _ hl
   obtain⟨g1,g2⟩:=iV (ms:=n.ms) (t:=n.name) (by rw[Dy];rfl);have hx:=(kR _).1 (lX hp.ms _ g1);have h5:=hx.2.2.1;simp only[within,IF,decide_eq_true_eq] at h5;have hm:(NT n).e=0:=(kR _).2 ⟨hx.1,(by decide:within 4 1 4=true),by
    simp only[within,IF,decide_eq_true_eq];show 1<=(eF n.ms n.name).aJ+1/\(eF n.ms n.name).aJ+1<=1000000;omega,hx.2.2.2⟩
   have hr:=ep n (NT n);exact⟨Dx he hm h0,qC hp (KH ⟨hp.ms,hp.rs,hp.name⟩ hm (sQ h0)) hr.sv hr.gw⟩
theorem Lj{n:Nd}{m:Mem}(h:Sp n)(hm:m.e=0)(h0:jx n m=0):∃k,cv (kj n m).ms m.name=AI k/\eb m k=false:=by
 have hr:=(af h.ms).2.1;have h1:∃k,cv (eR n m).ms m.name=AI k/\eb m k=false:=by
  have gQ:(eR n m).ms=aO n.ms m:=by unfold eR;split<;>rfl
  rw[gQ];by_cases hh:aO n.ms m=n.ms
  .rw[hh]
   rcases hc:oW n.ms m with _|_
   .unfold oW at hc
    rcases hf:cv n.ms m.name with _|k
    .rw[hf] at hc;cases hc
    .rw[hf] at hc;exact⟨k,rfl,hc⟩
   .exact absurd hh ((nc hr m).1 hc)
  .exact⟨m,mY m n.ms hh,gO m⟩
 unfold kj;split
 .obtain⟨k,h2,h3⟩:=h1
  obtain⟨k2,h4,h5⟩:=KG (o7 h.ms h.rs hm h0).1 _ _ h2;exact⟨k2,h4,sP h3 h5⟩
 .exact h1
theorem Ae:∀(l:List Mem) (n:Nd),Sp n->(∀m∈l,m.e=0)->oe n l=0->∀m∈l,∃k,cv (tU n l).ms m.name=AI k/\eb m k=false
 |[],_,_,_,_,m,hm=>by cases hm
 |x::r,n,h,hl,h0,m,hm=>by
  rw[oe] at h0;split at h0
  .rename_i h1
   have hx:=hl x (by simp);have hs:=Dv h hx h1;have hr:∀m∈r,m.e=0:=λm hm=>hl m (by simp[hm]);rcases IQ.1 hm with rfl|hm
   .obtain⟨k,h2,h3⟩:=Lj h hx (sQ h1)
    obtain⟨k2,h4,h5⟩:=KJ r (kj n m) hs hr h0 _ _ h2;exact⟨k2,h4,sP h3 h5⟩
   .exact Ae r (kj n x) hs hr h0 m hm
  .rename_i h1;exact absurd h0 h1
def Lk(t:ByteArray)(p:Pl):Wh.bK:=⟨t,p.x,p.y,p.z,p.h,p.s⟩
def Cw(n:Nd)(t:ByteArray)(p:Pl)(r:Int):Int:=if bc t=true then(if ed p=0 then(if t=n.name then 6 else if nt r 1 5000000=true then P3 n.wh (Lk t p) else 3) else 3) else 1
def GV(n:Nd)(t:ByteArray)(p:Pl)(r:Int):Nd:={ n with p:=ly n.p p r,wh:=Wh.aO n.wh (Lk t p) }
theorem FH(a b:Pl)(r:Int)(ha:ed a=0)(hb:ed b=0):∃(q:Pl),(nt r 1 5000000=true->q=ly a b r)/\∀W,Calls AS 200 #[Ij #[U O a.x,U O a.y,U O a.z,U O a.h,U O a.s],Ij #[U O b.x,U O b.y,U O b.z,U O b.h,U O b.s],U O r] W λe w'=>e=AT (Ik #[Ij #[U O q.x,U O q.y,U O q.z,U O q.h,U O q.s],U O (if nt r 1 5000000=true then 0 else 3)])/\Below W.heap.size W w':=by
 have ha':=(nJ a).1 ha;have xb:=(nJ b).1 hb;rcases hr:nt r 1 5000000 with _|_
 .exact⟨⟨0,0,0,0,0⟩,(λh=>by cases h),λW=>Cr a b r W ((wQ a b).2 ⟨ha',xb⟩) hr⟩
 .exact⟨ly a b r,λ_=>rfl,λW=>Fy a b r W ha' xb hr⟩
theorem NV{b:Nat}{a w:World}(h:Sh (λk=>k=b) a w)(i0 i1 i2 i3 i4:Nat)(v0 v1 v2 v3 v4:Value):Sh (λk=>k=b) a (((((w.setCell ⟨b,i0,be⟩ v0).setCell ⟨b,i1,be⟩ v1).setCell ⟨b,i2,be⟩ v2).setCell ⟨b,i3,be⟩ v3).setCell ⟨b,i4,be⟩ v4):=
 ((((h.setCell (S:=λk=>k=b) rfl _).setCell (S:=λk=>k=b) rfl _).setCell (S:=λk=>k=b) rfl _).setCell (S:=λk=>k=b) rfl _).setCell (S:=λk=>k=b) rfl _
theorem Cx(L b:Nat)(n:Nd)(t:ByteArray)(p:Pl)(r:Int)(w:World)(h:Wk L w b n)(hL:L<=b)(hf:Wh.o6 n.wh)(Hw:ed n.p=0)(ht:t.size<=Il) :
 Calls AS 148 #[Ie (AI ⟨b,0,be⟩),Y t,Ij #[U O p.x,U O p.y,U O p.z,U O p.h,U O p.s],U O r] w λe w'=>e=AT (U O (Cw n t p r))/\Sh (λk=>k=b) w w'/\Hid (Cw n t p r=0->Wk L w' b (GV n t p r)):=by
 have qj:Hid (Wk L w b n):=h;have aR:=h.lt;obtain⟨vm,vr,vs,vg,vw,h1,h2,h3,h4⟩:=h;have HX:Hid (∀W,Below w.heap.size w W->(W.heap[w.heap.size]?=AI (By #[U O p.x,U O p.y,U O p.z,U O p.h,U O p.s] 39 (0,0)))->W.heap[b]?=AI (By (dv n vm vr vs vg vw) 90 (0,0))/\W.heap[w.heap.size]?=AI (By #[U O p.x,U O p.y,U O p.z,U O p.h,U O p.s] 39 (0,0))):=λW hW hp=>⟨(hW.block _ aR).trans h1,hp⟩;have oq:Hid (∀W,Calls AS 101 #[Ij #[U O p.x,U O p.y,U O p.z,U O p.h,U O p.s]] W λe w'=>e=AT (U O (ed p))/\Below W.heap.size W w'):=λW=>lW p W;have HMV:Hid (ed p=0->∃(q:Pl),(nt r 1 5000000=true->q=ly n.p p r)/\∀W,Calls AS 200 #[Ij #[U O n.p.x,U O n.p.y,U O n.p.z,U O n.p.h,U O n.p.s],Ij #[U O p.x,U O p.y,U O p.z,U O p.h,U O p.s],U O r] W λe w'=>e=AT (Ik #[Ij #[U O q.x,U O q.y,U O q.z,U O q.h,U O q.s],U O (if nt r 1 5000000=true then 0 else 3)])/\Below W.heap.size W w'):=λh=>FH n.p p r Hw h;have Nq:Hid (∀(q:Pl) W,Below w.heap.size w W->Wk L (((((W.setCell ⟨b,6,be⟩ (U O q.x)).setCell ⟨b,7,be⟩ (U O q.y)).setCell ⟨b,8,be⟩ (U O q.z)).setCell ⟨b,9,be⟩ (U O q.h)).setCell ⟨b,10,be⟩ (U O q.s)) b { n with p:=q }):=λq W hW=>(qj.out.below hW).Wi q;have Tj:Hid (∀(q:Pl) W,Wk L W b { n with p:=q }->Calls AS 201 #[Ie (AI ⟨b,0,be⟩),Ij #[Y t,U O p.x,U O p.y,U O p.z,U O p.h,U O p.s]] W λe w'=>e=AT (U O (P3 n.wh (Lk t p)))/\Sh (λk=>k=b) W w'/\Hid (Wk L w' b { n with p:=q,wh:=Wh.aO n.wh (Lk t p) })):=λq W hk=>EO L b { n with p:=q } (Lk t p) W hk hL hf ht;have HE:Hid (Cw n t p r=if bc t=true then(if ed p=0 then(if t=n.name then 6 else if nt r 1 5000000=true then P3 n.wh (Lk t p) else 3) else 3) else 1):=rfl;have Xi:Hid (GV n t p r={ n with p:=ly n.p p r,wh:=Wh.aO n.wh (Lk t p) }):=rfl;have HCO:=DQ p;generalize Cw n t p r=res at *;generalize GV n t p r=TN at *;generalize P3 n.wh (Lk t p)=nte at *;obtain⟨px,py,pz,ph,ps⟩:=p;simp only at HX oq HMV Tj;clear h2 h3 h4 hf Hw;obtain⟨W1,cT,aB,-,cO⟩:=bY w #[U O px,U O py,U O pz,U O ph,U O ps] 39;have ba:Hid (Below w.heap.size w W1):=aB;have vp:Hid _:=cO;have ft:W1.heap.size=w.heap.size+1:=by rw[cT];simp
 have tR:Hid (W1.heap.size=w.heap.size+1):=ft;obtain⟨c0,c1,c2,c3,c4⟩:=jw cO;clear aB cO ft h1;have Vt:Hid (∀W,Calls AS 53 #[Y t] W λe w'=>e=AT (Ia (bc t))/\w'=W):=λW=>bV t W ht;go_enter Tryz.func148,Tryz.ntmps148;go_upto_region 1 with fail
 rw[<- cT];clear cT;rcases hlab:bc t with _|_
 .have HR:Hid (res=1):=HE.out.trans (by rw[hlab];rfl)
  rw[hlab] at Vt;clear HE;go_wp2_with (first|(go_at_call 53;refine(Vt.out _).mono ?_;rintro e w' ⟨rfl,PY⟩;have GQ:=PY.symm;subst GQ)|fail);go_ret;exact⟨ai HR.out.symm,Sh.of ba.out,λh=>by rw[HR.out] at h;cases h⟩
 rw[hlab] at Vt;go_wp2_with (first|(go_at_call 53;refine(Vt.out _).mono ?_;rintro e w' ⟨rfl,PY⟩;have GQ:=PY.symm;subst GQ)|fail);refine(oq.out W1).mono ?_;rintro e w2 ⟨rfl,aK⟩;have bu:Hid (Below w.heap.size w w2):=ba.out.trans (aK.mono ba.out.size);have dS:w2.heap[w.heap.size]?=AI (By #[U O px,U O py,U O pz,U O ph,U O ps] 39 (0,0)):=(aK.block _ (by have:=tR.out;omega)).trans vp.out;clear c0 c1 c2 c3 c4 aK;rcases HCO with Cf|Cf;rotate_left
 .have HR:Hid (res=3):=HE.out.trans (by rw[hlab,Cf];rfl)
  rw[Cf];clear HE Cf dS;go_wp2_with fail;go_ret;exact⟨ai HR.out.symm,Sh.of bu.out,λh=>by rw[HR.out] at h;cases h⟩
 have kM:Hid (res=if t=n.name then 6 else if nt r 1 5000000=true then nte else 3):=HE.out.trans (by rw[hlab,Cf];rfl);obtain⟨⟨mx,my,mz,mh,NW⟩,vH,hmv⟩:=HMV.out Cf;rw[Cf];clear HE Cf HMV;have HTN:Hid (nt r 1 5000000=true->TN={ n with p:=⟨mx,my,mz,mh,NW⟩,wh:=Wh.aO n.wh (Lk t ⟨px,py,pz,ph,ps⟩) }):=λh=>by rw[Xi.out,vH h]
 have A3:=λW hW=>Nq.out ⟨mx,my,mz,mh,NW⟩ W hW;have Vu:=λW hk=>Tj.out ⟨mx,my,mz,mh,NW⟩ W hk;have HMC:Hid _:=hmv;clear Xi Nq Tj vH hmv;simp only at A3 Vu;obtain⟨Vv,nct,V8,V9,Wb,Wc,⟨ax,ay,az,ah,A4⟩,Wd⟩:=n;simp only[dv] at HX;simp only at kM HMC HTN A3 Vu;have Xj:Hid _:=A3;have Xk:Hid _:=Vu;clear A3 Vu;have A3:=Xj;have Vu:=Xk;clear Xj Xk;generalize(⟨Vv,nct,V8,V9,Wb,Wc,⟨mx,my,mz,mh,NW⟩,Wd⟩:Nd)=NN at *;obtain⟨yo,_⟩:=HX.out w2 bu.out dS;have sg:Hid _:=dS;have HPB:Hid (∀W,Below w2.heap.size w2 W->W.heap[w.heap.size]?=AI (By #[U O px,U O py,U O pz,U O ph,U O ps] 39 (0,0))):=λW hW=>(hW.block _ (BY.1 sg.out).1).trans sg.out;have y0:w2.cell? ⟨b,0,be⟩=AI (Y Vv):=ae yo 0;obtain⟨c0,c1,c2,c3,c4⟩:=jw dS;have d0:w2.cell? ⟨b,6,be⟩=AI (U O ax):=ae yo 6;have d1:w2.cell? ⟨b,7,be⟩=AI (U O ay):=ae yo 7;have d2:w2.cell? ⟨b,8,be⟩=AI (U O az):=ae yo 8;have d3:w2.cell? ⟨b,9,be⟩=AI (U O ah):=ae yo 9;have d4:w2.cell? ⟨b,10,be⟩=AI (U O A4):=ae yo 10;have aK:b<w2.heap.size:=by have:=bu.out.size;omega
 have tl:w.heap.size<w2.heap.size:=(BY.1 dS).1;clear dS yo;by_cases cZ:t=Vv
 .have HR:Hid (res=6):=kM.out.trans (if_pos cZ)
  have hq:(t.toList==Vv.toList)=true:=by rw[cZ];simp
  have wD:t.toList=Vv.toList:=by rw[cZ]
  clear kM cZ;go_wp2_with fail;go_ret;exact⟨ai HR.out.symm,Sh.of bu.out,λh=>by rw[HR.out] at h;cases h⟩
 have hq:(t.toList==Vv.toList)=false:=by rw[jM,decide_eq_false cZ]
 have DB:Hid (res=if nt r 1 5000000=true then nte else 3):=kM.out.trans (if_neg cZ);clear kM cZ;generalize nt r 1 5000000=bt at *;have HBT:Hid ((bt=true->res=nte)/\(bt=false->res=3)):=⟨λh=>by rw[DB.out,h];rfl,λh=>by rw[DB.out,h];rfl⟩;clear DB;obtain⟨mE,hmE⟩:∃mE:Int,mE=if bt=true then 0 else 3:=⟨_,rfl⟩;rw[<- hmE] at HMC;have Nr:Hid (mE=if bt=true then 0 else 3):=hmE;clear hmE;go_upto_region 8 with fail
 go_region_with (first|(go_at_call 200;refine(HMC.out _).mono ?_;rintro e w3 ⟨rfl,bX⟩;first
  |(have cJ:Hid (Below w2.heap.size w2 w3):=(Ib w2.heap.size w2).drew.trans bX;clear bX)
  |(have cJ:Hid (Below w2.heap.size w2 w3):=by
     first
     |exact(((Ib w2.heap.size w2).alloc (Ic _) _).drew).trans (bX.mono (by simp))
     |exact(((Ib w2.heap.size w2).drew).alloc (Ic _) _).trans (bX.mono (by simp))
    have qL:w3.heap[w2.heap.size]?=AI (By #[U O 0,U O 0,U O 0,U O 0,U O 0] 39 (0,0)):=(bX.block _ (by simp)).trans (Ih w2 _);obtain⟨f0,f1,f2,f3,f4⟩:=jw qL;obtain⟨g0,g1,g2,g3,g4⟩:=adG qL;clear bX)))
 all_goals
  first
  |(obtain⟨V,hV⟩:∃V,V=w3.alloc (By #[U O mx,U O my,U O mz,U O mh,U O NW] 39):=⟨_,rfl⟩
    rw[<- hV];have vH:V.heap[w3.heap.size]?=AI (By #[U O mx,U O my,U O mz,U O mh,U O NW] 39 (0,0)):=by rw[hV];exact Ih w3 _
    have pt:Hid (Below w2.heap.size w2 V):=by rw[hV];exact cJ.out.alloc cJ.out.size _
    clear hV;generalize w3.heap.size=mb at vH ⊢)
  |(obtain⟨V,hV⟩:∃V,V=(((((w3.setCell ⟨w2.heap.size,0,be⟩ (U O mx)).setCell ⟨w2.heap.size,1,be⟩ (U O my)).setCell ⟨w2.heap.size,2,be⟩ (U O mz)).setCell ⟨w2.heap.size,3,be⟩ (U O mh)).setCell ⟨w2.heap.size,4,be⟩ (U O NW)):=⟨_,rfl⟩
    rw[<- hV];have vH:V.heap[w2.heap.size]?=AI (By #[U O mx,U O my,U O mz,U O mh,U O NW] 39 (0,0)):=by rw[hV];exact IB (i:=4) (IB (i:=3) (IB (i:=2) (IB (i:=1) (IB (i:=0) qL _) _) _) _) _
    have pt:Hid (Below w2.heap.size w2 V):=by rw[hV];exact((((cJ.out.setCell (p:=⟨w2.heap.size,0,be⟩) (Ic _) _).setCell (p:=⟨w2.heap.size,1,be⟩) (Ic _) _).setCell (p:=⟨w2.heap.size,2,be⟩) (Ic _) _).setCell (p:=⟨w2.heap.size,3,be⟩) (Ic _) _).setCell (p:=⟨w2.heap.size,4,be⟩) (Ic _) _
    clear hV f0 f1 f2 f3 f4 g0 g1 g2 g3 g4 qL;generalize w2.heap.size=mb at vH ⊢)
  clear c0 c1 c2 c3 c4 d0 d1 d2 d3 d4 y0 aK tl;have qN:Hid (Below w.heap.size w V):=bu.out.trans (pt.out.mono bu.out.size);obtain⟨yo,G7⟩:=HX.out V qN.out (HPB.out V pt.out);obtain⟨c0,c1,c2,c3,c4⟩:=jw G7;obtain⟨m0,m1,m2,m3,m4⟩:=jw vH;have d0:V.cell? ⟨b,6,be⟩=AI (U O ax):=ae yo 6;have dz0:V.frozen? ⟨b,6,be⟩=false:=aj yo 6;have d1:V.cell? ⟨b,7,be⟩=AI (U O ay):=ae yo 7;have dz1:V.frozen? ⟨b,7,be⟩=false:=aj yo 7;have d2:V.cell? ⟨b,8,be⟩=AI (U O az):=ae yo 8;have dz2:V.frozen? ⟨b,8,be⟩=false:=aj yo 8;have d3:V.cell? ⟨b,9,be⟩=AI (U O ah):=ae yo 9;have dz3:V.frozen? ⟨b,9,be⟩=false:=aj yo 9;have d4:V.cell? ⟨b,10,be⟩=AI (U O A4):=ae yo 10;have dz4:V.frozen? ⟨b,10,be⟩=false:=aj yo 10;have NX:b<V.heap.size:=by have:=qN.out.size;omega
  have hwV:w.heap.size<V.heap.size:=(BY.1 G7).1;have Wp:¬ w.heap.size=b:=by omega
  rcases Kd:bt with _|_
  .have Xl:=HBT.out.2 Kd
   have AU:Hid (res=3):=Xl;have hm:mE=3:=Nr.out.trans (by rw[Kd];rfl);rw[hm];clear hm Xl Kd;go_wp2_with fail;go_ret;exact⟨ai AU.out.symm,Sh.of qN.out,λh=>by rw[AU.out] at h;cases h⟩
  .have hm:mE=0:=Nr.out.trans (by rw[Kd];rfl)
   have HRE:Hid (res=nte):=HBT.out.1 Kd;have HTE:Hid (TN=_):=HTN.out Kd;rw[hm];clear hm Kd;obtain⟨W9,Rk⟩:∃W9,W9=(((((V.setCell ⟨b,6,be⟩ (U O mx)).setCell ⟨b,7,be⟩ (U O my)).setCell ⟨b,8,be⟩ (U O mz)).setCell ⟨b,9,be⟩ (U O mh)).setCell ⟨b,10,be⟩ (U O NW)):=⟨_,rfl⟩;have HK9:Hid (Wk L W9 b NN):=by rw[Rk];exact A3.out V qN.out
   have HS9:Hid (Sh (λk=>k=b) w W9):=by rw[Rk];exact NV (Sh.of qN.out) _ _ _ _ _ _ _ _ _ _
   have hp9:W9.heap[w.heap.size]?=AI (By #[U O px,U O py,U O pz,U O ph,U O ps] 39 (0,0)):=by
    have e5:∀(W:World) (j:Nat) (v:Value),(W.setCell ⟨b,j,be⟩ v).heap[w.heap.size]?=W.heap[w.heap.size]?:=λW j v=>Below.heap_setCell _ _ _ _ (by simp only;omega);rw[Rk,e5,e5,e5,e5,e5];exact G7
   go_upto_region 12 with fail
   rw[<- Rk];clear Rk c0 c1 c2 c3 c4 m0 m1 m2 m3 m4 d0 dz0 d1 dz1 d2 dz2 d3 dz3 d4 dz4 yo G7 vH;obtain⟨c0,c1,c2,c3,c4⟩:=jw hp9;go_wp2_with fail;refine(Vu.out W9 HK9.out).mono ?_;rintro e w9 ⟨rfl,Tk,Vw⟩;have afh:Hid (Sh (λk=>k=b) w w9):=HS9.out.trans Tk;clear Tk;go_wp2_with fail;go_ret;exact⟨ai HRE.out.symm,afh.out,λ_=>by rw[HTE.out];exact Vw.out⟩
theorem Cy(L b tb:Nat)(n:Nd)(t:ByteArray)(p:Pl)(r:Int)(w:World)(h:Wk L w b n)(hL:L<=b)(hf:Wh.o6 n.wh)(Hw:ed n.p=0)(ht:t.size<=Il)(hc1:w.heap[tb+1]?=AI (By #[Y t] 9 (0,0)))(DR:w.heap[tb+2]?=AI (By #[U O p.x,U O p.y,U O p.z,U O p.h,U O p.s] 39 (0,0)))(MK:w.heap[tb+3]?=AI (By #[U O r] 3 (0,0))) :
 Calls AS 147 #[Ie (AI ⟨b,0,be⟩),Ie (AI ⟨tb+1,0,be⟩),Ie (AI ⟨tb+2,0,be⟩),Ie (AI ⟨tb+3,0,be⟩)] w λe w'=>e=AT (U O (Cw n t p r))/\Sh (λk=>k=b) w w'/\Hid (Cw n t p r=0->Wk L w' b (GV n t p r)):=by
 have HC:Hid (Calls AS 148 #[Ie (AI ⟨b,0,be⟩),Y t,Ij #[U O p.x,U O p.y,U O p.z,U O p.h,U O p.s],U O r] w λe w'=>e=AT (U O (Cw n t p r))/\Sh (λk=>k=b) w w'/\Hid (Cw n t p r=0->Wk L w' b (GV n t p r))):=Cx L b n t p r w h hL hf Hw ht;have y0:w.cell? ⟨tb+1,0,be⟩=AI (Y t):=ae hc1 0;have z0:w.cell? ⟨tb+3,0,be⟩=AI (U O r):=ae MK 0;obtain⟨x0,x1,x2,x3,x4⟩:=jw DR;clear h hc1 DR MK hf Hw;generalize Cw n t p r=we at *;generalize GV n t p r=wn at *;obtain⟨px,py,pz,ph,ps⟩:=p;simp only at HC x0 x1 x2 x3 x4;go_enter Tryz.func147,Tryz.ntmps147;go_wp2_with fail;refine HC.out.mono ?_;rintro e w1 ⟨rfl,hs,hk⟩;have HS:Hid (Sh (λk=>k=b) w w1):=hs;clear hs;go_wp2_with fail;go_ret;exact⟨rfl,HS.out,hk⟩
theorem FI(n:Nd)(t:ByteArray)(p:Pl)(r:Int)(vm vr vs vg vw:Value)(w:World)(h:eY w n vm vr vs vg vw)(ht:t.size<=Il) :
 Calls AS 91 #[Ij (dv n vm vr vs vg vw),Y t,Ij #[U O p.x,U O p.y,U O p.z,U O p.h,U O p.s],U O r] w λe w'=>dB n.e (Cw n t p r) (GV n t p r) w e w':=by
 have mC:Hid (eY w n vm vr vs vg vw):=h;obtain⟨W0,bN⟩:∃W0,W0=w.heap.size:=⟨_,rfl⟩;clear bN W0;have mg:Hid (∀W0,Below w.heap.size w W0->W0.heap.size=w.heap.size+5->W0.heap[w.heap.size+1]?=AI (By #[Y t] 9 (0,0))->W0.heap[w.heap.size+2]?=AI (By #[U O p.x,U O p.y,U O p.z,U O p.h,U O p.s] 39 (0,0))->W0.heap[w.heap.size+3]?=AI (By #[U O r] 3 (0,0))->Calls AS 29 #[Ij (dv n vm vr vs vg vw),IT (.func 147) #[] #[Ie (AI ⟨w.heap.size+1,0,be⟩),Ie (AI ⟨w.heap.size+2,0,be⟩),Ie (AI ⟨w.heap.size+3,0,be⟩)]] W0 λe w'=>fG n.e (Cw n t p r) (GV n t p r) (λ_=>False) (λ_=>True) W0 e w'):=λW0 hb hs hc1 DR MK=>
  jf 147 #[Ie (AI ⟨w.heap.size+1,0,be⟩),Ie (AI ⟨w.heap.size+2,0,be⟩),Ie (AI ⟨w.heap.size+3,0,be⟩)] (Jj Tryz.func147 (by kernel_rfl) rfl) n vm vr vs vg vw W0 (h.below hb) (λ_=>False) (Cw n t p r) (GV n t p r) (λ_=>True)
   (λhe W b hW aK hk=>by
    refine(Cy (W0.heap.size+2) b (w.heap.size) n t p r W hk (by omega) (Wh.ud (Nd.parts (Nd.aN he).1).wh h.ok.wh) (Nd.parts (Nd.aN he).1).p ht ((hW.block _ (by omega)).trans hc1) ((hW.block _ (by omega)).trans DR) ((hW.block _ (by omega)).trans MK)).mono ?_;rintro e w' ⟨rfl,hs,hh⟩;exact⟨rfl,hs.mono (λk hk=>.inl (by omega)),λh=>⟨hh.out h,trivial⟩⟩
   ) (λ_ _ _ _=>trivial) (λ_ hk=>hk.elim)
 obtain⟨nm,ct,ms,rs,sv,gw,⟨px,py,pz,ph,pq⟩,wh⟩:=n;obtain⟨⟨em,cm,rfl,_,_⟩,⟨rm,cr,rfl,_,_⟩,⟨es,rn,rfl,_,_⟩,⟨rq,cg,rfl,_,_⟩,⟨eh,ch,rfl,_,_⟩,_,_⟩:=h;simp only[dv] at mg ⊢;generalize ms.length=km at *;generalize rs.length=kr at *;generalize sv.length=ks at *;generalize gw.length=kg at *;generalize wh.length=kh at *;generalize Nd.e ⟨nm,ct,ms,rs,sv,gw,⟨px,py,pz,ph,pq⟩,wh⟩=ne at *;generalize Cw ⟨nm,ct,ms,rs,sv,gw,⟨px,py,pz,ph,pq⟩,wh⟩ t p r=er at *;generalize GV ⟨nm,ct,ms,rs,sv,gw,⟨px,py,pz,ph,pq⟩,wh⟩ t p r=n' at *;obtain⟨bx,by_,bz,bh,bs⟩:=p;simp only at mg ⊢;obtain⟨W0,bN,bO,eK,vR,hc1,DR,MK,di⟩:=R9 w #[Y nm,Y ct,J em km cm,J rm kr cr,J es ks rn,J rq kg cg,U O px,U O py,U O pz,U O ph,U O pq,J eh kh ch] #[Y t] #[U O bx,U O by_,U O bz,U O bh,U O bs] #[U O r] #[Y ⟨#[]⟩,Y ⟨#[]⟩,J be 0 0,J be 0 0,J be 0 0,J be 0 0,U O 0,U O 0,U O 0,U O 0,U O 0,J be 0 0] 42 9 39 3 42;have rQ:=mg.out W0 bO eK hc1 DR MK;have db:Hid _:=bO;have nY:Hid _:=di;clear bO eK vR hc1 DR MK di mg;go_enter Tryz.func91,Tryz.ntmps91;go_wp2_with fail;rw[<- bN];refine rQ.mono ?_;intro e w1 h;obtain⟨da,u0,u1,b2,m2,e2,b3,m3,e3,b4,m4,e4,b5,m5,e5,u6,u7,u8,u9,u10,b11,m11,e11,r1,rfl,HR⟩:=h.wrap db.out nY.out (by omega);obtain⟨q0,q1,q2,q3,q4,q5,q6,q7,q8,q9,q10,q11⟩:=bB da;obtain⟨wi,wj,xA,xB,xC,xD,Dh,Di,Dj,Dk,pZ,qb⟩:=kd da;clear h da rQ bN db nY;simp only[aC,IC,Jf] at HR;go_wp2_with fail;exact IK (v:=Ik #[Ij #[Y u0,Y u1,J b2 m2 e2,J b3 m3 e3,J b4 m4 e4,J b5 m5 e5,U O u6,U O u7,U O u8,U O u9,U O u10,J b11 m11 e11],U O r1]) (by simp[results,Tryz.results91,go_sem,q0,q1,q2,q3,q4,q5,q6,q7,q8,q9,q10,q11]) rfl HR.out
end Go.Proofs.YtfidhgjmifendaaGreatDoor
