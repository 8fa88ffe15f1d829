import Derived.Test.YtbfghimjdlpicaaGreatDoorna21
set_option maxHeartbeats 6400000
set_option maxRecDepth 100000
open Go.Ending renaming returned→AT
open Go.Value renaming tuple→Ip,slice→J,int→U,pointer→If,string→Y,bool→Ia
open Go.IntKind renaming i64→O
open Go.Proofs.Tryz renaming prog→AS
open Option renaming some→AI,none→be
open Go.RowKit.Below renaming refl→Ib
namespace Go.Proofs.YtbfghimjdlpicaaGreatDoor
open Go.RowKit
def tU(n:Nd)(s:Sv.aV)(E:Int):Int:=if s.node=n.name then E else 4
theorem Dw(L b:Nat)(n:Nd)(s:Sv.aV)(E:Int)(X:List Sv.aV)(w:World)(h:Wk L w b n)(hL:L<=b)(hX:∀x∈X,x.ok)(rR:∀v W,Sv.Sl W v n.sv->Calls AS 187 #[v,svA s] W λe w'=>∃p l c,e=AT (Ip #[J p l c,U O E])/\Hid (Sv.Own W.heap.size w' (J p l c) X)/\Below W.heap.size W w') :
 Calls AS 131 #[If (AI ⟨b,0,be⟩),svA s] w λe w'=>e=AT (U O (tU n s E))/\Sh (λk=>k=b) w w'/\Hid (tU n s E=0->Wk L w' b { n with sv:=X }):=by
 have rJ:Hid (Wk L w b n):=h;have aO:=h.lt;obtain⟨vm,vr,vs,vg,vw,h1,h2,h3,h4⟩:=h;have nL:Hid _:=h2.is h4;obtain⟨zp,cs,tS,_⟩:=aE h2.sv;subst tS;have Aw:Hid (∀W,Below w.heap.size w W->Calls _ _ _ _ _):=λW hW=>rR _ W (nL.out.sv.below hW);have vf:Hid (∀W w1 a k c,Below w.heap.size w W->Below W.heap.size W w1->Sv.Own W.heap.size w1 (J a k c) X->Wk L (w1.setCell ⟨b,4,be⟩ (J a k c)) b { n with sv:=X }):=λW w1 a k c hW h1 h2=>
  (rJ.out.below hW).CV (by have:=hW.size;omega) h1 h2 hX
 have HX:Hid (∀W,Below w.heap.size w W->W.heap[b]?=AI (.cells (dE n vm vr (J zp n.sv.length cs) vg vw) 107 (0,0))):=λW hW=>(hW.block _ aO).trans h1;have HE:Hid (tU n s E=if s.node=n.name then E else 4):=rfl;generalize tU n s E=res at *;generalize C5:n.sv.length=kr at *;clear C5 h1 h2 h3 h4 hX rR;obtain⟨s0,s1,s2,s3,s4,s5,s6,s7,s8⟩:=s;simp only[svA] at Aw HE ⊢;obtain⟨W2,bO⟩:∃W2,W2=w.alloc (.cells #[Y s0,Y s1,Y s2,Y s3,U O s4,U O s5,Ia s6,U O s7,Ia s8] 38):=⟨_,rfl⟩;have aL:Below w.heap.size w W2:=by rw[bO];exact(Ib _ _).alloc (Nat.le_refl _) _
 have bA:Hid _:=aL;have dO:W2.heap[w.heap.size]?=AI (.cells #[Y s0,Y s1,Y s2,Y s3,U O s4,U O s5,Ia s6,U O s7,Ia s8] 38 (0,0)):=by rw[bO];exact heap_alloc_new w _
 obtain⟨x0,x1,x2,x3,x4,x5,x6,x7,x8⟩:=MA dO;have y0:=ae (HX.out W2 aL) 0;have y3:=ae (HX.out W2 aL) 4;have Wu:b<W2.heap.size:=by have:=bA.out.size;omega
 go_enter Tryz.func131,Tryz.ntmps131;go_upto_region 1 with fail
 rw[<- bO];clear bO aL dO;by_cases cY:s0=n.name
 .have HR:Hid _:=HE.out.trans (if_pos cY)
  have hq:(s0.toList==n.name.toList)=true:=by rw[cY];simp
  have Vd:s0.toList=n.name.toList:=by rw[cY]
  clear HE cY;go_quiet (fail)
  go_wp2_with fail;generalize hV:W2.drewN _=V;have nV:Hid (Below w.heap.size w V):=by rw[<- hV];exact below_drewN bA.out _
  have u0:V.cell? ⟨w.heap.size,0,be⟩=AI (Y s0):=by rw[<- hV];exact x0
  have u1:V.cell? ⟨w.heap.size,1,be⟩=AI (Y s1):=by rw[<- hV];exact x1
  have u2:V.cell? ⟨w.heap.size,2,be⟩=AI (Y s2):=by rw[<- hV];exact x2
  have u3:V.cell? ⟨w.heap.size,3,be⟩=AI (Y s3):=by rw[<- hV];exact x3
  have u4:V.cell? ⟨w.heap.size,4,be⟩=AI (U O s4):=by rw[<- hV];exact x4
  have u5:V.cell? ⟨w.heap.size,5,be⟩=AI (U O s5):=by rw[<- hV];exact x5
  have u6:V.cell? ⟨w.heap.size,6,be⟩=AI (Ia s6):=by rw[<- hV];exact x6
  have u7:V.cell? ⟨w.heap.size,7,be⟩=AI (U O s7):=by rw[<- hV];exact x7
  have u8:V.cell? ⟨w.heap.size,8,be⟩=AI (Ia s8):=by rw[<- hV];exact x8
  have v3:V.cell? ⟨b,4,be⟩=AI (J zp kr cs):=by rw[<- hV];exact y3
  have hbv:b<V.heap.size:=by rw[<- hV];exact Wu
  clear hV x0 x1 x2 x3 x4 x5 x6 x7 x8 y0 y3 Wu bA;go_region_with (first|(go_at_call 187;refine(Aw.out _ nV.out.drew).mono ?_;rintro e w3 ⟨a,k,c,rfl,lA,bY⟩;have cF:Hid (Below V.heap.size V w3):=(Ib V.heap.size V).drew.trans bY;have eG:Hid (Wk L (w3.setCell ⟨b,4,be⟩ (J a k c)) b { n with sv:=X }):=vf.out _ _ a k c nV.out.drew bY lA.out;have iH:=HX.out w3 (nV.out.trans (cF.out.mono nV.out.size));have z3:w3.cell? ⟨b,4,be⟩=AI (J zp kr cs):=ae iH 4;have zf:w3.frozen? ⟨b,4,be⟩=false:=aA iH 4;clear bY lA iH))
  all_goals
   go_wp2_with fail;go_ret;exact⟨an HR.out.symm,((Sh.of nV.out).next cF.out).setCell (S:=λk=>k=b) rfl _,λ_=>eG.out⟩
 .have HR:Hid _:=HE.out.trans (if_neg cY)
  have hq:(s0.toList==n.name.toList)=false:=by rw[kC,decide_eq_false cY]
  clear HE cY;go_quiet (fail)
  go_wp2_with fail;go_ret;exact⟨an HR.out.symm,Sh.of (below_drewN bA.out _),λh=>by have:=HR.out.symm.trans h;cases this⟩
theorem Hl(L b:Nat)(n:Nd)(t:ByteArray)(E:Int)(X:List Sv.aV)(w:World)(h:Wk L w b n)(hL:L<=b)(hX:∀x∈X,x.ok)(rR:∀v W,Sv.Sl W v n.sv->Calls AS 188 #[v,Y n.name,Y t] W λe w'=>∃p l c,e=AT (Ip #[J p l c,U O E])/\Hid (Sv.Own W.heap.size w' (J p l c) X)/\Below W.heap.size W w') :
 Calls AS 133 #[If (AI ⟨b,0,be⟩),Y t] w λe w'=>e=AT (U O E)/\Sh (λk=>k=b) w w'/\Hid (E=0->Wk L w' b { n with sv:=X }):=by
 have rJ:Hid (Wk L w b n):=h;have aO:=h.lt;obtain⟨vm,vr,vs,vg,vw,h1,h2,h3,h4⟩:=h;have nL:Hid _:=h2.is h4;obtain⟨zp,cs,tS,_⟩:=aE h2.sv;subst tS;have Aw:Hid (∀W,Below w.heap.size w W->Calls _ _ _ _ _):=λW hW=>rR _ W (nL.out.sv.below hW);have vf:Hid (∀W w1 a k c,Below w.heap.size w W->Below W.heap.size W w1->Sv.Own W.heap.size w1 (J a k c) X->Wk L (w1.setCell ⟨b,4,be⟩ (J a k c)) b { n with sv:=X }):=λW w1 a k c hW h1 h2=>
  (rJ.out.below hW).CV (by have:=hW.size;omega) h1 h2 hX
 have HX:Hid (∀W,Below w.heap.size w W->W.heap[b]?=AI (.cells (dE n vm vr (J zp n.sv.length cs) vg vw) 107 (0,0))):=λW hW=>(hW.block _ aO).trans h1;have y0:=ae h1 0;have y3:=ae h1 4;generalize C5:n.sv.length=kr at *;clear C5 h1 h2 h3 h4 hX rR;have nV:Hid (Below w.heap.size w w):=Ib _ _;go_enter Tryz.func133,Tryz.ntmps133;go_upto_region 1 with fail
 go_region_with (first|(go_at_call 188;refine(Aw.out _ nV.out.drew).mono ?_;rintro e w3 ⟨a,k,c,rfl,lA,bY⟩;have cF:Hid (Below w.heap.size w w3):=(Ib w.heap.size w).drew.trans bY;have eG:Hid (Wk L (w3.setCell ⟨b,4,be⟩ (J a k c)) b { n with sv:=X }):=vf.out _ _ a k c nV.out.drew bY lA.out;have iH:=HX.out w3 (nV.out.trans (cF.out.mono nV.out.size));have z3:w3.cell? ⟨b,4,be⟩=AI (J zp kr cs):=ae iH 4;have zf:w3.frozen? ⟨b,4,be⟩=false:=aA iH 4;clear bY lA iH))
 all_goals
  go_wp2_with fail;go_ret;exact⟨rfl,((Sh.of nV.out).next cF.out).setCell (S:=λk=>k=b) rfl _,λ_=>eG.out⟩
theorem Hn(L b:Nat)(n:Nd)(ad:Int)(E:Int)(X:List Gw.bN)(w:World)(h:Wk L w b n)(hL:L<=b)(hX:∀x∈X,x.ok)(rR:∀v W,Gw.Sl W v n.gw->Calls AS 189 #[v,Y n.av,U O ad] W λe w'=>∃p l c,e=AT (Ip #[J p l c,U O E])/\Hid (Gw.Own W.heap.size w' (J p l c) X)/\Below W.heap.size W w') :
 Calls AS 135 #[If (AI ⟨b,0,be⟩),U O ad] w λe w'=>e=AT (U O E)/\Sh (λk=>k=b) w w'/\Hid (E=0->Wk L w' b { n with gw:=X }):=by
 have rJ:Hid (Wk L w b n):=h;have aO:=h.lt;obtain⟨vm,vr,vs,vg,vw,h1,h2,h3,h4⟩:=h;have nL:Hid _:=h2.is h4;obtain⟨zp,cs,tS,_⟩:=aE h2.gw;subst tS;have Aw:Hid (∀W,Below w.heap.size w W->Calls _ _ _ _ _):=λW hW=>rR _ W (nL.out.gw.below hW);have vf:Hid (∀W w1 a k c,Below w.heap.size w W->Below W.heap.size W w1->Gw.Own W.heap.size w1 (J a k c) X->Wk L (w1.setCell ⟨b,5,be⟩ (J a k c)) b { n with gw:=X }):=λW w1 a k c hW h1 h2=>
  (rJ.out.below hW).MG (by have:=hW.size;omega) h1 h2 hX
 have HX:Hid (∀W,Below w.heap.size w W->W.heap[b]?=AI (.cells (dE n vm vr vs (J zp n.gw.length cs) vw) 107 (0,0))):=λW hW=>(hW.block _ aO).trans h1;have y0:=ae h1 1;have y3:=ae h1 5;generalize C5:n.gw.length=kr at *;clear C5 h1 h2 h3 h4 hX rR;have nV:Hid (Below w.heap.size w w):=Ib _ _;go_enter Tryz.func135,Tryz.ntmps135;go_upto_region 1 with fail
 go_region_with (first|(go_at_call 189;refine(Aw.out _ nV.out.drew).mono ?_;rintro e w3 ⟨a,k,c,rfl,lA,bY⟩;have cF:Hid (Below w.heap.size w w3):=(Ib w.heap.size w).drew.trans bY;have eG:Hid (Wk L (w3.setCell ⟨b,5,be⟩ (J a k c)) b { n with gw:=X }):=vf.out _ _ a k c nV.out.drew bY lA.out;have iH:=HX.out w3 (nV.out.trans (cF.out.mono nV.out.size));have z3:w3.cell? ⟨b,5,be⟩=AI (J zp kr cs):=ae iH 5;have zf:w3.frozen? ⟨b,5,be⟩=false:=aA iH 5;clear bY lA iH))
 all_goals
  go_wp2_with fail;go_ret;exact⟨rfl,((Sh.of nV.out).next cF.out).setCell (S:=λk=>k=b) rfl _,λ_=>eG.out⟩
end Go.Proofs.YtbfghimjdlpicaaGreatDoor
