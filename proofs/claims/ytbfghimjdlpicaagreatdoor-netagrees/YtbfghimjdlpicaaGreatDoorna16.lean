import Derived.Test.YtbfghimjdlpicaaGreatDoorna14
set_option maxHeartbeats 12800000
set_option maxRecDepth 100000
open Go.Value renaming pointer→If,string→Y,int→U,bool→Ia,slice→J
open Go.IntKind renaming i64→O
open Option renaming some→AI,none→be
namespace Go.Proofs.YtbfghimjdlpicaaGreatDoor
open Go.RowKit
theorem R7{rs:List bU}{m:Mem}(h:∀r∈rs,r.m.name.size<=maxLen)(hm:m.name.size<=maxLen):∀r∈hZ rs m,r.m.name.size<=maxLen:=by
 intro r hr;unfold hZ at hr;split at hr
 .split at hr
  .rcases List.mem_append.1 hr with hr|hr
   .exact h r (List.mem_of_mem_eraseIdx hr)
   .simp at hr;subst hr;exact hm
  .exact h r hr
 .rcases List.mem_append.1 hr with hr|hr
  .exact h r hr
  .simp at hr;subst hr;exact hm
theorem ve(L b:Nat)(n:Nd)(t:ByteArray)(m:Mem)(w:World)(h:Wk L w b n)(hL:L<=b)(gE:n.ms.length<=1000)(pW:eB n.rs=0)(hm:eR n.ms t=m)(he:m.e=0)(cB:m.name.size<=maxLen) :
 aK 106 #[If (AI ⟨b,0,be⟩),Y t] w λe w'=>e=.returned (U O (iN n.rs m))/\Sh (λk=>k=b) w w'/\(iN n.rs m=0->Wk L w' b { n with rs:=hZ n.rs m }):=by
 have rJ:Hid (Wk L w b n):=h;have aO:=h.lt;obtain⟨vm,vr,vs,vg,vw,h1,h2,h3,h4⟩:=h;have nL:Hid _:=h2.is h4;obtain⟨am,cm,ou,_⟩:=aE h2.ms;obtain⟨ar,cr,vc,_⟩:=aE h2.rs;subst ou vc;have GR:Hid (ly 64 #[If (AI ⟨b,0,be⟩),Y t] w (.tuple #[.agg #[Y m.name,U O m.state,U O m.aI,U O m.addr,Ia m.server],Ia (bX n.ms t).isSome])):=by
  have hq:=jK b am n.ms.length cm n.ms t w (ae h1 2) nL.out.ms gE;rw[hm] at hq;exact hq
 have Aw:Hid (∀W,Below w.heap.size w W->aK _ _ _ _):=λW hW=>RZ n.rs _ m W (nL.out.rs.below hW) cB pW he;have vf:Hid (∀W w1 a k c,Below w.heap.size w W->Below W.heap.size W w1->(iN n.rs m=0->cV W.heap.size w1 (J a k c) (hZ n.rs m))->iN n.rs m=0->Wk L (w1.setCell ⟨b,3,be⟩ (J a k c)) b { n with rs:=hZ n.rs m }):=λW w1 a k c hW h1 h2 h0=>
  (rJ.out.below hW).MF (by have:=hW.size;omega) h1 (h2 h0) (R7 h4.rs cB)
 have HX:Hid (∀W,Below w.heap.size w W->W.heap[b]?=AI (.cells (dE n (J am n.ms.length cm) (J ar n.rs.length cr) vs vg vw) 107 (0,0))):=λW hW=>(hW.block _ aO).trans h1;have y2:=ae h1 2;generalize iN n.rs m=pe at *;generalize C5:n.rs.length=kr at *;generalize Bg:n.ms.length=km at *;clear C5 Bg h1 h2 h3 h4 hm he pW;generalize(bX n.ms t).isSome=fd at *;obtain⟨mn,st,lf,ad,sv⟩:=m;simp only at GR Aw cB;go_enter Tryz.func106,Tryz.ntmps106;go_wp2_with fail;refine GR.out.mono ?_;rintro e w1 ⟨rfl,aC⟩;obtain⟨W2,bO⟩:∃W2,W2=w1.alloc (.cells #[Y mn,U O st,U O lf,U O ad,Ia sv] 52):=⟨_,rfl⟩;have aL:Below w.heap.size w W2:=by rw[bO];exact aC.alloc aC.size _
 have bA:Hid _:=aL;have dO:W2.heap[w1.heap.size]?=AI (.cells #[Y mn,U O st,U O lf,U O ad,Ia sv] 52 (0,0)):=by rw[bO];exact heap_alloc_new w1 _
 obtain⟨x0,x1,x2,x3,x4⟩:=jY dO;have y3:=ae (HX.out W2 aL) 3;go_upto_region 2 with fail
 rw[<- bO];clear bO aC aL dO y2 GR;have Wu:b<W2.heap.size:=by have:=bA.out.size;omega
 go_region_with (first|(go_at_call 154;refine(Aw.out _ bA.out.drew).mono ?_;rintro e w3 ⟨a,k,c,rfl,bY,lA⟩;have cF:Hid (Below W2.heap.size W2 w3):=(Below.refl W2.heap.size W2).drew.trans bY;have eG:Hid (pe=0->Wk L (w3.setCell ⟨b,3,be⟩ (J a k c)) b { n with rs:=hZ n.rs ⟨mn,st,lf,ad,sv⟩ }):=vf.out _ _ a k c bA.out.drew bY lA;have iH:=HX.out w3 (bA.out.trans (cF.out.mono bA.out.size));have z3:w3.cell? ⟨b,3,be⟩=AI (J ar kr cr):=ae iH 3;have zf:w3.frozen? ⟨b,3,be⟩=false:=aA iH 3;clear bY lA iH))
 all_goals
  go_wp2_with fail;go_ret;exact⟨rfl,((Sh.of bA.out).next cF.out).setCell (S:=λk=>k=b) rfl _,eG.out⟩
theorem R8{ms:List Mem}{p:Nat}{f:Bool}(h:∀m∈ms,m.name.size<=maxLen):∀m∈rF ms p f,m.name.size<=maxLen:=by
 intro m hm;unfold rF at hm;split at hm
 .rcases List.mem_or_eq_of_mem_set hm with hm|rfl
  .exact h m hm
  .exact cD h p
 .exact h m hm
theorem zl{ms:List Mem}{p:Nat}{f:Bool}(h:ia ms p f=true):jL ms p f=0:=by
 unfold ia at h;unfold jL;rw[Bool.and_eq_true] at h;obtain⟨h1,h2⟩:=h;simp only[Bool.not_eq_true'] at h2;rw[h2];simp
theorem C9(L b:Nat)(n:Nd)(w:World)(h:Wk L w b n)(hL:L<=b)(gE:bp n.ms=0)(pW:eB n.rs=0)(hl:bl n.name=true) :
 aK 107 #[If (AI ⟨b,0,be⟩)] w λe w'=>e=.returned (U O (Ay n))/\Sh (λk=>k=b) w w'/\Hid (Ay n=0->Wk L w' b (sw n)):=by
 have rJ:Hid (Wk L w b n):=h;have aO:=h.lt;obtain⟨vm,vr,vs,vg,vw,h1,h2,h3,h4⟩:=h;have nL:Hid _:=h2.is h4;obtain⟨am,cm,ou,_⟩:=aE h2.ms;subst ou;have HRF:Hid (∀W,Below w.heap.size w W->aK 155 #[J am n.ms.length cm,Y n.name] W λe w'=>∃a k c,e=.returned (.tuple #[J a k c,Ia (ia n.ms (jf n) (mY n)),U O (jL n.ms (jf n) (mY n))])/\Below W.heap.size W w'/\(jL n.ms (jf n) (mY n)=0->Own W.heap.size w' (J a k c) (nK n))):=λW hW=>by
  refine(Bi n.ms _ n.name W (nL.out.ms.below hW) gE h4.name hl (jf n) (mY n) (sI (aj gE).2.1 n.name)).mono ?_;rintro e w' ⟨v',rfl,hb,hx,ho⟩;by_cases h0:jL n.ms (jf n) (mY n)=0
  .obtain⟨a,c,rfl,_⟩:=aE (ho h0)
   exact⟨a,_,c,rfl,hb,λ_=>ho h0⟩
  .rw[hx h0]
   exact⟨be,0,0,rfl,hb,λh=>absurd h h0⟩
 have vh:Hid (∀W w1 a k c,Below w.heap.size w W->Below W.heap.size W w1->(jL n.ms (jf n) (mY n)=0->Own W.heap.size w1 (J a k c) (nK n))->jL n.ms (jf n) (mY n)=0->Wk L (w1.setCell ⟨b,2,be⟩ (J a k c)) b { n with ms:=nK n }):=λW w1 a k c hW h1 h2 h0=>
  (rJ.out.below hW).ME (by have:=hW.size;omega) h1 (h2 h0) (R8 h4.ms)
 have HX:Hid (∀W,Below w.heap.size w W->W.heap[b]?=AI (.cells (dE n (J am n.ms.length cm) vr vs vg vw) 107 (0,0))):=λW hW=>(hW.block _ aO).trans h1;have RR:Hid (∀W,ia n.ms (jf n) (mY n)=true->Wk L W b { n with ms:=nK n }->aK 106 #[If (AI ⟨b,0,be⟩),Y n.name] W λe w'=>e=.returned (U O (iN n.rs (zc n)))/\Sh (λk=>k=b) W w'/\(iN n.rs (zc n)=0->Wk L w' b { n with ms:=nK n,rs:=hZ n.rs (zc n) })):=λW hR hW=>by
  obtain⟨_,_,f3,f4,f5,f6,f7⟩:=rG gE hR;exact ve L b { n with ms:=nK n } n.name (zc n) W hW hL (by show(nK n).length<=1000;rw[f3,List.length_set];have:=(aj gE).1;omega) pW rfl f5 (by rw[f4];show(n.ms.getD (jf n) dm).name.size<=maxLen;rw[f6];exact h4.name)
 have HE:Hid (ia n.ms (jf n) (mY n)=true->Ay n=iN n.rs (zc n)/\sw n={ n with ms:=nK n,rs:=hZ n.rs (zc n) }):=λhR=>by
  unfold Ay sw;rw[if_pos (zl hR),if_pos hR,if_pos hR];exact⟨rfl,rfl⟩
 have lP:Hid (ia n.ms (jf n) (mY n)=false->Ay n=jL n.ms (jf n) (mY n)/\sw n={ n with ms:=nK n }):=λhR=>by
  unfold Ay sw;rw[hR];simp only[Bool.false_eq_true,if_false];refine⟨?_,trivial⟩;split
  .rename_i h;exact h.symm
  .rfl
 have HEZ:Hid (ia n.ms (jf n) (mY n)=true->jL n.ms (jf n) (mY n)=0):=λhR=>zl hR;have y0:=ae h1 0;have y2:=ae h1 2;have R9:Hid (∀W,Wk L W b { n with ms:=nK n }->W.cell? ⟨b,0,be⟩=AI (Y n.name)):=λW hW=>by
  obtain⟨_,_,_,_,_,g1,_⟩:=hW;exact ae g1 0
 generalize Ay n=res at *;generalize jL n.ms (jf n) (mY n)=re at *;generalize ia n.ms (jf n) (mY n)=rr at *;generalize iN n.rs (zc n)=pe at *;generalize Bg:n.ms.length=km at *;clear Bg h1 h2 h3 h4 gE pW;go_enter Tryz.func107,Tryz.ntmps107;go_wp2_with fail;go_region_with (first|(go_at_call 155;refine(HRF.out _ (Below.refl _ _).drew).mono ?_;rintro e w1 ⟨a,k,c,rfl,aC,Bj⟩;have aZ:Hid (Below w.heap.size w w1):=(Below.refl w.heap.size w).drew.trans aC;have mT:Hid (re=0->Wk L (w1.setCell ⟨b,2,be⟩ (J a k c)) b { n with ms:=nK n }):=vh.out _ _ a k c (Below.refl _ _).drew aC Bj;have iH:=HX.out w1 aZ.out;have z2:w1.cell? ⟨b,2,be⟩=AI (J am km cm):=ae iH 2;have zf:w1.frozen? ⟨b,2,be⟩=false:=aA iH 2;have xf:Hid (w1.heap[b]?=AI (.cells (dE n (J am km cm) vr vs vg vw) 107 (0,0))):=iH;clear aC Bj iH))
 all_goals
  obtain⟨W2,bO⟩:∃W2,W2=w1.setCell ⟨b,2,be⟩ (J a k c):=⟨_,rfl⟩;rw[<- bO] at mT;have zj:Hid (Sh (λk=>k=b) w W2):=by rw[bO];exact(Sh.of aZ.out).setCell (S:=λk=>k=b) rfl _
  rw[<- bO];clear bO z2 zf y0 y2;cases rr
  .obtain⟨e1,e2⟩:=lP.out rfl
   have HR:Hid _:=e1;have HN:Hid _:=e2;clear e1 e2 HE lP RR;go_wp2_with fail;go_ret;exact⟨an HR.out.symm,zj.out,λh=>by rw[HN.out];exact mT.out (HR.out.symm.trans h)⟩
  .obtain⟨e1,e2⟩:=HE.out rfl
   have HR:Hid _:=e1;have HN:Hid _:=e2;have Fh:=mT.out (HEZ.out rfl);have HTC:Hid (aK _ _ _ _):=RR.out W2 rfl Fh;have y0:=R9.out W2 Fh;clear e1 e2 HE lP RR Fh mT;go_wp2_with fail;refine HTC.out.mono ?_;rintro e w4 ⟨rfl,Bc,Sa⟩;have LA:Hid _:=zj.out.trans Bc;have GW:Hid _:=Sa;clear Bc Sa;go_wp2_with fail;go_ret;exact⟨an HR.out.symm,LA.out,λh=>by rw[HN.out];exact GW.out (HR.out.symm.trans h)⟩
end Go.Proofs.YtbfghimjdlpicaaGreatDoor
