import Derived.Test.YtfidjlcdlakceaaGreatDoortf37
import Derived.Test.YtfidjlcdlakceaaGreatDoortf38
set_option maxHeartbeats 25600000
set_option maxRecDepth 100000
open Go.Value renaming tuple→Il,slice→U,int→O,pointer→If,string→I,bool→AI
open Go.IntKind renaming i64→J
open Go.Proofs.Tryz renaming prog→be
open Option renaming some→Z,none→Y
namespace Go.Proofs.YtfidjlcdlakceaaGreatDoor
open Go.RowKit
def uT(n:Nd)(s:Sv.aI)(E:Int):Int:=if s.node=n.name then E else 4
theorem Ev(L b:Nat)(n:Nd)(s:Sv.aI)(E:Int)(X:List Sv.aI)(w:World)(h:Wk L w b n)(hL:L<=b)(hX:∀x∈X,x.ok)(Xg:∀v W,Sv.Sl W v n.sv->Calls be 88 #[v,svA s] W λe w'=>∃p l c,e=.returned (Il #[U p l c,O J E])/\Hid (Sv.Own W.heap.size w' (U p l c) X)/\Below W.heap.size W w') :
 Calls be 47 #[If (Z ⟨b,0,Y⟩),svA s] w λe w'=>e=.returned (O J (uT n s E))/\Sh (λk=>k=b) w w'/\Hid (uT n s E=0->Wk L w' b { n with sv:=X }):=by
 have sA:Hid (Wk L w b n):=h;have aU:=h.lt;obtain⟨vm,vr,vs,vg,vw,h1,h2,h3,h4⟩:=h;have ze:Hid _:=h2.is h4;obtain⟨Mk,cs,BE,_⟩:=az h2.sv;subst BE;have SO:Hid (∀W,Below w.heap.size w W->Calls _ _ _ _ _):=λW hW=>Xg _ W (ze.out.sv.below hW);have PU:Hid (∀W w1 a k c,Below w.heap.size w W->Below W.heap.size W w1->Sv.Own W.heap.size w1 (U a k c) X->Wk L (w1.setCell ⟨b,4,Y⟩ (U a k c)) b { n with sv:=X }):=λW w1 a k c hW h1 h2=>
  (sA.out.below hW).DQ (by have:=hW.size;omega) h1 h2 hX
 have HX:Hid (∀W,Below w.heap.size w W->W.heap[b]?=Z (.cells (fD n vm vr (U Mk n.sv.length cs) vg vw) 81 (0,0))):=λW hW=>(hW.block _ aU).trans h1;have HE:Hid (uT n s E=if s.node=n.name then E else 4):=rfl;generalize uT n s E=res at *;generalize Vp:n.sv.length=kr at *;clear Vp h1 h2 h3 h4 hX Xg;obtain⟨s0,s1,s2,s3,s4,s5,s6,s7,s8⟩:=s;simp only[svA] at SO HE ⊢;obtain⟨W2,eX⟩:∃W2,W2=w.alloc (.cells #[I s0,I s1,I s2,I s3,O J s4,O J s5,AI s6,O J s7,AI s8] 52):=⟨_,rfl⟩;have aC:Below w.heap.size w W2:=by rw[eX];exact(Below.refl _ _).alloc (Nat.le_refl _) _
 have bw:Hid _:=aC;have iL:W2.heap[w.heap.size]?=Z (.cells #[I s0,I s1,I s2,I s3,O J s4,O J s5,AI s6,O J s7,AI s8] 52 (0,0)):=by rw[eX];exact heap_alloc_new w _
 obtain⟨x0,x1,x2,x3,x4,x5,x6,x7,x8⟩:=qS iL;have y0:=af (HX.out W2 aC) 0;have y3:=af (HX.out W2 aC) 4;have Hz:b<W2.heap.size:=by have:=bw.out.size;omega
 go_enter Tryz.func47,Tryz.ntmps47;go_upto_region 1 with fail
 rw[<- eX];clear eX aC iL;by_cases ft:s0=n.name
 .have HR:Hid _:=HE.out.trans (if_pos ft)
  have hq:(s0.toList==n.name.toList)=true:=by rw[ft];simp
  have hq2:s0.toList=n.name.toList:=by rw[ft]
  clear HE ft;go_quiet (fail)
  go_wp2_with fail;generalize hV:W2.drewN _=V;have HBV:Hid (Below w.heap.size w V):=by rw[<- hV];exact below_drewN bw.out _
  have u0:V.cell? ⟨w.heap.size,0,Y⟩=Z (I s0):=by rw[<- hV];exact x0
  have u1:V.cell? ⟨w.heap.size,1,Y⟩=Z (I s1):=by rw[<- hV];exact x1
  have u2:V.cell? ⟨w.heap.size,2,Y⟩=Z (I s2):=by rw[<- hV];exact x2
  have u3:V.cell? ⟨w.heap.size,3,Y⟩=Z (I s3):=by rw[<- hV];exact x3
  have u4:V.cell? ⟨w.heap.size,4,Y⟩=Z (O J s4):=by rw[<- hV];exact x4
  have u5:V.cell? ⟨w.heap.size,5,Y⟩=Z (O J s5):=by rw[<- hV];exact x5
  have u6:V.cell? ⟨w.heap.size,6,Y⟩=Z (AI s6):=by rw[<- hV];exact x6
  have u7:V.cell? ⟨w.heap.size,7,Y⟩=Z (O J s7):=by rw[<- hV];exact x7
  have u8:V.cell? ⟨w.heap.size,8,Y⟩=Z (AI s8):=by rw[<- hV];exact x8
  have v3:V.cell? ⟨b,4,Y⟩=Z (U Mk kr cs):=by rw[<- hV];exact y3
  have hbv:b<V.heap.size:=by rw[<- hV];exact Hz
  clear hV x0 x1 x2 x3 x4 x5 x6 x7 x8 y0 y3 Hz bw;go_region_with (first|(go_at_call 88;refine(SO.out _ HBV.out.drew).mono ?_;rintro e w3 ⟨a,k,c,rfl,nf,bf⟩;have da:Hid (Below V.heap.size V w3):=(Below.refl V.heap.size V).drew.trans bf;have eB:Hid (Wk L (w3.setCell ⟨b,4,Y⟩ (U a k c)) b { n with sv:=X }):=PU.out _ _ a k c HBV.out.drew bf nf.out;have eu:=HX.out w3 (HBV.out.trans (da.out.mono HBV.out.size));have z3:w3.cell? ⟨b,4,Y⟩=Z (U Mk kr cs):=af eu 4;have zf:w3.frozen? ⟨b,4,Y⟩=false:=dZ eu 4;clear bf nf eu))
  all_goals
   go_wp2_with fail;go_ret;exact⟨aj HR.out.symm,((Sh.of HBV.out).next da.out).setCell (S:=λk=>k=b) rfl _,λ_=>eB.out⟩
 .have HR:Hid _:=HE.out.trans (if_neg ft)
  have hq:(s0.toList==n.name.toList)=false:=by rw[kF,decide_eq_false ft]
  clear HE ft;go_quiet (fail)
  go_wp2_with fail;go_ret;exact⟨aj HR.out.symm,Sh.of (below_drewN bw.out _),λh=>by have:=HR.out.symm.trans h;cases this⟩
theorem Ew(L b tb:Nat)(n:Nd)(s:Sv.aI)(E:Int)(X:List Sv.aI)(w:World)(h:Wk L w b n)(hL:L<=b)(hX:∀x∈X,x.ok)(Xg:∀v W,Sv.Sl W v n.sv->Calls be 88 #[v,svA s] W λe w'=>∃p l c,e=.returned (Il #[U p l c,O J E])/\Hid (Sv.Own W.heap.size w' (U p l c) X)/\Below W.heap.size W w')(hc:w.heap[tb]?=Z (.cells #[I s.node,I s.bF,I s.name,I s.tag,O J s.addr,O J s.port,AI s.au,O J s.version,AI s.gone] 52 (0,0))) :
 Calls be 46 #[If (Z ⟨b,0,Y⟩),If (Z ⟨tb,0,Y⟩)] w λe w'=>e=.returned (O J (uT n s E))/\Sh (λk=>k=b) w w'/\Hid (uT n s E=0->Wk L w' b { n with sv:=X }):=by
 have HC:Hid (Calls _ _ _ _ _):=Ev L b n s E X w h hL hX Xg;obtain⟨y0,y1,y2,y3,y4,y5,y6,y7,y8⟩:=qS hc;clear h hc Xg hX;generalize uT n s E=we at *;go_enter Tryz.func46,Tryz.ntmps46;go_wp2_with fail;refine HC.out.mono ?_;rintro e w1 ⟨rfl,hs,hk⟩;have HS:Hid _:=hs;clear hs;go_wp2_with fail;go_ret;exact⟨rfl,HS.out,hk⟩
theorem K6(n:Nd)(s:Sv.aI)(E:Int)(X:List Sv.aI)(vm vr vs vg vw:Value)(w:World)(h:jL w n vm vr vs vg vw)(hX:∀x∈X,x.ok)(Xg:n.e=0->∀v W,Sv.Sl W v n.sv->Calls be 88 #[v,svA s] W λe w'=>∃p l c,e=.returned (Il #[U p l c,O J E])/\Hid (Sv.Own W.heap.size w' (U p l c) X)/\Below W.heap.size W w') :
 Calls be 16 #[.agg (fD n vm vr vs vg vw),.agg #[I s.node,I s.bF,I s.name,I s.tag,O J s.addr,O J s.port,AI s.au,O J s.version,AI s.gone]] w λe w'=>eT n.e (uT n s E) ({ n with sv:=X }) w e w':=by
 have ze:Hid _:=h;obtain⟨W0,dK⟩:∃W0,W0=w.heap.size:=⟨_,rfl⟩;clear dK W0;have xO:Hid (∀W0,Below w.heap.size w W0->W0.heap.size=w.heap.size+3->W0.heap[w.heap.size+1]?=Z (.cells #[I s.node,I s.bF,I s.name,I s.tag,O J s.addr,O J s.port,AI s.au,O J s.version,AI s.gone] 52 (0,0))->Calls be 45 #[.agg (fD n vm vr vs vg vw),.func (.func 46) #[] #[If (Z ⟨w.heap.size+1,0,Y⟩)]] W0 λe w'=>jD n.e (uT n s E) ({ n with sv:=X }) (λ_=>False) (λ_=>True) W0 e w'):=λW0 hb hs hc1=>
  pN 46 #[If (Z ⟨w.heap.size+1,0,Y⟩)] (enters_of Tryz.func46 (by kernel_rfl) rfl) n vm vr vs vg vw W0 (h.below hb) (λ_=>False) (uT n s E) ({ n with sv:=X }) (λ_=>True)
   (λhe W b hW aC hk=>by
    refine(Ew (W0.heap.size+2) b (w.heap.size+1) n s E X W hk (by omega) hX (Xg he) ((hW.block _ (by omega)).trans hc1)).mono ?_;rintro e w' ⟨rfl,hs,hh⟩;exact⟨rfl,hs.mono (λk hk=>.inl (by omega)),λh=>⟨hh.out h,trivial⟩⟩
   ) (λ_ _ _ _=>trivial) (λ_ hk=>hk.elim)
 clear Xg;obtain⟨nm,ct,ms,rs,sv,gw,⟨px,py,pz,ph,pq⟩,wh⟩:=n;obtain⟨⟨em,cm,rfl,_,_⟩,⟨wR,cr,rfl,_,_⟩,⟨es,wS,rfl,_,_⟩,⟨wT,cg,rfl,_,_⟩,⟨eh,ch,rfl,_,_⟩,_,_⟩:=h;simp only[fD] at xO ⊢;generalize ms.length=km at *;generalize rs.length=kr at *;generalize sv.length=ks at *;generalize gw.length=kg at *;generalize wh.length=kh at *;generalize Nd.e ⟨nm,ct,ms,rs,sv,gw,⟨px,py,pz,ph,pq⟩,wh⟩=ne at *;generalize uT ⟨nm,ct,ms,rs,sv,gw,⟨px,py,pz,ph,pq⟩,wh⟩ s E=er at *;generalize(⟨nm,ct,ms,rs,X,gw,⟨px,py,pz,ph,pq⟩,wh⟩:Nd)=n' at *;obtain⟨W0,dK,df,nP,Mh,hc1,bW⟩:=Ef w #[I nm,I ct,U em km cm,U wR kr cr,U es ks wS,U wT kg cg,O J px,O J py,O J pz,O J ph,O J pq,U eh kh ch] #[I s.node,I s.bF,I s.name,I s.tag,O J s.addr,O J s.port,AI s.au,O J s.version,AI s.gone] #[I ⟨#[]⟩,I ⟨#[]⟩,U Y 0 0,U Y 0 0,U Y 0 0,U Y 0 0,O J 0,O J 0,O J 0,O J 0,O J 0,U Y 0 0] 30 52 30;have FH:=xO.out W0 df nP hc1;have dy:Hid _:=df;have xJ:Hid _:=bW;clear df nP Mh hc1 bW xO;go_enter Tryz.func16,Tryz.ntmps16;go_wp2_with fail;rw[<- dK];refine FH.mono ?_;intro e w1 h;obtain⟨cS,u0,u1,b2,m2,e2,b3,m3,e3,b4,m4,e4,b5,m5,e5,u6,u7,u8,u9,u10,b11,m11,e11,r1,rfl,HR⟩:=h.wrap dy.out xJ.out (by omega);obtain⟨q0,q1,q2,q3,q4,q5,q6,q7,q8,q9,q10,q11⟩:=bM cS;obtain⟨FB,Eb,FC,FD,FE,FF,VB,VC,VD,VE,zt,zu⟩:=mK cS;clear h cS FH dK dy xJ;simp only[bU,Nat.zero_add,Nat.reduceAdd] at HR;go_wp2_with fail;exact bodyPost_ret (v:=Il #[.agg #[I u0,I u1,U b2 m2 e2,U b3 m3 e3,U b4 m4 e4,U b5 m5 e5,O J u6,O J u7,O J u8,O J u9,O J u10,U b11 m11 e11],O J r1]) (by simp[results,Tryz.results16,go_sem,q0,q1,q2,q3,q4,q5,q6,q7,q8,q9,q10,q11]) rfl HR.out
end Go.Proofs.YtfidjlcdlakceaaGreatDoor
