import Derived.Test.YtipbebleapjcjaaGreatDoornc18
import Derived.Test.YtipbebleapjcjaaGreatDoornc4
import Derived.Test.YtipbebleapjcjaaGreatDoornc19
set_option maxHeartbeats 6400000
set_option maxRecDepth 1000000
open Array renaming getElem?_eq_some_iff->Ig
open Go renaming bodyPost->JM,bodyPost_ret->IE,heap_alloc_new->Ii,maxLen->Il
open Go.Ending renaming returned->Ia
open Go.IntKind renaming i64->J,wrap_i64->IW
open Go.Joins renaming block_setCell->It
open Go.Lib renaming alloc_old->Jj,idxByFrom->O5
open Go.Obj renaming cells->Ib
open Go.Proofs.Tryz renaming prog->AT
open Go.RowKit renaming ownsRow_setCell_below->Io,wrap64->OT
open Go.RowKit.Below renaming heap_alloc->Iv,heap_setCell->IC,refl->If
open Go.Value renaming agg->Iu,bool->Ic,int->O,pointer->Ik,slice->sh,string->I,tuple->Ir
open Go.World renaming frozen?->Ij
open List renaming cons_append->Jt,getD->Ip,getElem?_eq_getElem->Ih,getElem?_eq_none->IK,getElem_of_mem->I2,length_take->IA,map_cons->J4,map_nil->Og,mem_append->JI,mem_cons_of_mem->Jv,mem_cons_self->Jg,mem_singleton->JR,nil_append->JZ
open Nat renaming le_of_lt->Jw,le_refl->By,lt_of_lt_of_le->Ix,lt_succ_iff_lt_or_eq->IL,not_lt_zero->IV,zero_le->Iw
open Option renaming none->U,some->AI
open Go.Proofs.Tryz
namespace Go.Proofs.YtipbebleapjcjaaGreatDoor
open Go.RowKit
theorem Ga(id code mQ:Int)(mX cut:Bool)(name:ByteArray)(rs:List Rc.Rec)(v:Value)(w:World)(hs:name.size<=2000000)(A3:∀r∈rs,r.name.size<=2000000/\r.target.size<=2000000)(hv:Rc.Sl w v rs) :
 Calls AT 43 #[Iu #[O J id,Ic mX,Ic cut,O J code,I name,O J mQ,v]] w λe w'=>e=Ia (O J (nx id code mQ name rs))/\Below w.heap.size w w':=by
 have HN:Hid (∀W,Calls AT 44 #[I name] W λe w'=>e=Ia (O J (nS name))/\Below W.heap.size W w'):=λW=>rP _ _ hs;obtain⟨pa,cap,rfl,tR,pO⟩:=hv;have Ed:Hid _:=pO;have HRR:Hid (∀k,k<rs.length->∀W,Calls AT 84 #[B6 (rs.getD k Rc.dm)] W λe w'=>e=Ia (O J (nT (rs.getD k Rc.dm)))/\Below W.heap.size W w'):=λk hk W=>by
  have h:=A3 (rs.getD k Rc.dm) (by simp[Ip,Ih hk]);exact TM _ W h.1 h.2
 clear tR pO hs A3;generalize hE:nx id code mQ name rs=E;unfold nx at hE;go_enter func43,ntmps43;go_wp2_with fail;have pS:(w.alloc (Ib #[O J id,Ic mX,Ic cut,O J code,I name,O J mQ,sh pa rs.length cap] 63)).heap[w.heap.size]?=AI (Ib #[O J id,Ic mX,Ic cut,O J code,I name,O J mQ,sh pa rs.length cap] 63 (0,0)):=Ii w _;obtain⟨w0,qu⟩:∃w0,w0=w.alloc (Ib #[O J id,Ic mX,Ic cut,O J code,I name,O J mQ,sh pa rs.length cap] 63):=⟨_,rfl⟩;have pN:Hid (Below w.heap.size w w0):=(show Below _ _ _ by rw[qu];exact(If _ _).alloc (By _) _);rw[<- qu] at pS ⊢;clear qu;have f3:=fi pS 3;have f4:=fi pS 4;have f6:=fi pS 6;refine(nN _ _ _ _).mono ?_;rintro e w1 ⟨rfl,RF⟩;subst RF;by_cases h1:within id 0 65535=false
 .rw[if_pos (by rw[h1];rfl)] at hE
  subst hE;rw[h1];go_wp2_with fail;go_ret;exact⟨rfl,pN.out⟩
 have h1t:within id 0 65535=true:=by simpa using h1
 rw[h1t] at hE ⊢;rw[Bool.true_and] at hE;go_wp2_with fail;refine(nN _ _ _ _).mono ?_;rintro e w2 ⟨rfl,xN⟩;subst xN;by_cases h2:within code 0 15=false
 .rw[if_pos h2] at hE
  subst hE;rw[h2];go_wp2_with fail;go_ret;exact⟨rfl,pN.out⟩
 rw[if_neg h2] at hE;rw[show within code 0 15=true by simpa using h2];by_cases h3:20<rs.length
 .rw[if_pos h3] at hE
  subst hE;have h8:decide (20<(rs.length:Int))=true:=by simp;omega
  go_wp2_with fail;go_ret;exact⟨rfl,pN.out⟩
 rw[if_neg h3] at hE;have h8:decide (20<(rs.length:Int))=false:=by simp;omega
 go_wp2_with fail;refine(HN.out _).mono ?_;rintro e w5 ⟨rfl,sK⟩;have TC:=(sK.block w.heap.size (Ig.1 pS).1).trans pS;have hl5:=(Ig.1 TC).1;have qB:Hid _:=pN.out.trans (sK.mono pN.out.size);clear pS sK f3 f4 f6 h8;by_cases h4:nS name=0
 .rw[h4]
  rw[if_neg (by simpa using h4)] at hE;have f5:=fi TC 5;have f6:=fi TC 6;go_wp2_with fail;refine(A8 _ _).mono ?_;rintro e w6 ⟨rfl,hw6⟩;subst hw6;by_cases h5:qS mQ=false
  .rw[if_pos h5] at hE
   subst hE;rw[h5];go_wp2_with fail;go_ret;exact⟨rfl,qB.out⟩
  rw[if_neg h5] at hE;rw[show qS mQ=true by simpa using h5];have HEE:Hid _:=hE;have zY:rs.length<=20:=by omega
  clear hE h1 h1t h2 h3 h4 h5;generalize M4:rs.length=n at *;have vj:Hid _:=M4;clear M4;have Ro:Hid _:=TC;clear TC;go_wp2_with fail;go_loopw [3,4] (λev i wr=>∃k:Nat,k<=n/\ev=O J 0/\i=O J k/\Hid (Below w.heap.size w wr)/\Hid (wr.heap[w.heap.size]?=AI (Ib #[O J id,Ic mX,Ic cut,O J code,I name,O J mQ,sh pa n cap] 63 (0,0)))/\Hid (sG rs=sG (rs.drop k))) (λ_ i _=>n-(intOf i).toNat)
  case atStart=>exact⟨0,Iw _,rfl,rfl,qB,Ro,rfl⟩
  case round=>
   obtain⟨k,hk,rfl,rfl,qQ,xu,HZ⟩:=hrel;have od:=qQ.out.size;have g6:=fi xu.out 6;have Rm:=(Ig.1 xu.out).1;by_cases mS:k<n
   .obtain⟨b,off,Tn,Al,hr⟩:∃b off,pa=AI ⟨b,off,U⟩/\b<w.heap.size/\Rc.Row w b off rs:=by
     rcases Ed.out with h|h
     .have:=vj.out;rw[h] at this;simp at this;omega
     .exact h
    subst Tn;obtain⟨g0,g1,g2,g3,g4,g5,g7⟩:=hr k (by rw[vj.out];exact mS);have c0:=(qQ.out.cell (p:=⟨b,off+k*7,U⟩) Al).trans g0;have c1:=(qQ.out.cell (p:=⟨b,off+k*7+1,U⟩) Al).trans g1;have c2:=(qQ.out.cell (p:=⟨b,off+k*7+2,U⟩) Al).trans g2;have c3:=(qQ.out.cell (p:=⟨b,off+k*7+3,U⟩) Al).trans g3;have c4:=(qQ.out.cell (p:=⟨b,off+k*7+4,U⟩) Al).trans g4;have c5:=(qQ.out.cell (p:=⟨b,off+k*7+5,U⟩) Al).trans g5;have c6:=(qQ.out.cell (p:=⟨b,off+k*7+6,U⟩) Al).trans g7;clear g0 g1 g2 g3 g4 g5 g7 hr;have yB:Hid _:=Gb (by rw[vj.out];exact mS) HZ.out;have BZ:=HRR.out k mS;have awd:Hid (∀W,Calls _ _ _ _ _):=BZ;clear BZ;generalize rs.getD k Rc.dm=r at *;have hd:decide ((k:Int)<(n:Int))=true:=by simp;omega
    have qg:(0:Int)<=(k:Int):=by omega
    have XC:(k:Int)<(n:Int):=by omega
    have GM:((k:Int)).toNat=k:=by omega
    go_wp2_with fail;refine(awd.out _).mono ?_;rintro e w9 ⟨rfl,tv⟩;have uy:Hid _:=qQ.out.trans (tv.mono od);have HG9:Hid _:=(tv.block _ Rm).trans xu.out;clear tv c0 c1 c2 c3 c4 c5 c6 g6;by_cases h9:nT r=0
    .have o6:Hid (sG rs=sG (rs.drop (k+1))):=(show _=_ by rw[yB.out,if_pos h9])
     rw[h9];clear yB h9;go_wp2_with fail;exact⟨⟨k+1,by omega,rfl,by go_num,uy,HG9,o6⟩,by simp[intOf];omega⟩
    .have HF:Hid (E=nT r):=(show _=_ by rw[<- HEE.out,yB.out,if_neg h9])
     have h8:(nT r !=0)=true:=by simpa using h9
     go_wp2_with fail;go_ret;exact⟨mN HF.out.symm,uy.out⟩
   .have HF:Hid (E=0):=(show E=0 by rw[<- HEE.out,HZ.out,List.drop_of_length_le (by rw[vj.out];omega)];rfl)
    have hd:decide ((k:Int)<(n:Int))=false:=by simp;omega
    go_wp2_with fail;go_ret;exact⟨mN HF.out.symm,qQ.out⟩
 .rw[if_pos h4] at hE
  subst hE;have h9:(nS name !=0)=true:=by simpa using h4
  go_wp2_with fail;go_ret;exact⟨rfl,qB.out⟩
def WC:Code->Option Code
 | .seq a b=>match WC b with
   |some c=>AI c
   |none=>if(xo 0 a).isSome then AI b else U
 |_=>U
def ajx(w:World)(t:ByteArray)(a:Act)(W:World):Prop:=∃M v,a.defers=[]/\a.tmps.getD 2 undef=Ik (AI ⟨w.heap.size,0,U⟩)/\a.tmps.getD 3 undef=O J 0/\pI t=AI M/\nx M.id M.code M.mQ M.R M.rs=0/\W.heap[w.heap.size]?=AI (Ib #[O J M.id,Ic M.mX,Ic M.cut,O J M.code,I M.R,O J M.mQ,v] 63 (0,0))/\Below w.heap.size w W/\Rc.Own w.heap.size W v M.rs
theorem aeP{P:Prop}(h:P:=by
 have q0:=HS.out.ox 0;have yy0:=HS.out.oy 0;have q1:=HS.out.ox 1;have yy1:=HS.out.oy 1;have q2:=HS.out.ox 2;have yy2:=HS.out.oy 2;have q3:=HS.out.ox 3;have yy3:=HS.out.oy 3;have q4:=HS.out.ox 4;have yy4:=HS.out.oy 4;have q5:=HS.out.ox 5;have yy5:=HS.out.oy 5;have q6:=HS.out.ox 6;have yy6:=HS.out.oy 6;go_wp2_with fail;exact Ws.out _ _ ⟨rfl,rfl,rfl,HS.out.LP,qv 6 (qv 5 (qv 4 (qv 3 (qv 2 (qv 1 (qv 0 HS.out.bl (By _)) (By _)) (By _)) (By _)) (By _)) (By _)) (By _),HE.out⟩):P:=h
theorem aqk{u1 u3 u6 u7 u8 u9 ac jG af ai aj ap au ay az aA aB aC aD aE aF aI aJ aK aL aM aN aO aP aQ aR aT aU aV aW aX aY aZ ba bc be bf bi bj bp bq bu bw bz bA bB bC bD bE bF bJ bK bL bM bN bO bP bQ bT bU bV bW bX bY bZ cd cj cx cy cz cA cB cC cD cE cF cG cH cI cJ cK cM cO cP cQ cR cS cT cU cV cW cX cY cZ da dd de df dg dh di dj dl dn dt du dv dw dx dA dB dC dD dE dF dG dH dI dJ dK dL dM dO dP dQ dR dS dU dW dX dY dZ ea eb ed ee ei ej el eo ep eu ew ex ey jH ez eA eC eD eE eF eG eH eI eJ eK eL eM eN eO eP eQ eR eS eT eU eV eW eX eY eZ e9 fb fc fe ff fh fj fm fp fq fs fu fw fx fy fA fB fC fD fE fF fG fH fI fJ fK fL fM fN fO fP fQ fS fT fU fV fW fX fY fZ ga gc gd gh gi gj gk gl gn gr gu gv gx gy gA gB gC gD gE gF gG gH gI gJ gK gL gM gN gO gP gQ gR gS gT gU gV gW gX gY gZ hJ:Value}(w wr:World)(t R:ByteArray)(mb b v1 v3 v8:Nat)(mX cut d:Bool)(v:Value)(D:List Rc.Rec)(hR:R.size<=1000)(HS:Hid (Sc w t mb b d #[O J v1,Ic mX,Ic cut,O J v3,I R,O J v8,v] wr))(HO:Hid (Rc.Own (mb+1) wr v D))(xY:Hid (∀r∈D,r.ok/\r.name.size<=1000/\r.target.size<=1000))(HT:Hid (d=true->pI t=U))(HF:Hid (d=false->pI t=if b=t.size then AI ⟨(v1:Int),v3,v8,mX,cut,R,D⟩ else U))(Q:Exit->Act->World->Prop)(hE:∀a W,LO w t a W->Q .ret a W)(hO:∀a W,ajx w t a W->Q .ret a W) :
 Code.wp AT ((Tryz.f20.body.bind WC).getD .skip) Q ⟨#[I t,u1,Ik (AI ⟨w.heap.size,0,U⟩),u3,Ik (AI ⟨w.heap.size+1,0,U⟩),Ik (AI ⟨mb,0,U⟩),u6,u7,u8,u9,ac,jG,af,ai,aj,ap,au,ay,az,aA,aB,aC,aD,aE,aF,aI,aJ,aK,aL,aM,aN,aO,aP,aQ,aR,aT,aU,aV,aW,aX,aY,aZ,ba,bc,be,bf,bi,bj,bp,bq,bu,bw,bz,bA,bB,bC,bD,bE,bF,bJ,bK,bL,bM,bN,bO,bP,bQ,bT,bU,bV,bW,bX,bY,bZ,cd,cj,cx,cy,cz,cA,cB,cC,cD,cE,cF,cG,cH,cI,cJ,cK,cM,cO,cP,cQ,cR,cS,cT,cU,cV,cW,cX,cY,cZ,da,dd,de,df,dg,dh,di,dj,dl,dn,dt,du,dv,dw,dx,dA,dB,dC,dD,dE,dF,dG,dH,dI,dJ,dK,dL,dM,dO,dP,dQ,dR,dS,dU,dW,dX,dY,dZ,ea,eb,ed,ee,ei,ej,el,eo,ep,eu,ew,ex,ey,jH,ez,eA,eC,eD,eE,eF,eG,eH,eI,eJ,eK,eL,eM,eN,eO,eP,eQ,eR,eS,eT,eU,eV,eW,eX,eY,eZ,e9,fb,fc,fe,ff,fh,fj,fm,fp,fq,fs,fu,fw,fx,fy,fA,fB,fC,fD,fE,fF,fG,fH,fI,fJ,fK,fL,fM,fN,fO,fP,fQ,fS,fT,fU,fV,fW,fX,fY,fZ,ga,gc,gd,gh,gi,gj,gk,gl,gn,gr,gu,gv,gx,gy,gA,gB,gC,gD,gE,gF,gG,gH,gI,gJ,gK,gL,gM,gN,gO,gP,gQ,gR,gS,gT,gU,gV,gW,gX,gY,gZ,hJ],[]⟩ wr:=by
 conv=>arg 2;whnf
 have Ws:Hid _:=hE;have HQO:Hid _:=hO;clear hE hO;have k2:=HS.out.B1;have k1:=HS.out.sat;cases d with
 |true=>
  have HE:Hid _:=sE (HT.out rfl);exact aeP
 |false=>
  have Wu:Hid _:=HF.out rfl;obtain⟨av,lv,cv,yq⟩:∃a l c,v=sh a l c:=by
   rcases HO.out.2 with⟨hv,_⟩|⟨gq,cq,_,hv,_⟩
   .exact⟨_,_,_,hv⟩
   .exact⟨_,_,_,hv⟩
  subst yq;clear HF HT;by_cases hbe:b=t.size
  .have HFD:Hid _:=Wu.out.trans (if_pos hbe)
   have hbn:((b:Int)!=(t.size:Int))=false:=by simp;omega
   have HSL:Hid (Rc.Sl wr (sh av lv cv) D):=HO.out.sl (λj=>by
    by_cases hj:j<D.length
    .have:D.getD j Rc.dm=D[j]:=by simp[Ip,Ih hj]
     rw[this];exact(xY.out _ (List.getElem_mem hj)).1
    .have:D.getD j Rc.dm=Rc.dm:=by simp[Ip,IK (by omega:D.length<=j)]
     rw[this];exact Rc.Ah)
   have yt:Hid (Calls _ _ _ _ _):=Ga v1 v3 v8 mX cut R D _ wr (by omega) (λr hr=>⟨by have:=(xY.out r hr).2.1;omega,by have:=(xY.out r hr).2.2;omega⟩) HSL.out;have ama:Hid (nx v1 v3 v8 R D≠0->vQ t≠0):=λh=>Py HFD.out h;have Hc:Hid (nx v1 v3 v8 R D=0->∃M:Ms,pI t=AI M/\nx M.id M.code M.mQ M.R M.rs=0/\#[Value.int J v1,Ic mX,Ic cut,O J v3,I R,O J v8,sh av lv cv]=#[O J M.id,Ic M.mX,Ic M.cut,O J M.code,I M.R,O J M.mQ,sh av lv cv]/\M.rs=D):=λh=>⟨_,HFD.out,h,rfl,rfl⟩;have n0:=HS.out.cell 0;have n1:=HS.out.cell 1;have n2:=HS.out.cell 2;have n3:=HS.out.cell 3;have n4:=HS.out.cell 4;have n5:=HS.out.cell 5;have n6:=HS.out.cell 6;generalize nx v1 v3 v8 R D=CK at *;clear Wu HSL hbe;go_wp2_with fail;refine yt.out.mono ?_;rintro e we ⟨rfl,nE⟩;have xD:Hid _:=HS.out.below nE;have HOE:Hid (Rc.Own _ _ _ _):=HO.out.below nE;have hmb:=xD.out.lt;clear nE n0 n1 n2 n3 n4 n5 n6 yt HS HO k1 k2;by_cases Mp:CK=0
   .have hcb:(CK !=0)=false:=by simp[Mp]
    have HRX:Hid _:=Hc.out Mp;clear Mp Hc ama;have m0:=xD.out.cell 0;have q0:=xD.out.ox 0;have yy0:=xD.out.oy 0;have m1:=xD.out.cell 1;have q1:=xD.out.ox 1;have yy1:=xD.out.oy 1;have m2:=xD.out.cell 2;have q2:=xD.out.ox 2;have yy2:=xD.out.oy 2;have m3:=xD.out.cell 3;have q3:=xD.out.ox 3;have yy3:=xD.out.oy 3;have m4:=xD.out.cell 4;have q4:=xD.out.ox 4;have yy4:=xD.out.oy 4;have m5:=xD.out.cell 5;have q5:=xD.out.ox 5;have yy5:=xD.out.oy 5;have m6:=xD.out.cell 6;have q6:=xD.out.ox 6;have yy6:=xD.out.oy 6;go_wp2_with fail;obtain⟨M,g1,g2,g3,g4⟩:=HRX.out;refine HQO.out _ _ ⟨M,sh av lv cv,rfl,rfl,rfl,g1,g2,?_,?_,?_⟩
    .rw[<- g3]
     exact It (i:=6) (It (i:=5) (It (i:=4) (It (i:=3) (It (i:=2) (It (i:=1) (It (i:=0) xD.out.qx _) _) _) _) _) _) _
    .exact qv 6 (qv 5 (qv 4 (qv 3 (qv 2 (qv 1 (qv 0 xD.out.bl (By _)) (By _)) (By _)) (By _)) (By _)) (By _)) (By _)
    .rw[g4]
     exact Rc.Own.mono (nI (i:=6) (nI (i:=5) (nI (i:=4) (nI (i:=3) (nI (i:=2) (nI (i:=1) (nI (i:=0) HOE.out (by omega)) (by omega)) (by omega)) (by omega)) (by omega)) (by omega)) (by omega)) (by omega)
   .have hcb:(CK !=0)=true:=by simp[Mp]
    have HE:Hid _:=ama.out Mp;clear Mp Hc ama;have q0:=xD.out.ox 0;have yy0:=xD.out.oy 0;have q1:=xD.out.ox 1;have yy1:=xD.out.oy 1;have q2:=xD.out.ox 2;have yy2:=xD.out.oy 2;have q3:=xD.out.ox 3;have yy3:=xD.out.oy 3;have q4:=xD.out.ox 4;have yy4:=xD.out.oy 4;have q5:=xD.out.ox 5;have yy5:=xD.out.oy 5;have q6:=xD.out.ox 6;have yy6:=xD.out.oy 6;go_wp2_with fail;exact Ws.out _ _ ⟨rfl,rfl,rfl,xD.out.LP,qv 6 (qv 5 (qv 4 (qv 3 (qv 2 (qv 1 (qv 0 xD.out.bl (By _)) (By _)) (By _)) (By _)) (By _)) (By _)) (By _),HE.out⟩
  .have HE:Hid _:=sE (Wu.out.trans (if_neg hbe))
   have hbn:((b:Int)!=(t.size:Int))=true:=by simp;omega
   clear hbe Wu;exact aeP
theorem DH{w W:World}{t:ByteArray}{a:Act}(h:LO w t a W):JM AT Tryz.f20 (λe w'=>Below w.heap.size w w'/\((∃M v,pI t=AI M/\nx M.id M.code M.mQ M.R M.rs=0/\e=Ia (Ir #[Iu #[O J M.id,Ic M.mX,Ic M.cut,O J M.code,I M.R,O J M.mQ,v],O J 0])/\Hid (Rc.Own w.heap.size w' v M.rs))\/(vQ t≠0/\e=Ia (Ir #[Iu oG,O J 1])))) .ret a W:=by
 obtain⟨h1,h2,h3,hq,hb,he⟩:=h;refine IE (v:=Ir #[Iu oG,O J 1]) ?_ h1 ⟨hb,.inr ⟨he,rfl⟩⟩;have q0:=fi hq 0;have q1:=fi hq 1;have q2:=fi hq 2;have q3:=fi hq 3;have q4:=fi hq 4;have q5:=fi hq 5;have q6:=fi hq 6;have DR:a.tmps[2]?.getD undef=Ik (AI ⟨w.heap.size,0,U⟩):=by simpa using h2
 have h3':a.tmps[3]?.getD undef=O J 1:=by simpa using h3
 simp[results,results20,go_sem,DR,h3',q0,q1,q2,q3,q4,q5,q6]
theorem TN{w W:World}{t:ByteArray}{a:Act}(h:ajx w t a W):JM AT Tryz.f20 (λe w'=>Below w.heap.size w w'/\((∃M v,pI t=AI M/\nx M.id M.code M.mQ M.R M.rs=0/\e=Ia (Ir #[Iu #[O J M.id,Ic M.mX,Ic M.cut,O J M.code,I M.R,O J M.mQ,v],O J 0])/\Hid (Rc.Own w.heap.size w' v M.rs))\/(vQ t≠0/\e=Ia (Ir #[Iu oG,O J 1])))) .ret a W:=by
 obtain⟨M,v,h1,h2,h3,h4,h5,hq,hb,ho⟩:=h;refine IE (v:=Ir #[Iu #[O J M.id,Ic M.mX,Ic M.cut,O J M.code,I M.R,O J M.mQ,v],O J 0]) ?_ h1 ⟨hb,.inl ⟨M,v,h4,h5,rfl,ho⟩⟩;have q0:=fi hq 0;have q1:=fi hq 1;have q2:=fi hq 2;have q3:=fi hq 3;have q4:=fi hq 4;have q5:=fi hq 5;have q6:=fi hq 6;have DR:a.tmps[2]?.getD undef=Ik (AI ⟨w.heap.size,0,U⟩):=by simpa using h2
 have h3':a.tmps[3]?.getD undef=O J 0:=by simpa using h3
 obtain⟨av,lv,cv,rfl⟩:∃a l c,v=sh a l c:=by
  rcases ho.2 with⟨hv,_⟩|⟨gq,cq,_,hv,_⟩
  .exact⟨_,_,_,hv⟩
  .exact⟨_,_,_,hv⟩
 simp[results,results20,go_sem,DR,h3',q0,q1,q2,q3,q4,q5,q6]
theorem aql(t:ByteArray)(w:World)(hl:t.size<=512):Calls AT 20 #[I t] w λe w'=>
 Below w.heap.size w w'/\((∃M v,pI t=AI M/\nx M.id M.code M.mQ M.R M.rs=0/\e=Ia (Ir #[Iu #[O J M.id,Ic M.mX,Ic M.cut,O J M.code,I M.R,O J M.mQ,v],O J 0])/\Hid (Rc.Own w.heap.size w' v M.rs))\/(vQ t≠0/\e=Ia (Ir #[Iu oG,O J 1]))):=by
 have ah5:decide (512<(t.size:Int))=false:=by simp;omega
 have hs:t.size<=1000:=by omega
 clear hl;go_enter func20,ntmps20;go_wp2_with fail;obtain⟨w0,qu⟩:∃w0,w0=(w.alloc (Ib oG 63)).alloc (Ib #[I t,O J 0,Ic false] 100):=⟨_,rfl⟩;rw[<- qu];have hx0:w.Extends w0:=by rw[qu];exact((World.Extends.refl w).alloc _).alloc _
 have B0:Hid (Below w.heap.size w w0):=(show Below _ _ _ by rw[qu];exact((If _ _).alloc (By _) _).alloc (by simp) _);have Q0:Hid (w0.heap[w.heap.size]?=AI (Ib oG 63 (0,0))):=(show _=_ by rw[qu];exact(Jj _ _ _ (by simp)).trans (Ii w _));have I0:Hid (uh (w.heap.size+1) t 0 false w0):=(show uh _ _ _ _ _ by
  unfold uh;rw[qu];have:=Ii (w.alloc (Ib oG 63)) (Ib #[I t,O J 0,Ic false] 100);simpa using this)
 clear qu hx0;refine(rC (w.heap.size+1) 0 2 t false w0 I0.out hs (by omega) (by omega) (by omega)).mono ?_;rintro e w1 ⟨v1,b1,d1,rfl,mO,hv1,uC,yb,BU⟩;have Th:=yb.out.lt;have yf:w.heap.size<w0.heap.size:=by have:=I0.out.lt;omega
 go_wp2_with fail;obtain⟨w2,xN⟩:∃w2,w2=w1.alloc (Ib #[O J v1,Ic false,Ic false,O J 0,I ⟨#[]⟩,O J 0,sh U 0 0] 63):=⟨_,rfl⟩;rw[<- xN];obtain⟨mb,hmb⟩:∃mb,mb=w1.heap.size:=⟨_,rfl⟩;have S0:Hid (Sc w t mb b1 d1 #[O J v1,Ic false,Ic false,O J 0,I ⟨#[]⟩,O J 0,sh U 0 0] w2):=(show Sc _ _ _ _ _ _ _ by
  have hx:w1.Extends w2:=by rw[xN];exact(World.Extends.refl _).alloc _
  refine⟨(hx.block _ Th).trans yb.out,?_,?_,?_,by omega⟩
  .exact⟨hx.os.trans (uC.out.os.trans B0.out.os),hx.tape.trans (uC.out.tape.trans B0.out.tape),hx.output.trans (uC.out.output.trans B0.out.output),by have:=hx.size;have:=uC.out.size;have:=B0.out.size;omega,λj hj=>(hx.block j (by omega)).trans ((uC.out.block j (by omega) (by omega)).trans (B0.out.block j hj))⟩
  .exact(hx.block _ (by omega)).trans ((uC.out.block _ yf (by omega)).trans Q0.out)
  .rw[hmb,xN];exact Ii w1 _)
 rw[<- hmb];clear xN hmb yb uC B0 Q0 I0 Th yf;refine(rC (w.heap.size+1) b1 1 t d1 w2 S0.out.sc hs (by omega) (by omega) mO).mono ?_;rintro e w3 ⟨v2,b2,d2,rfl,mZ,XP,HD,HI,EB⟩;have S1:Hid _:=S0.out.call HI HD;have z1:=S1.out.free 1;have z2:=S1.out.free 2;have c1:=S1.out.cell 1;have c2:=S1.out.cell 2;clear S0 HD HI;obtain⟨mX,aqm⟩:∃x,decide ((128:Int)<=(v2:Int))=x:=⟨_,rfl⟩;obtain⟨cut,ajz⟩:∃x,decide ((2:Int)<=(v2:Int)%4)=x:=⟨_,rfl⟩;go_wp2_with fail;have S2:Hid _:=(S1.out.store 1 (Ic mX)).store 2 (Ic cut);refine(rC (w.heap.size+1) b2 1 t d2 _ S2.out.sc hs (by omega) (by omega) mZ).mono ?_;rintro e w4 ⟨v3,b3,d3,rfl,nC,SZ,HD,HI,GW⟩;have S3:Hid _:=S2.out.call HI HD;have z1:=S3.out.free 3;have c1:=S3.out.cell 3;clear S1 S2 HD HI z2 c2;have HAN:Hid _:=aqm;have HCU:Hid _:=ajz;clear aqm ajz;go_wp2_with fail;have S4:Hid _:=S3.out.store 3 (O J v3);refine(rC (w.heap.size+1) b3 2 t d3 _ S4.out.sc hs (by omega) (by omega) nC).mono ?_;rintro e w5 ⟨v4,b4,d4,rfl,qA,hv4,HD,HI,N8⟩;have S5:Hid _:=S4.out.call HI HD;clear S3 S4 HD HI z1 c1;go_wp2_with fail;refine(rC (w.heap.size+1) b4 2 t d4 _ S5.out.sc hs (by omega) (by omega) qA).mono ?_;rintro e w6 ⟨v5,b5,d5,rfl,sK,hv5,HD,HI,HN5⟩;have S6:Hid _:=S5.out.call HI HD;clear S5 HD HI;go_wp2_with fail;refine(rC (w.heap.size+1) b5 4 t d5 _ S6.out.sc hs (by omega) (by omega) sK).mono ?_;rintro e w7 ⟨v6,b6,d6,rfl,sZ,hv6,HD,HI,M3⟩;have S7:Hid _:=S6.out.call HI HD;have HH:Hid _:=aqn BU.out EB.out GW.out N8.out HN5.out M3.out;clear S6 HD HI BU EB GW N8 HN5 M3 mO mZ nC qA sK;have c3:=S7.out.cell 3;have k2:=S7.out.B1;have HEB:Hid (d6=false->¬ (TO v2/\v3<=15/\v4=1/\v5<=20/\v6=0)->vQ t≠0):=λe tY=>by
  obtain⟨g1,g2,g3,g4,g5,g6,g7,g8⟩:=HH.out.ah6 e;by_cases hh:TO v2/\v4=1/\v6=0
  .obtain⟨h1,h2,h3⟩:=hh
   refine aaL (KK g1 (by rw[<- g3];exact h1) (by omega) (by omega)) ?_;by_cases h4:v3<=15
   .exact .inr (by by_cases h5:v5<=20;exact absurd ⟨h1,h4,h2,h5,h3⟩ tY;omega)
   .exact .inl (by omega)
  .refine sE (Pz ?_)
   rw[<- g3,<- g5,<- g7];by_cases h1:TO v2
   .by_cases h2:v4=1
    .exact .inr (.inr (λh3=>hh ⟨h1,h2,h3⟩))
    .exact .inr (.inl h2)
   .exact .inl h1
 have HHB:Hid (d6=true->vQ t≠0):=λe=>sE (HH.out.bad e);go_upto_region 12 with fail
 refine p12 w w7 t mb v2 v3 v4 v5 v6 k2 c3 _ HHB HEB ?_;intro y43 y44 y45 y46 y47 y48 y49 y50 y51 y52 y53 y54 y55 y56 y57 y58 y59 y60 y61 y62 y63 y64 y65 y66 y67 y68 y69 y70 y71 y72 y73 y74 y75 y76 y77 y78 x Dw HX2;cases x with
 |true=>
  have HE:Hid _:=Dw.out rfl;have q0:=S7.out.ox 0;have yy0:=S7.out.oy 0;have q1:=S7.out.ox 1;have yy1:=S7.out.oy 1;have q2:=S7.out.ox 2;have yy2:=S7.out.oy 2;have q3:=S7.out.ox 3;have yy3:=S7.out.oy 3;have q4:=S7.out.ox 4;have yy4:=S7.out.oy 4;have q5:=S7.out.ox 5;have yy5:=S7.out.oy 5;have q6:=S7.out.ox 6;have yy6:=S7.out.oy 6;go_wp2_with fail;refine IE (v:=Ir #[Iu oG,O J 1]) ?_ rfl ⟨?_,.inr ⟨HE.out,rfl⟩⟩
  .simp[results,results20,go_sem,q0,q1,q2,q3,q4,q5,q6]
  .exact qv 6 (qv 5 (qv 4 (qv 3 (qv 2 (qv 1 (qv 0 S7.out.bl (By _)) (By _)) (By _)) (By _)) (By _)) (By _)) (By _)
 |false=>
  obtain⟨uU,h15,h1,h20,h0,hd6⟩:=HX2.out rfl;have HM:Hid (pI t=Hd t v1 mX cut v3 v5 (Gc t 12)):=(show _=_ by
   obtain⟨g1,g2,g3,g4,g5,g6,g7,g8⟩:=HH.out.ah6 hd6;have hA:decide (128<=mP t 2 1)=mX:=by rw[<- HAN.out,<- g3];apply decide_eq_decide.2;omega
   have hC:decide (2<=mP t 2 1%4)=cut:=by rw[<- HCU.out,<- g3];apply decide_eq_decide.2;omega
   have:=KK g1 (by rw[<- g3];exact uU) (by omega) (by omega);rw[hA,hC] at this;rw[this,<- g2,<- g4,<- g6])
  have h12:12<=t.size/\b6=12:=by
   obtain⟨g1,_,_,_,_,_,_,g8⟩:=HH.out.ah6 hd6;exact⟨g1,g8⟩
  obtain⟨h12,awe⟩:=h12;subst hd6;subst awe;clear HH Dw HX2 HAN HCU HEB uU h0 h1 k2 c3 c1 z1;go_wp2_with fail;refine(LR (w.heap.size+1) 12 t false w7 S7.out.sc hs (by omega) (λ_=>h12)).mono ?_;rintro e w8 ⟨R,b7,d7,rfl,Bj,hR,HD,HI,HN7⟩;have S8:Hid _:=S7.out.call HI HD;have z4:=S8.out.free 4;have c4:=S8.out.cell 4;clear S7 HD HI;go_wp2_with fail;have S9:Hid _:=S8.out.store 4 (I R);refine(rC (w.heap.size+1) b7 2 t d7 _ S9.out.sc hs (by omega) (by omega) Bj).mono ?_;rintro e w9 ⟨v8,b8,d8,rfl,Dl,hv8,HD,HI,HN8⟩;have SA:Hid _:=S9.out.call HI HD;have z5:=SA.out.free 5;have c5:=SA.out.cell 5;clear S8 S9 HD HI z4 c4;go_upto_region 16 with fail
  obtain⟨wb,hwb⟩:∃wb,wb=w9.setCell ⟨mb,5,U⟩ (O J v8):=⟨_,rfl⟩;have SB:Hid (Sc w t mb b8 d8 #[O J v1,Ic mX,Ic cut,O J v3,I R,O J v8,sh U 0 0] wb):=(show Sc _ _ _ _ _ _ _ by rw[hwb];exact SA.out.store 5 (O J v8));rw[<- hwb];clear SA z5 c5 hwb;have k2:=SB.out.B1;have k3:=SB.out.DF 2;go_cut [98] (λ_ wx=>∃(b9:Nat) (dq:Bool),b9<=20000/\Hid (Sc w t mb b9 dq #[O J v1,Ic mX,Ic cut,O J v3,I R,O J v8,sh U 0 0] wx)/\Hid (dq=true->pI t=U)/\Hid (dq=false->b9<=t.size/\pI t=Ef t v1 mX cut v3 R v8 (qX t v5 b9 [])))
  case first=>
   cases d8 with
   |true=>
    go_wp2_with fail;go_meet
    exact⟨b8,true,Dl,SB.out.mark true,λ_=>aqo HM.out HN7.out HN8.out,λe=>by cases e⟩
   |false=>
    go_wp2_with fail;refine(rC (w.heap.size+1) b8 2 t false _ SB.out.sc hs (by omega) (by omega) Dl).mono ?_;rintro e wd ⟨v9,b9,d9,rfl,tv,hv9,HD,HI,HN9⟩;have SD:Hid _:=SB.out.call HI HD;have k5:=SD.out.B1;have k6:=SD.out.DF 2;have HQ:=aqp HM.out HN7.out HN8.out HN9.out;have HQ1:Hid _:=HQ.1;have NF:Hid _:=HQ.2;clear HQ HD HI k2 k3 SB HM HN7 HN8 HN9;go_wp2_with fail;go_meet
    exact⟨b9,_,tv,SD.out.mark _,HQ1,NF⟩
  case rest=>
   obtain⟨b9,dq,tv,SE,HQ1,NF⟩:=hcut;clear SB k2 k3 HM HN7 HN8 Bj Dl;go_upto_block 0 with fail
   refine apG w wc t R mb b9 v1 v3 v5 v8 mX cut dq hs h20 tv SE HQ1 NF _ (λa W hh=>DH hh) ?_;intro y3 y11 y12 y13 y14 y101 y102 y103 y104 y105 y106 y107 y108 y109 y110 y111 y112 y113 y114 y115 y116 y117 y118 y119 y120 y121 y122 y123 y124 y125 y126 y127 y128 y129 y130 y131 y132 y133 y134 y135 y136 y137 y138 y139 y140 y141 y142 y143 y144 y145 y146 y147 y148 y149 y150 y151 y152 y153 y154 y155 y156 y157 y158 y159 y160 y161 y162 y163 y164 y165 y166 y167 y168 y169 y170 y171 y172 y173 y174 y175 y176 y177 y178 y179 y180 y181 y182 y183 y184 y185 y186 y187 y188 y189 y190 y191 y192 y193 y194 y195 y196 y197 y198 y199 y200 y201 y202 y203 y204 y205 y206 y207 y208 y209 y210 y211 y212 y213 y214 y215 y216 y217 y218 y219 y220 y221 y222 y223 y224 y225 y226 y227 y228 y229 y230 y231 y232 y233 y234 y235 y236 y237 y238 y239 y240 y241 y10 v D b d wr HS HO xY HT HF;clear SE HQ1 NF;refine(‹∀(a:Act) (w:World),Code.wp AT _ _ a w->_›) _ _ ?_;exact aqk w wr t R mb b v1 v3 v8 mX cut d v D hR HS HO xY HT HF _ (λa W hh=>DH hh) (λa W hh=>TN hh)
theorem ajA(t:ByteArray)(w:World):Calls AT 20 #[I t] w (RdP t w):=by
 by_cases hl:t.size<=512
 .refine(aql t w hl).mono ?_
  rintro e w' ⟨h1,⟨M,v,h2,h3,h4,h5⟩|⟨h2,h3⟩⟩
  .exact⟨h1,.inl ⟨M,v,h2,hl,h3,h4,h5⟩⟩
  .exact⟨h1,.inr ⟨1,by rw[if_pos hl],λ_=>h2,h3⟩⟩
 .refine(aeQ t w hl).mono ?_
  rintro e w' ⟨h1,h2⟩;exact⟨h2,.inr ⟨2,by rw[if_neg hl],λh=>absurd h hl,h1⟩⟩
def MsV(w:World)(m:Option Ms)(x:Array Value):Prop:=match m with
 |none=>x=oG
 |some M=>∃v,Rc.Sl w v M.rs/\M.rs.length<=1000/\x=#[O J M.id,Ic M.mX,Ic M.cut,O J M.code,I M.R,O J M.mQ,v]
def xz(t:ByteArray):Option Ms:=if t.size<=512/\vQ t=0 then pI t else U
def CY(t:ByteArray):Int:=if t.size<=512 then(if vQ t=0 then 0 else 1) else 2
theorem L5{t:ByteArray}{w:World}{e:Ending}{w':World}(h:RdP t w e w'):∃i a c o r y p l k,e=Ia (Ir #[Iu #[O J i,Ic a,Ic c,O J o,I r,O J y,sh p l k],O J (CY t)])/\Hid (MsV w' (xz t) #[O J i,Ic a,Ic c,O J o,I r,O J y,sh p l k])/\Below w.heap.size w w':=by
 obtain⟨hb,⟨M,v,hM,hl,hc,he,ho⟩|⟨E,hE,hE2,he⟩⟩:=h
 .have h0:vQ t=0:=by unfold vQ;rw[hM];exact hc
  have hx:CY t=0:=by unfold CY;rw[if_pos hl,if_pos h0]
  have hm:xz t=AI M:=by unfold xz;rw[if_pos ⟨hl,h0⟩,hM]
  have hcf:=oM hc;obtain⟨p,l,k,rfl⟩:∃a l c,v=sh a l c:=by
   rcases ho.out.2 with⟨hv,_⟩|⟨gq,cq,_,hv,_⟩
   .exact⟨_,_,_,hv⟩
   .exact⟨_,_,_,hv⟩
  refine⟨M.id,M.mX,M.cut,M.code,M.R,M.mQ,p,l,k,by rw[hx];exact he,?_,hb⟩;rw[hm];exact⟨_,ho.out.sl (WD hcf.2.2),by have:=hcf.1;omega,rfl⟩
 .have hm:xz t=U:=by
   unfold xz;rw[if_neg (λh=>hE2 h.1 h.2)]
  have hx:CY t=E:=by
   unfold CY;rw[hE];by_cases hl:t.size<=512
   .rw[if_pos hl,if_pos hl,if_neg (hE2 hl)]
   .rw[if_neg hl,if_neg hl]
  refine⟨0,false,false,0,⟨#[]⟩,0,U,0,0,by rw[hx];exact he,?_,hb⟩;rw[hm];exact(rfl:_=oG)
theorem Gd(x:ByteArray):jB [x]=x:=mk_data x
theorem aeR{x:ByteArray}(h:rZ x=false):ud x=false:=by
 have h2:=λe=>(Bool.eq_false_iff.1 h) ((Fo x).2 e);simp only[ud,Bool.or_eq_false_iff,decide_eq_false_iff_not];exact⟨λe=>h2 (.inl e),λe=>h2 (.inr (.inl e))⟩
theorem amb{x:ByteArray}(h:yj x=false):ud x=false:=by
 have h2:=λe=>(Bool.eq_false_iff.1 h) ((Fm x).2 e);simp only[ud,Bool.or_eq_false_iff,decide_eq_false_iff_not];exact⟨λe=>h2 (.inl e),λe=>h2 (.inr e)⟩
theorem EF:ud qU=true:=by simp[ud]
theorem WE:ud qV=true:=by simp[ud]
theorem ah7{s:ByteArray}(h:pK s=true)(h0:s.size≠0):46 ∉ bytes s:=by
 have h1:mT s=true:=by
  unfold pK at h;simp only[Bool.or_eq_true,decide_eq_true_eq] at h;rcases h with rfl|h
  .exact absurd rfl h0
  .exact h
 exact Xv (l:=bytes s) (by unfold wF;rw[show mk (bytes s)=s from mk_data s];exact h1)
theorem yV{s:ByteArray}(h:pK s=true):∀x∈opt s,46 ∉ x:=λx hx=>by
 unfold opt at hx;by_cases h0:s.size=0
 .rw[if_pos h0] at hx;cases hx
 .rw[if_neg h0,JR] at hx
  subst hx;exact ah7 h h0
theorem WG{q:Qu}(h:pt q=0):wS (prt q)=(yE q).map mk:=by
 obtain⟨_,z1,z2,z3,z4,_⟩:=tX h;unfold wS prt;rw[BD,acP]
 .unfold yE;split<;>simp
 .intro x hx
  unfold yE at hx;split at hx
  .simp only[JI,JR] at hx
   rcases hx with h|h|h|h|h
   .exact yV z2 x h
   .exact yV z1 x h
   .subst h;decide
   .exact yV z4 x h
   .subst h;decide
  .simp only[JI,JR] at hx
   rcases hx with h|h|h|h
   .exact yV z3 x h
   .subst h;decide
   .exact yV z4 x h
   .subst h;decide
theorem aaM{q:Qu}(h:pt q=0):Wg (prt q)=qm/\AA (prt q)=q:=by
 have hl:=WG h;obtain⟨zf,_,_,_,_,zw⟩:=tX h;obtain⟨sv,tg,nd,ce⟩:=q;have hw:yj nd=false/\rZ tg=false/\rZ sv=false/\rZ ce=false:=by
  have h2:(yj nd||rZ tg||rZ sv||rZ ce)=false:=zw;simpa[Bool.or_eq_false_iff,and_assoc] using h2
 obtain⟨w1,w2,w3,_⟩:=hw;have d1:=amb w1;have d2:=aeR w2;have d3:=aeR w3;have sn:¬ qU=qV:=by decide
 have m1:mk Aw=qU:=rfl;have m2:mk tT=qm:=rfl;have m3:mk Ax=qV:=rfl;have mb:∀s:ByteArray,mk (bytes s)=s:=mk_data;unfold zX at zf;simp only at zf;unfold Wg AA;rw[hl];unfold yE;simp only;by_cases hn:nd.size=0
 .have hs:sv.size≠0:=λhs=>by simp[hn,hs] at zf
  rw[if_pos hn,oW hs];have en:=nB hn;subst en;by_cases ht:tg.size=0<;>by_cases hc:ce.size=0
  .have et:=nB ht
   have ec:=nB hc;subst et ec;rw[rQ ht];simp only[JZ,Jt,J4,Og,m1,m2,mb];refine⟨rfl,?_⟩;show GR [sv,qU]=_;have Lo:zH [sv,qU]=1:=by simp[zH,Lib.idxBy,O5,d3,EF]
   unfold GR;rw[Lo,if_neg (by decide)];refine(if_neg ?hh).trans ?_
   case hh=>exact sn
   rfl
  .have et:=nB ht
   subst et;rw[rQ ht,oW hc];simp only[JZ,Jt,J4,Og,m1,m2,mb];refine⟨rfl,?_⟩;show GR [sv,qU,ce]=_;have Lo:zH [sv,qU,ce]=1:=by simp[zH,Lib.idxBy,O5,d3,EF]
   unfold GR;rw[Lo,if_neg (by decide)];refine(if_neg ?hh).trans ?_
   case hh=>exact sn
   show Qu.mk sv (jB []) ⟨#[]⟩ (jB [ce])=_;rw[Gd];rfl
  .have ec:=nB hc
   subst ec;rw[oW ht,rQ hc];simp only[JZ,Jt,J4,Og,m1,m2,mb];refine⟨rfl,?_⟩;show GR [tg,sv,qU]=_;have Lo:zH [tg,sv,qU]=2:=by simp[zH,Lib.idxBy,O5,d2,d3,EF]
   unfold GR;rw[Lo,if_neg (by decide)];refine(if_neg ?hh).trans ?_
   case hh=>exact sn
   show Qu.mk sv (jB [tg]) ⟨#[]⟩ (jB [])=_;rw[Gd];rfl
  .rw[oW ht,oW hc]
   simp only[JZ,Jt,J4,Og,m1,m2,mb];refine⟨rfl,?_⟩;show GR [tg,sv,qU,ce]=_;have Lo:zH [tg,sv,qU,ce]=2:=by simp[zH,Lib.idxBy,O5,d2,d3,EF]
   unfold GR;rw[Lo,if_neg (by decide)];refine(if_neg ?hh).trans ?_
   case hh=>exact sn
   show Qu.mk sv (jB [tg]) ⟨#[]⟩ (jB [ce])=_;rw[Gd,Gd]
 .have hs:sv.size=0:=by
   by_cases hs:sv.size=0
   .exact hs
   .simp[hn,hs] at zf
  have ht:tg.size=0:=by
   by_cases ht:tg.size=0
   .exact ht
   .simp[hn,hs,ht] at zf
  have es:=nB hs;have et:=nB ht;subst es et;rw[if_neg hn,oW hn];by_cases hc:ce.size=0
  .have ec:=nB hc
   subst ec;rw[rQ hc];simp only[JZ,Jt,J4,Og,m2,m3,mb];refine⟨rfl,?_⟩;show GR [nd,qV]=_;have Lo:zH [nd,qV]=1:=by simp[zH,Lib.idxBy,O5,d1,WE]
   unfold GR;rw[Lo,if_neg (by decide)];refine(if_pos ?hh).trans ?_
   case hh=>exact rfl
   rfl
  .rw[oW hc]
   simp only[JZ,Jt,J4,Og,m2,m3,mb];refine⟨rfl,?_⟩;show GR [nd,qV,ce]=_;have Lo:zH [nd,qV,ce]=1:=by simp[zH,Lib.idxBy,O5,d1,WE]
   unfold GR;rw[Lo,if_neg (by decide)];refine(if_pos ?hh).trans ?_
   case hh=>exact rfl
   show Qu.mk ⟨#[]⟩ ⟨#[]⟩ nd (jB [ce])=_;rw[Gd]
theorem aeS{q:Qu}(h:rH q=0):oF (tN q)=0/\nz (tN q)=q:=by
 have hs:tN q=prt q:=if_pos h;have hq:pt q=0:=by
  unfold rH at h;by_cases h0:pt q=0
  .exact h0
  .rw[if_neg h0] at h;exact h
 have hn:nS (prt q)=0:=by unfold rH at h;rwa [if_pos hq] at h
 obtain⟨h1,h2⟩:=aaM hq;have he:oF (prt q)=0:=by
  unfold oF;rw[if_pos hn,if_pos h1,h2,if_pos ⟨h,hs⟩]
 rw[hs];refine⟨he,?_⟩;unfold nz;rw[if_pos he,h2]
theorem aeT{s:ByteArray}(h:oF s=0):rH (nz s)=0/\tN (nz s)=s:=by
 have hq:nz s=AA s:=if_pos h;rw[hq];unfold oF at h;by_cases h0:nS s=0
 .rw[if_pos h0] at h
  by_cases h1:Wg s=qm
  .rw[if_pos h1] at h
   by_cases h2:rH (AA s)=0/\tN (AA s)=s
   .exact h2
   .rw[if_neg h2] at h;omega
  .rw[if_neg h1] at h;omega
 .rw[if_neg h0] at h;exact absurd h h0
theorem L6(s:ByteArray):(nz s).ok:=by
 unfold nz;by_cases h:oF s=0
 .rw[if_pos h]
  have h0:nS s=0:=by
   by_cases h0:nS s=0
   .exact h0
   .unfold oF at h;rw[if_neg h0] at h;exact h
  have hl:(wS s).length<=8:=by rw[BR];exact(qb h0).2.1
  have hd:(wS s).dropLast.length=(wS s).length-1:=List.length_dropLast;exact adE (by omega) (λx hx=>CT h0 x ((List.dropLast_sublist _).subset hx))
 .rw[if_neg h]
  exact⟨by decide,by decide,by decide,by decide⟩
theorem aeU(g n:Nat)(E id code mQ:Int)(mX cut:Bool)(name:ByteArray)(pa:Option Addr)(cap:Nat)(w:World)(hg:w.heap[g]?=AI (Ib #[O J id,Ic mX,Ic cut,O J code,I name,O J mQ,sh pa n cap] 63 (0,0)))(hc:Calls AT 71 #[Iu #[O J id,Ic mX,Ic cut,O J code,I name,O J mQ,sh pa n cap]] w λr w'=>r=sU E/\Below w.heap.size w w') :
 Calls AT 145 #[Ik (AI ⟨g,0,U⟩)] w λr w'=>r=sU E/\Below w.heap.size w w':=by
 have HC:Hid (Calls _ _ _ _ _):=hc;have c0:=fi hg 0;have c1:=fi hg 1;have c2:=fi hg 2;have c3:=fi hg 3;have c4:=fi hg 4;have c5:=fi hg 5;have c6:=fi hg 6;clear hc hg;go_enter func145,ntmps145;go_wp2_with fail;refine HC.out.mono ?_;rintro e w1 ⟨rfl,mO⟩;have mY:Hid _:=mO;clear mO;by_cases h0:E=0
 .subst h0
  rw[CX];go_wp2_with fail;simp[JM,results,results145];exact⟨rfl,mY.out⟩
 .rw[ri h0]
  exact⟨rfl,(ri h0).symm,mY.out⟩
theorem ah8(id code mQ size:Int)(mX cut:Bool)(name:ByteArray)(rs:List Rc.Rec)(pa:Option Addr)(cap:Nat)(w:World)(hm:ML w)(hs:name.size<=Il)(hv:Rc.Sl w (sh pa rs.length cap) rs)(Le:rs.length<=cap) :
 Calls AT 81 #[Iu #[O J id,Ic mX,Ic cut,O J code,I name,O J mQ,sh pa rs.length cap],O J size] w λe w'=>e=Ia (Ir #[I (vL id code mQ mX cut name rs size),O J (vV id code mQ mX cut name rs size)])/\Below w.heap.size w w':=by
 have HSL:Hid (Rc.Sl _ _ _):=hv;obtain⟨pa',awh,heq,tR,pO⟩:=hv;injection heq with q1 q2 q3;subst q1;clear q2 q3;have Ed:Hid (∀W,Below w.heap.size w W->rs=[]\/∃b off,pa=AI ⟨b,off,U⟩/\b<W.heap.size/\Rc.Row W b off rs):=λW hW=>by
  rcases pO with h|⟨b,off,h1,h2,h3⟩
  .exact .inl h
  .exact .inr ⟨b,off,h1,Ix h2 hW.size,KL h3 hW h2⟩
 have HWR:Hid (nx id code mQ name rs=0->∀W,Below w.heap.size w W->∀j,j<=rs.length->Calls AT 146 #[Iu #[O J id,Ic mX,Ic (cut||decide (j<rs.length)),O J code,I name,O J mQ,sh pa j cap]] W λe w'=>e=Ia (I ⟨(Ba id code mQ mX cut name rs j).toArray⟩)/\Below W.heap.size W w'):=λhc W hW j hj=>by
  obtain⟨f1,f2,f3⟩:=oM hc;have hl:(rs.take j).length=j:=by rw[IA];omega
  have h:=PA id code mQ mX (cut||decide (j<rs.length)) name (rs.take j) pa cap W (hm.below hW) f2 (by omega) (λr hr=>f3 r (List.mem_of_mem_take hr)) (λW2 sx=>by
   rcases Ed.out W2 (hW.trans (sx.mono hW.size)) with h|⟨b,off,h1,h2,h3⟩
   .exact .inl (by rw[h];simp)
   .exact .inr ⟨b,off,h1,h2,PB h3 j⟩)
  rw[hl] at h;exact h
 have HC:Hid (∀W,Below w.heap.size w W->Calls _ _ _ _ _):=λW hW=>Bb id code mQ mX cut name rs _ W hs (HSL.out.below hW);have ef:=enters_of func145 (by kernel_rfl) rfl;have K0:Hid (within size 12 512=false->vL id code mQ mX cut name rs size=⟨#[]⟩/\vV id code mQ mX cut name rs size=3):=λh=>by
  unfold vL vV;rw[if_pos h,if_pos h];exact⟨rfl,rfl⟩
 have K1:Hid (within size 12 512=true->nx id code mQ name rs≠0->vL id code mQ mX cut name rs size=⟨#[]⟩/\vV id code mQ mX cut name rs size=nx id code mQ name rs):=λh h1=>by
  unfold vL vV;rw[if_neg (by simp[h]),if_neg h1,if_neg (by simp[h]),if_neg h1];exact⟨rfl,rfl⟩
 have K2:Hid (within size 12 512=true->nx id code mQ name rs=0->∀j,j<=rs.length->(∀i,j<i->i<=rs.length->size<((Ba id code mQ mX cut name rs i).length:Int))->((Ba id code mQ mX cut name rs j).length:Int)<=size->vL id code mQ mX cut name rs size=⟨(Ba id code mQ mX cut name rs j).toArray⟩/\vV id code mQ mX cut name rs size=0):=λh h1 j hj hi hl=>by
  unfold vL vV;rw[if_neg (by simp[h]),if_pos h1,if_neg (by simp[h]),if_pos h1,Ge hj hi hl];exact⟨rfl,rfl⟩
 have K3:Hid (within size 12 512=true->nx id code mQ name rs=0->(∀i,i<=rs.length->size<((Ba id code mQ mX cut name rs i).length:Int))->vL id code mQ mX cut name rs size=⟨#[]⟩/\vV id code mQ mX cut name rs size=2):=λh h1 hi=>by
  unfold vL vV;rw[if_neg (by simp[h]),if_pos h1,if_neg (by simp[h]),if_pos h1,L7 hi];exact⟨rfl,rfl⟩
 have aeV:Hid (nx id code mQ name rs=0->rs.length<=20):=λh=>(oM h).1;have aqq:Hid (0<rs.length->∃b off,pa=AI ⟨b,off,U⟩):=λh=>by
  rcases pO with h1|⟨b,off,h1,_⟩
  .rw[h1] at h;simp at h
  .exact⟨b,off,h1⟩
 clear hm hs tR pO Ed HSL;generalize nx id code mQ name rs=E at *;generalize vL id code mQ mX cut name rs size=RT at *;generalize vV id code mQ mX cut name rs size=RE at *;generalize Ba id code mQ mX cut name rs=f at *;generalize rs.length=n at *;go_enter func81,ntmps81;go_wp2_with fail;obtain⟨w0,qu,-,-,pS⟩:=pL w #[O J id,Ic mX,Ic cut,O J code,I name,O J mQ,sh pa n cap] 63;have pN:Hid (Below w.heap.size w w0):=(show Below _ _ _ by rw[qu];exact(If _ _).alloc (By _) _);have GY:=(Ig.1 pS).1;rw[<- qu];clear qu;refine(oe _ _ _ _).mono ?_;rintro e w00 ⟨rfl,amc⟩;subst amc;by_cases hwi:within size 12 512=false
 .obtain⟨e1,e2⟩:=K0.out hwi
  rw[hwi];go_wp2_with fail;go_ret2;exact⟨by rw[e1,e2];rfl,pN.out⟩
 have hwt:within size 12 512=true:=by simpa using hwi
 have wH:Hid _:=K1.out hwt;have vN:Hid _:=K2.out hwt;have Ac:Hid _:=K3.out hwt;rw[hwt];clear K0 K1 K2 K3 hwi hwt;have vu:Hid (Calls AT 72 #[.func (.func 145) #[] #[Ik (AI ⟨w.heap.size,0,U⟩)]] w00 λr w'=>r=Ia (O J E)/\Below w00.heap.size w00 w'):=(show Calls _ _ _ _ _ by
  refine PC 145 #[Ik (AI ⟨w.heap.size,0,U⟩)] E w00 ef ?_;have h:=aeU w.heap.size n E id code mQ mX cut name pa cap (w00.alloc (Ib #[O J 0] 31)) ((Jj w00 _ _ GY).trans pS) (HC.out _ (pN.out.alloc (Jw GY) _));simpa using h)
 clear ef HC;go_wp2_with fail;refine vu.out.mono ?_;rintro e w1 ⟨rfl,mO⟩;have mY:Hid _:=pN.out.trans (mO.mono (Jw GY));have ou:=(mO.block _ GY).trans pS;clear mO pS vu;by_cases h0:E=0
 .have aqr:Hid (∀W,Below w.heap.size w W->∀j,j<=n->Calls _ _ _ _ _):=HWR.out h0
  have HJ2:Hid _:=vN.out h0;have HJ3:Hid _:=Ac.out h0;have zY:=aeV.out h0;clear HWR wH vN Ac aeV;subst h0;have hcn:(cut||decide (n<n))=cut:=by simp
  have Hw:=aqr.out w1 mY.out n (By _);rw[hcn] at Hw;have HW2:Hid (Calls _ _ _ _ _):=Hw;clear Hw;have c0:=fi ou 0;have c1:=fi ou 1;have c2:=fi ou 2;have c3:=fi ou 3;have c4:=fi ou 4;have c5:=fi ou 5;have c6:=fi ou 6;have o8:=(Ig.1 ou).1;go_wp2_with fail;refine HW2.out.mono ?_;rintro e w2 ⟨rfl,mZ⟩;have nR:Hid _:=mY.out.trans (mZ.mono mY.out.size);have Cl:Hid (w2.heap[w.heap.size]?=AI (Ib #[O J id,Ic mX,Ic (cut||decide (n<n)),O J code,I name,O J mQ,sh pa n cap] 63 (0,0))):=(show _=_ by rw[hcn];exact(mZ.block _ o8).trans ou);have d6:=fi Cl.out 6;clear mZ ou HW2 c0 c1 c2 c3 c4 c5 c6 hcn;go_wp2_with fail;clear d6;go_loopw [7,8] (λsv nv wr=>∃j:Nat,j<=n/\sv=I ⟨(f j).toArray⟩/\nv=O J j/\Hid (Below w.heap.size w wr)/\Hid (wr.heap[w.heap.size]?=AI (Ib #[O J id,Ic mX,Ic (cut||decide (j<n)),O J code,I name,O J mQ,sh pa j cap] 63 (0,0)))/\Hid (∀i,j<i->i<=n->size<((f i).length:Int))) (λ_ nv _=>(intOf nv).toNat)
  case atStart=>exact⟨n,By _,rfl,rfl,nR,Cl,λi h1 h2=>by omega⟩
  case round=>
   obtain⟨j,hj,rfl,rfl,qQ,xu,HI⟩:=hrel;have od:=qQ.out.size;have Rm:=(Ig.1 xu.out).1;have Rr:(⟨(f j).toArray⟩:ByteArray).size=(f j).length:=by simp[ByteArray.size]
   by_cases AW:size<((f j).length:Int)
   .by_cases hj0:j=0
    .have aeO:Hid (∀i,i<=n->size<((f i).length:Int)):=λi hi=>by
      rcases Nat.eq_zero_or_pos i with h|h
      .rw[h,<- hj0];exact AW
      .exact HI.out i (by omega) hi
     obtain⟨e1,e2⟩:=HJ3.out aeO.out;have uN:decide (size<((⟨(f j).toArray⟩:ByteArray).size:Int))=true:=by rw[Rr];simpa using AW
     have hd2:decide (0<j)=false:=by simp;omega
     generalize(⟨(f j).toArray⟩:ByteArray)=T at *;clear Rr AW hj0;go_wp2_with fail;go_ret2;exact⟨by rw[e1,e2];rfl,qQ.out⟩
    .have uN:decide (size<((⟨(f j).toArray⟩:ByteArray).size:Int))=true:=by rw[Rr];simpa using AW
     have hd2:decide ((0:Int)<(j:Int))=true:=by simp;omega
     have zN:Hid (∀i,j-1<i->i<=n->size<((f i).length:Int)):=λi h1 h2=>by
      rcases Nat.lt_or_ge j i with h|h
      .exact HI.out i h h2
      .obtain rfl:i=j:=by omega
       exact AW
     obtain⟨b,off,Tn⟩:=aqq.out (by omega);subst Tn;generalize(⟨(f j).toArray⟩:ByteArray)=T at *;clear Rr AW HI;have c0:=fi xu.out 0;have c1:=fi xu.out 1;have c2:=fi xu.out 2;have c3:=fi xu.out 3;have c4:=fi xu.out 4;have c5:=fi xu.out 5;have c6:=fi xu.out 6;have z2:wr.frozen? ⟨w.heap.size,2,U⟩=false:=by simp[Ij,xu.out]
     have z6:wr.frozen? ⟨w.heap.size,6,U⟩=false:=by simp[Ij,xu.out]
     obtain⟨k,hk⟩:∃k,k=j-1:=⟨_,rfl⟩;have K4:(j:Int)=(k:Int)+1:=by omega
     have hwr:IntKind.i64.wrap ((j:Int)-1)=(k:Int):=by rw[IW];omega
     have awj:((j:Int)-1)=(k:Int):=by omega
     have Ni:(0:Int)<=(k:Int):=by omega
     have hk1:(k:Int)<=(cap:Int):=by omega
     have DT:((k:Int)).toNat=k:=by omega
     have hcut:(cut||decide (k<n))=true:=by simp;right;omega
     have rW:Hid (Below w.heap.size w ((wr.setCell ⟨w.heap.size,6,U⟩ (sh (AI ⟨b,off,U⟩) (j-1) cap)).setCell ⟨w.heap.size,2,U⟩ (Ic true))):=(qQ.out.setCell (p:=⟨w.heap.size,6,U⟩) (By _) _).setCell (p:=⟨w.heap.size,2,U⟩) (By _) _;have HGW:Hid (((wr.setCell ⟨w.heap.size,6,U⟩ (sh (AI ⟨b,off,U⟩) (j-1) cap)).setCell ⟨w.heap.size,2,U⟩ (Ic true)).heap[w.heap.size]?=AI (Ib #[O J id,Ic mX,Ic true,O J code,I name,O J mQ,sh (AI ⟨b,off,U⟩) (j-1) cap] 63 (0,0))):=It (i:=2) (It (i:=6) xu.out _) _;have WA:w.heap.size<((wr.setCell ⟨w.heap.size,6,U⟩ (sh (AI ⟨b,off,U⟩) (j-1) cap)).setCell ⟨w.heap.size,2,U⟩ (Ic true)).heap.size:=by simpa using Rm
     have NV:=aqr.out ((wr.setCell ⟨w.heap.size,6,U⟩ (sh (AI ⟨b,off,U⟩) (j-1) cap)).setCell ⟨w.heap.size,2,U⟩ (Ic true)) rW.out (j-1) (by omega);rw[show(cut||decide (j-1<n))=true by rw[<- hk];exact hcut] at NV;have HWL:Hid (Calls _ _ _ _ _):=NV;clear NV;go_wp2_with fail;refine HWL.out.mono ?_;rintro e w9 ⟨rfl,tv⟩;have uy:Hid _:=rW.out.trans (tv.mono (Jw WA));have HG9:Hid (w9.heap[w.heap.size]?=AI (Ib #[O J id,Ic mX,Ic (cut||decide (j-1<n)),O J code,I name,O J mQ,sh (AI ⟨b,off,U⟩) (j-1) cap] 63 (0,0))):=(show _=_ by
      rw[show(cut||decide (j-1<n))=true by rw[<- hk];exact hcut];exact(tv.block _ WA).trans HGW.out)
     clear tv c0 c1 c2 c3 c4 c5 c6 z2 z6;go_wp2_with fail;exact⟨⟨j-1,by omega,rfl,by first|rfl|(rw[<- hk,awj])|go_num,uy,HG9,zN⟩,by simp[intOf];omega⟩
   .obtain⟨e1,e2⟩:=HJ2.out j hj HI.out (by omega)
    have uN:decide (size<((⟨(f j).toArray⟩:ByteArray).size:Int))=false:=by rw[Rr];simpa using AW
    generalize(⟨(f j).toArray⟩:ByteArray)=T at *;clear Rr AW;go_wp2_with fail;go_ret2;exact⟨by rw[e1,e2];rfl,qQ.out⟩
 .obtain⟨e1,e2⟩:=wH.out h0
  have h1:(E !=0)=true:=by simpa using h0
  go_wp2_with fail;go_ret2;exact⟨by rw[e1,e2];rfl,mY.out⟩
theorem aeX{P:Prop}(h:P:=by
 clear tv c0 c1 c2 c3 c4 c5 c6 rW HGW WA KA;have Rr:(⟨(f k).toArray⟩:ByteArray).size=(f k).length:=by simp[ByteArray.size]
 by_cases AW:size<((f k).length:Int)
 .have uN:decide (((⟨(f k).toArray⟩:ByteArray).size:Int)<=size)=false:=by rw[Rr];simpa using AW
  have zN:Hid (∀i,k<=i->i<=n->size<((f i).length:Int)):=λi h1 h2=>by
   rcases Nat.lt_or_ge k i with h|h
   .exact HI.out i h h2
   .obtain rfl:i=k:=by omega
    exact AW
  generalize(⟨(f k).toArray⟩:ByteArray)=T at *;clear Rr AW HI;go_wp2_with fail;exact⟨⟨k,by omega,by go_num,uy,HG9,zN⟩,by simp[intOf]<;>omega⟩
 .obtain⟨e1,e2⟩:=HJ2.out k (by omega) (λi h1 h2=>HI.out i h1 h2) (by omega)
  have uN:decide (((⟨(f k).toArray⟩:ByteArray).size:Int)<=size)=true:=by rw[Rr];simp<;>omega
  generalize(⟨(f k).toArray⟩:ByteArray)=T at *;clear Rr AW;go_wp2_with fail;go_ret2;exact⟨by rw[e1,e2];rfl,uy.out⟩):P:=h
theorem aeY{P:Prop}(h:P:=by
 clear Mt;go_wp2_with fail;refine KA.out.mono ?_;rintro e w9 ⟨rfl,tv⟩;have uy:Hid _:=rW.out.trans (tv.mono (Jw WA));have HG9:Hid _:=(tv.block _ WA).trans HGW.out;exact aeX):P:=h
theorem aaN(id code mQ size:Int)(mX cut:Bool)(name:ByteArray)(rs:List Rc.Rec)(pa:Option Addr)(cap:Nat)(w:World)(hs:name.size<=2000000)(A3:∀r∈rs,r.name.size<=2000000/\r.target.size<=2000000)(hv:Rc.Sl w (sh pa rs.length cap) rs)(Le:rs.length<=cap) :
 Calls AT 49 #[Iu #[O J id,Ic mX,Ic cut,O J code,I name,O J mQ,sh pa rs.length cap],O J size] w λe w'=>e=Ia (Ir #[I (vL id code mQ mX cut name rs size),O J (vV id code mQ mX cut name rs size)])/\Below w.heap.size w w':=by
 have HSL:Hid (Rc.Sl _ _ _):=hv;obtain⟨pa',awh,heq,tR,pO⟩:=hv;injection heq with q1 q2 q3;subst q1;clear q2 q3;have HMB:Hid (nx id code mQ name rs=0->∀W,Below w.heap.size w W->∀j,j<=rs.length->Calls AT 88 #[Iu #[O J id,Ic mX,Ic (cut||decide (j<rs.length)),O J code,I name,O J mQ,sh pa j cap]] W λe w'=>e=Ia (I ⟨(Ba id code mQ mX cut name rs j).toArray⟩)/\Below W.heap.size W w'):=λhc W hW j hj=>by
  have hl:(rs.take j).length=j:=by rw[IA];omega
  have DA:Rc.Sl W (sh pa j cap) (rs.take j):=by
   refine⟨pa,cap,by rw[hl],λk=>?_,?_⟩
   .by_cases hk:k<j
    .have:(rs.take j).getD k Rc.dm=rs.getD k Rc.dm:=by simp[Ip,hk]
     rw[this];exact tR k
    .have:(rs.take j).getD k Rc.dm=Rc.dm:=by simp[Ip,IK (by rw[hl];omega:(rs.take j).length<=k)]
     rw[this];exact Rc.Ah
   .rcases pO with h|⟨b,off,h1,h2,h3⟩
    .exact .inl (by rw[h];simp)
    .exact .inr ⟨b,off,h1,Ix h2 hW.size,PB (KL h3 hW h2) j⟩
  exact L8 id code mQ mX (cut||decide (j<rs.length)) name (rs.take j) _ W (PD hc j) DA
 have HC:Hid (∀W,Below w.heap.size w W->Calls _ _ _ _ _):=λW hW=>Ga id code mQ mX cut name rs _ W hs A3 (HSL.out.below hW);have K0:Hid (within size 12 512=false->vL id code mQ mX cut name rs size=⟨#[]⟩/\vV id code mQ mX cut name rs size=3):=λh=>by
  unfold vL vV;rw[if_pos h,if_pos h];exact⟨rfl,rfl⟩
 have K1:Hid (within size 12 512=true->nx id code mQ name rs≠0->vL id code mQ mX cut name rs size=⟨#[]⟩/\vV id code mQ mX cut name rs size=nx id code mQ name rs):=λh h1=>by
  unfold vL vV;rw[if_neg (by simp[h]),if_neg h1,if_neg (by simp[h]),if_neg h1];exact⟨rfl,rfl⟩
 have K2:Hid (within size 12 512=true->nx id code mQ name rs=0->∀j,j<=rs.length->(∀i,j<i->i<=rs.length->size<((Ba id code mQ mX cut name rs i).length:Int))->((Ba id code mQ mX cut name rs j).length:Int)<=size->vL id code mQ mX cut name rs size=⟨(Ba id code mQ mX cut name rs j).toArray⟩/\vV id code mQ mX cut name rs size=0):=λh h1 j hj hi hl=>by
  unfold vL vV;rw[if_neg (by simp[h]),if_pos h1,if_neg (by simp[h]),if_pos h1,Ge hj hi hl];exact⟨rfl,rfl⟩
 have K3:Hid (within size 12 512=true->nx id code mQ name rs=0->(∀i,i<=rs.length->size<((Ba id code mQ mX cut name rs i).length:Int))->vL id code mQ mX cut name rs size=⟨#[]⟩/\vV id code mQ mX cut name rs size=2):=λh h1 hi=>by
  unfold vL vV;rw[if_neg (by simp[h]),if_pos h1,if_neg (by simp[h]),if_pos h1,L7 hi];exact⟨rfl,rfl⟩
 have aeV:Hid (nx id code mQ name rs=0->rs.length<=20):=λh=>(oM h).1;have aqq:Hid (pa=U->rs.length=0):=λh=>by
  rcases pO with h1|⟨b,off,h1,_⟩
  .rw[h1];rfl
  .rw[h] at h1;cases h1
 have azS:Hid (∀p,pa=AI p->0<rs.length->∃b off,p=⟨b,off,U⟩):=λp hp h=>by
  rcases pO with h1|⟨b,off,h1,_⟩
  .rw[h1] at h;simp at h
  .rw[hp] at h1;injection h1 with h1;exact⟨b,off,h1⟩
 clear hs A3 tR pO HSL;generalize nx id code mQ name rs=E at *;generalize vL id code mQ mX cut name rs size=RT at *;generalize vV id code mQ mX cut name rs size=RE at *;generalize Ba id code mQ mX cut name rs=f at *;generalize rs.length=n at *;go_enter func49,ntmps49;go_wp2_with fail;obtain⟨w0,qu,-,-,pS⟩:=pL w #[O J id,Ic mX,Ic cut,O J code,I name,O J mQ,sh pa n cap] 63;have pN:Hid (Below w.heap.size w w0):=(show Below _ _ _ by rw[qu];exact(If _ _).alloc (By _) _);have GY:=(Ig.1 pS).1;rw[<- qu];clear qu;refine(nN _ _ _ _).mono ?_;rintro e w00 ⟨rfl,amc⟩;subst amc;by_cases hwi:within size 12 512=false
 .obtain⟨e1,e2⟩:=K0.out hwi
  rw[hwi];go_wp2_with fail;go_ret2;exact⟨by rw[e1,e2];rfl,pN.out⟩
 have hwt:within size 12 512=true:=by simpa using hwi
 have wH:Hid _:=K1.out hwt;have vN:Hid _:=K2.out hwt;have Ac:Hid _:=K3.out hwt;rw[hwt];clear K0 K1 K2 K3 hwi hwt;have c0:=fi pS 0;have c1:=fi pS 1;have c2:=fi pS 2;have c3:=fi pS 3;have c4:=fi pS 4;have c5:=fi pS 5;have c6:=fi pS 6;go_wp2_with fail;refine(HC.out w00 pN.out).mono ?_;rintro e w1 ⟨rfl,mO⟩;have mY:Hid _:=pN.out.trans (mO.mono (Jw GY));have vF:Hid _:=(mO.block _ GY).trans pS;clear mO pS HC c0 c1 c2 c3 c4 c5 c6;by_cases h0:E=0
 .have amd:Hid (∀W,Below w.heap.size w W->∀j,j<=n->Calls _ _ _ _ _):=HMB.out h0
  have HJ2:Hid _:=vN.out h0;have HJ3:Hid _:=Ac.out h0;have zY:=aeV.out h0;clear HMB wH vN Ac aeV;subst h0;have d6:=fi vF.out 6;go_wp2_with fail;clear d6;go_loopw [7] (λnv wr=>∃j:Nat,j<=n+1/\nv=O J ((j:Int)-1)/\Hid (Below w.heap.size w wr)/\Hid (wr.heap[w.heap.size]?=AI (Ib #[O J id,Ic mX,Ic cut,O J code,I name,O J mQ,sh pa n cap] 63 (0,0)))/\Hid (∀i,j<=i->i<=n->size<((f i).length:Int))) (λnv _=>(intOf nv+1).toNat)
  case atStart=>exact⟨n+1,By _,by go_num,mY,vF,λi h1 h2=>by omega⟩
  case round=>
   obtain⟨j,hj,rfl,qQ,xu,HI⟩:=hrel;have od:=qQ.out.size;have Rm:=(Ig.1 xu.out).1;rcases j with _|k
   .obtain⟨e1,e2⟩:=HJ3.out (λi hi=>HI.out i (Iw _) hi)
    go_wp2_with fail;go_ret2;exact⟨by rw[e1,e2];rfl,qQ.out⟩
   .have hkk:(((k+1:Nat):Int)-1)=(k:Int):=by omega
    rw[hkk];have Ni:(0:Int)<=(k:Int):=by omega
    have hk1:(k:Int)<=(cap:Int):=by omega
    have DT:((k:Int)).toNat=k:=by omega
    have yo:decide ((0:Int)<=(k:Int))=true:=by simp
    have c0:=fi xu.out 0;have c1:=fi xu.out 1;have c2:=fi xu.out 2;have c3:=fi xu.out 3;have c4:=fi xu.out 4;have c5:=fi xu.out 5;have c6:=fi xu.out 6;cases cut
    .by_cases tp:k<n
     .have hd9:decide ((k:Int)<(n:Int))=true:=by simp;omega
      have rW:Hid (Below w.heap.size w (wr.alloc (Ib #[O J id,Ic mX,Ic true,O J code,I name,O J mQ,sh pa k cap] 63))):=qQ.out.alloc od _;have HGW:Hid ((wr.alloc (Ib #[O J id,Ic mX,Ic true,O J code,I name,O J mQ,sh pa k cap] 63)).heap[w.heap.size]?=AI (Ib #[O J id,Ic mX,Ic false,O J code,I name,O J mQ,sh pa n cap] 63 (0,0))):=(Jj wr _ _ Rm).trans xu.out;have WA:w.heap.size<(wr.alloc (Ib #[O J id,Ic mX,Ic true,O J code,I name,O J mQ,sh pa k cap] 63)).heap.size:=by simp<;>omega
      have Mt:=amd.out (wr.alloc (Ib #[O J id,Ic mX,Ic true,O J code,I name,O J mQ,sh pa k cap] 63)) rW.out k (by omega);rw[show(false||decide (k<n))=true by simp<;>omega] at Mt;have KA:Hid (Calls _ _ _ _ _):=Mt;exact aeY
     .have hd9:decide ((k:Int)<(n:Int))=false:=by simp;omega
      have rW:Hid (Below w.heap.size w (wr.alloc (Ib #[O J id,Ic mX,Ic false,O J code,I name,O J mQ,sh pa k cap] 63))):=qQ.out.alloc od _;have HGW:Hid ((wr.alloc (Ib #[O J id,Ic mX,Ic false,O J code,I name,O J mQ,sh pa k cap] 63)).heap[w.heap.size]?=AI (Ib #[O J id,Ic mX,Ic false,O J code,I name,O J mQ,sh pa n cap] 63 (0,0))):=(Jj wr _ _ Rm).trans xu.out;have WA:w.heap.size<(wr.alloc (Ib #[O J id,Ic mX,Ic false,O J code,I name,O J mQ,sh pa k cap] 63)).heap.size:=by simp<;>omega
      have Mt:=amd.out (wr.alloc (Ib #[O J id,Ic mX,Ic false,O J code,I name,O J mQ,sh pa k cap] 63)) rW.out k (by omega);rw[show(false||decide (k<n))=false by simp<;>omega] at Mt;have KA:Hid (Calls _ _ _ _ _):=Mt;exact aeY
    .have rW:Hid (Below w.heap.size w (wr.alloc (Ib #[O J id,Ic mX,Ic true,O J code,I name,O J mQ,sh pa k cap] 63))):=qQ.out.alloc od _
     have HGW:Hid ((wr.alloc (Ib #[O J id,Ic mX,Ic true,O J code,I name,O J mQ,sh pa k cap] 63)).heap[w.heap.size]?=AI (Ib #[O J id,Ic mX,Ic true,O J code,I name,O J mQ,sh pa n cap] 63 (0,0))):=(Jj wr _ _ Rm).trans xu.out;have WA:w.heap.size<(wr.alloc (Ib #[O J id,Ic mX,Ic true,O J code,I name,O J mQ,sh pa k cap] 63)).heap.size:=by simp<;>omega
     have Mt:=amd.out (wr.alloc (Ib #[O J id,Ic mX,Ic true,O J code,I name,O J mQ,sh pa k cap] 63)) rW.out k (by omega);rw[show(true||decide (k<n))=true by simp<;>omega] at Mt;have KA:Hid (Calls _ _ _ _ _):=Mt;clear Mt;go_wp2_with fail;refine KA.out.mono ?_;rintro e w9 ⟨rfl,tv⟩;have uy:Hid _:=rW.out.trans (tv.mono (Jw WA));have HG9:Hid _:=(tv.block _ WA).trans HGW.out;exact aeX
 .obtain⟨e1,e2⟩:=wH.out h0
  have h1:(E !=0)=true:=by simpa using h0
  go_wp2_with fail;go_ret2;exact⟨by rw[e1,e2];rfl,mY.out⟩
def pJ(s:ByteArray):Bool:=decide (s.size<12)||decide (128<=(s.data.toList.getD 2 0).toNat)
def uS(s:ByteArray):Int:=256*((s.data.toList.getD 0 0).toNat:Int)+((s.data.toList.getD 1 0).toNat:Int)
theorem PF(s:ByteArray):0<=uS s/\uS s<=65535:=by
 unfold uS;have h0:=(s.data.toList.getD 0 0).toNat_lt;have h1:=(s.data.toList.getD 1 0).toNat_lt;omega
def uF(name:ByteArray)(mQ:Int)(here:ByteArray)(sv:List Sv.nj)(ms:List Mem)(p:Pl)(wh:List Wh.nZ):List Rc.Rec:=
 if oF name=0 then(if(uY (nz name) mQ here sv ms p wh).e=0 then(uY (nz name) mQ here sv ms p wh).rs else[]) else[]
def vW(name:ByteArray)(mQ:Int)(here:ByteArray)(sv:List Sv.nj)(ms:List Mem)(p:Pl)(wh:List Wh.nZ):Int:=
 if oF name=0 then(if(uY (nz name) mQ here sv ms p wh).e=0 then(uY (nz name) mQ here sv ms p wh).code else 2) else if oF name=8 then 4 else 3
structure Rp where
 code:Int
 mQ:Int
 R:ByteArray
 rs:List Rc.Rec
def rD(s here:ByteArray)(sv:List Sv.nj)(ms:List Mem)(p:Pl)(wh:List Wh.nZ):Rp:=match xz s with
 |some M=>if M.rs.length=0 then⟨vW M.R M.mQ here sv ms p wh,M.mQ,M.R,uF M.R M.mQ here sv ms p wh⟩ else⟨1,1,⟨#[]⟩,[]⟩
 |none=>⟨1,1,⟨#[]⟩,[]⟩
theorem B8{s:ByteArray}{M:Ms}(h:xz s=AI M):nx M.id M.code M.mQ M.R M.rs=0:=by
 unfold xz at h;by_cases hc:s.size<=512/\vQ s=0
 .rw[if_pos hc] at h
  have h2:=hc.2;unfold vQ at h2;rw[h] at h2;exact h2
 .rw[if_neg hc] at h;cases h
theorem Gf{id code mQ:Int}{name:ByteArray}{rs:List Rc.Rec}(h:nx id code mQ name rs=0):qS mQ=true:=by
 unfold nx at h;split at h
 .omega
 .split at h
  .omega
  .split at h
   .rename_i h1;exact absurd h h1
   .split at h
    .omega
    .rename_i h1;simpa using h1
theorem aeZ{s:ByteArray}(h:oF s=0):rH (nz s)=0:=(aeT h).1
theorem EG{q:Qu}(h:rH q=0):pt q=0/\nS (tN q)=0:=by
 unfold rH at h;by_cases h2:pt q=0
 .rw[if_pos h2] at h
  refine⟨h2,?_⟩;have h3:rH q=0:=by unfold rH;rw[if_pos h2];exact h
  unfold tN;rw[if_pos h3];exact h
 .rw[if_neg h2] at h;exact absurd h h2
theorem xT:nS ⟨#[]⟩=0:=by kernel_rfl
theorem aaO{s:Sv.nj}(h:s.e=0):within s.addr 0 4294967295=true/\within s.port 0 65535=true/\s.oI.size<=30:=by
 unfold Sv.nj.e at h;split at h
 .rename_i h1
  split at h
  .rename_i h2
   simp only[Bool.and_eq_true] at h1 h2;refine⟨h2.1,h2.2.1,?_⟩;have h3:=h1.2.1;unfold mT at h3;simp only[Bool.and_eq_true,decide_eq_true_eq] at h3;exact h3.1.2
  .omega
 .omega
theorem w0:within 0 0 2147483647=true:=by decide
theorem ae0{name here:ByteArray}{t:Int}{s:Sv.nj}(hn:nS name=0)(ht:qS t=true)(hs:s.e=0)(he:qI here t s=0):nT (pG name here t s)=0:=by
 obtain⟨h1,h2,h3⟩:=aaO hs;have Rk:t=1\/t=16\/t=33:=by unfold qS at ht;simpa[or_assoc] using ht
 have e0:(⟨#[]⟩:ByteArray).size=0:=rfl;rcases Rk with rfl|rfl|rfl
 .have e:pG name here 1 s=⟨name,1,0,s.addr,⟨#[]⟩,0,⟨#[]⟩⟩:=rfl
  rw[e];unfold nT;simp only[hn,sF,h1,w0,xT,e0];simp[qS,within]
 .have e:pG name here 16 s=⟨name,16,0,0,s.oI,0,⟨#[]⟩⟩:=rfl
  rw[e];have h4:¬ 200<s.oI.size:=by omega
  unfold nT;simp only[hn,sF,w0,xT,e0,h4];simp[qS,within]
 .have e:pG name here 33 s=⟨name,33,0,0,⟨#[]⟩,s.port,tN (qN s.node here)⟩:=rfl
  have he2:rH (qN s.node here)=0:=he;have h5:=(EG he2).2;rw[e];unfold nT;simp only[hn,sF,w0,h2,h5,e0];simp[qS,within]
theorem ae1{ms:List Mem}{t:ByteArray}(hc:nu ms=0):within (qO ms t).addr 0 4294967295=true:=by
 cases h:oX ms t with
 |none=>rw[zG h];decide
 |some m=>
  rw[uc h];have h2:m.e=0:=yS (mU hc).2.2 m (BM h).1;unfold Mem.e uA at h2;split at h2
  .split at h2
   .split at h2
    .split at h2
     .rename_i h5;exact h5
     .omega
    .omega
   .omega
  .omega
theorem ame{name:ByteArray}{ad:Int}(hn:nS name=0)(ha:within ad 0 4294967295=true):nT ⟨name,1,0,ad,⟨#[]⟩,0,⟨#[]⟩⟩=0:=by
 have e0:(⟨#[]⟩:ByteArray).size=0:=rfl;unfold nT;simp only[hn,sF,ha,w0,xT,e0];simp[qS,within]
theorem Gg{here:ByteArray}{t:Int}:∀{L:List Sv.nj},qJ here t L=0->∀s∈L,qI here t s=0
 |[],_,s,hs=>by simp at hs
 |x::r,h,s,hs=>by
  rw[qJ] at h;by_cases h2:qI here t x=0
  .rw[if_pos h2] at h
   rcases List.mem_cons.1 hs with rfl|hs
   .exact h2
   .exact Gg h s hs
  .rw[if_neg h2] at h;exact absurd h h2
theorem ah9{q:Qu}{t:Int}{here:ByteArray}{sv:List Sv.nj}{ms:List Mem}{p:Pl}{wh:List Wh.nZ}(hk:B4 here sv ms p wh)(ht:qS t=true)(he:(uY q t here sv ms p wh).e=0):∀r∈(uY q t here sv ms p wh).rs,nT r=0:=by
 unfold uY at he ⊢;by_cases h1:rH q=0
 .rw[if_pos h1] at he ⊢
  have hn:=(EG h1).2;by_cases h2:q.mM.size≠0/\q.mM≠here
  .rw[if_pos h2];simp
  .rw[if_neg h2] at he ⊢
   by_cases h3:q.node.size≠0
   .rw[if_pos h3] at he ⊢
    unfold uX;split
    .split
     .intro r hr
      simp at hr;subst hr;exact ame hn (ae1 hk.ms)
     .simp
    .simp
   .rw[if_neg h3] at he ⊢
    unfold ub at he ⊢;by_cases h4:Sv.nc sv q.service ⟨#[]⟩=[]
    .rw[if_pos h4];simp
    .rw[if_neg h4] at he ⊢
     by_cases h5:qJ here t (si p wh ms (Sv.nc sv q.service q.tag))=0
     .rw[if_pos h5]
      intro r hr;obtain⟨s,hs,rfl⟩:=List.mem_map.1 hr;have h6:=(List.mem_filter.1 (adv hs).1).1;exact ae0 hn ht (Sv.pY sv (Sv.mU hk.sv).2.2 s h6) (Gg h5 s hs)
     .rw[if_neg h5] at he;exact absurd he h5
 .rw[if_neg h1] at he;exact absurd he h1
theorem aia(q:Qu)(t:Int)(here:ByteArray)(sv:List Sv.nj)(ms:List Mem)(p:Pl)(wh:List Wh.nZ):(uY q t here sv ms p wh).rs.length<=20:=by
 unfold uY;split
 .split
  .simp
  .split
   .unfold uX;(repeat' split)<;>simp
   .unfold ub
    split
    .simp
    .split
     .rw[List.length_map];exact Nv _ _ _ _
     .simp
 .simp
theorem ae2(q:Qu)(t:Int)(here:ByteArray)(sv:List Sv.nj)(ms:List Mem)(p:Pl)(wh:List Wh.nZ):0<=(uY q t here sv ms p wh).code/\(uY q t here sv ms p wh).code<=15:=by
 unfold uY;split
 .split
  .simp
  .split
   .unfold uX;(repeat' split)<;>simp
   .unfold ub;(repeat' split)<;>simp
 .simp
structure aib(r:Rp):Prop where
 code:within r.code 0 15=true
 few:r.rs.length<=20
 name:nS r.R=0
 mQ:qS r.mQ=true
 rs:∀x∈r.rs,nT x=0
theorem Gh:∀{rs:List Rc.Rec},(∀r∈rs,nT r=0)->sG rs=0
 |[],_=>rfl
 |x::r,h=>by rw[sG,if_pos (h x (by simp))];exact Gh λy hy=>h y (by simp[hy])
theorem aic(name:ByteArray)(mQ:Int)(here:ByteArray)(sv:List Sv.nj)(ms:List Mem)(p:Pl)(wh:List Wh.nZ):within (vW name mQ here sv ms p wh) 0 15=true:=by
 have h:=ae2 (nz name) mQ here sv ms p wh;unfold vW;split
 .split
  .unfold within;simp;omega
  .decide
 .split<;>decide
theorem L9{s here:ByteArray}{sv:List Sv.nj}{ms:List Mem}{p:Pl}{wh:List Wh.nZ}(hk:B4 here sv ms p wh):aib (rD s here sv ms p wh):=by
 have VQ:aib ⟨1,1,⟨#[]⟩,[]⟩:=⟨by decide,by simp,xT,by decide,by simp⟩;unfold rD;cases h:xz s with
 |none=>exact VQ
 |some M=>
  simp only;by_cases h0:M.rs.length=0
  .rw[if_pos h0]
   have hc:=B8 h;have ht:=Gf hc;refine⟨aic _ _ _ _ _ _ _,?_,(oM hc).2.1,ht,?_⟩
   .show(uF M.R M.mQ here sv ms p wh).length<=20
    unfold uF;split
    .split
     .exact aia _ _ _ _ _ _ _
     .simp
    .simp
   .show ∀x∈uF M.R M.mQ here sv ms p wh,nT x=0
    unfold uF;split
    .split
     .rename_i h1 h2
      exact ah9 hk ht h2
     .simp
    .simp
  .rw[if_neg h0];exact VQ
theorem amf{id:Int}{r:Rp}(h:aib r)(hi:0<=id/\id<=65535):nx id r.code r.mQ r.R r.rs=0:=by
 have h1:within id 0 65535=true:=by unfold within;simp;omega
 unfold nx;rw[h1,h.code];simp only[Bool.and_self,Bool.true_eq_false,if_false];rw[if_neg (by have:=h.few;omega),if_neg (by simpa using h.name),if_neg (by rw[h.mQ];simp)];exact Gh h.rs
theorem ae3(id code mQ:Int)(mX cut:Bool){name:ByteArray}(h:nS name=0)(n:Nat):(Bc id code mQ mX cut name n).length<=300:=by
 have h1:=xy h;rw[uE,Lib.byteCells_length] at h1;unfold Bc;simp only[List.length_append,EE];omega
theorem KM{f:Nat->List UInt8}{size:Int}(h:((f 0).length:Int)<=size):∀n,(CZ f size n).isSome=true
 |0=>by rw[CZ,if_pos h];rfl
 |k+1=>by
  rw[CZ];split
  .rfl
  .exact KM h k
theorem WH{id:Int}{r:Rp}(h:aib r)(hi:0<=id/\id<=65535):vV id r.code r.mQ true false r.R r.rs 512=0:=by
 unfold vV;rw[if_neg (by decide),if_pos (amf h hi),if_pos];refine KM ?_ _;have h1:=ae3 id r.code r.mQ true (false||decide (0<r.rs.length)) h.name 0;unfold Ba yW;simp only[List.take_zero,List.length_nil,List.flatMap_nil,List.append_nil];omega
def Gi(s here:ByteArray)(sv:List Sv.nj)(ms:List Mem)(p:Pl)(wh:List Wh.nZ):ByteArray:=vL (uS s) (rD s here sv ms p wh).code (rD s here sv ms p wh).mQ true false (rD s here sv ms p wh).R (rD s here sv ms p wh).rs 512
theorem Ma(here:ByteArray)(ps pm pw:Option Addr)(ns cs nm cm nw cw:Nat)(px py pz ph pq:Int)(name:ByteArray)(mQ:Int)(sv:List Sv.nj)(ms:List Mem)(wh:List Wh.nZ)(w:World)(zK:ML w)(hn:name.size<=Il)(hk:B4 here sv ms ⟨px,py,pz,ph,pq⟩ wh)(hs:Sv.Sl w (sh ps ns cs) sv)(hm:Sl w (sh pm nm cm) ms)(hw:Wh.Sl w (sh pw nw cw) wh) :
 Calls AT 144 #[Iu (tH here (sh ps ns cs) (sh pm nm cm) px py pz ph pq (sh pw nw cw)),Iu #[I name,O J mQ]] w λe w'=>∃v,e=Ia (Ir #[v,O J (vW name mQ here sv ms ⟨px,py,pz,ph,pq⟩ wh)])/\Rc.Own w.heap.size w' v (uF name mQ here sv ms ⟨px,py,pz,ph,pq⟩ wh)/\Below w.heap.size w w':=by
 have HS:Hid (Sv.Sl _ _ _):=hs;have HM:Hid (Sl _ _ _):=hm;have HW:Hid (Wh.Sl _ _ _):=hw;have HP:Hid (∀W,ML W->Calls _ _ _ _ _):=λW h=>Ku name W h hn;have hR:=λ(W:World) (a1:Sv.Sl W (sh ps ns cs) sv) (a2:Sl W (sh pm nm cm) ms) (a3:Wh.Sl W (sh pw nw cw) wh)=>LW here ps pm pw ns cs nm cm nw cw px py pz ph pq (nz name) mQ sv ms wh W (L6 name) hk a1 a2 a3;have HR:Hid _:=hR;have HA8:Hid (oF name=8->uF name mQ here sv ms ⟨px,py,pz,ph,pq⟩ wh=[]/\vW name mQ here sv ms ⟨px,py,pz,ph,pq⟩ wh=4):=λh=>by unfold uF vW;rw[if_neg (by omega),if_neg (by omega),if_pos h];exact⟨rfl,rfl⟩
 have DG:Hid (oF name≠8->oF name≠0->uF name mQ here sv ms ⟨px,py,pz,ph,pq⟩ wh=[]/\vW name mQ here sv ms ⟨px,py,pz,ph,pq⟩ wh=3):=λh h2=>by unfold uF vW;rw[if_neg h2,if_neg h2,if_neg h];exact⟨rfl,rfl⟩
 have AB:Hid (oF name=0->(uY (nz name) mQ here sv ms ⟨px,py,pz,ph,pq⟩ wh).e≠0->uF name mQ here sv ms ⟨px,py,pz,ph,pq⟩ wh=[]/\vW name mQ here sv ms ⟨px,py,pz,ph,pq⟩ wh=2):=λh h2=>by unfold uF vW;rw[if_pos h,if_pos h,if_neg h2,if_neg h2];exact⟨rfl,rfl⟩
 have Rt:Hid (oF name=0->(uY (nz name) mQ here sv ms ⟨px,py,pz,ph,pq⟩ wh).e=0->uF name mQ here sv ms ⟨px,py,pz,ph,pq⟩ wh=(uY (nz name) mQ here sv ms ⟨px,py,pz,ph,pq⟩ wh).rs/\vW name mQ here sv ms ⟨px,py,pz,ph,pq⟩ wh=(uY (nz name) mQ here sv ms ⟨px,py,pz,ph,pq⟩ wh).code):=λh h2=>by unfold uF vW;rw[if_pos h,if_pos h,if_pos h2,if_pos h2];exact⟨rfl,rfl⟩
 have KA:Hid (ML w):=zK;clear hs hm hw hR hk zK;generalize uF name mQ here sv ms ⟨px,py,pz,ph,pq⟩ wh=AL at *;generalize vW name mQ here sv ms ⟨px,py,pz,ph,pq⟩ wh=AC at *;generalize uY (nz name) mQ here sv ms ⟨px,py,pz,ph,pq⟩ wh=A at *;generalize oF name=PE at *;generalize nz name=q at *;obtain⟨qs,qt,qn,qc⟩:=q;simp only at *;go_enter func144,ntmps144;go_wp2_with fail;obtain⟨W,hW⟩:∃W,W=(w.alloc (Ib (tH here (sh ps ns cs) (sh pm nm cm) px py pz ph pq (sh pw nw cw)) 87)).alloc (Ib #[I name,O J mQ] 60):=⟨_,rfl⟩;rw[<- hW];have rj:Below w.heap.size w W:=by rw[hW];exact((If _ _).alloc (By _) _).alloc (by simp) _
 have hG0:W.heap[w.heap.size]?=AI (Ib (tH here (sh ps ns cs) (sh pm nm cm) px py pz ph pq (sh pw nw cw)) 87 (0,0)):=by rw[hW,Iv _ _ _ (by simp)];exact Ii w _
 have Ch:W.heap[w.heap.size+1]?=AI (Ib #[I name,O J mQ] 60 (0,0)):=by
  rw[hW];have h:=Ii (w.alloc (Ib (tH here (sh ps ns cs) (sh pm nm cm) px py pz ph pq (sh pw nw cw)) 87)) (Ib #[I name,O J mQ] 60);simpa using h
 have CB:w.heap.size+2<=W.heap.size:=by rw[hW];simp
 clear hW;refine(HP.out W (KA.out.below rj)).mono ?_;rintro e w1 ⟨rfl,mO⟩;have sj:=mO.size;have mY:Hid _:=rj.trans (mO.mono (by omega));have k0:=(mO.block _ (by omega)).trans hG0;have k1:=(mO.block _ (by omega)).trans Ch;have yo:∀ob,(w1.alloc ob).heap[w.heap.size]?=AI (Ib (tH here (sh ps ns cs) (sh pm nm cm) px py pz ph pq (sh pw nw cw)) 87 (0,0)):=λob=>by rw[Iv _ _ _ (by omega)];exact k0
 have uN:∀ob,(w1.alloc ob).heap[w.heap.size+1]?=AI (Ib #[I name,O J mQ] 60 (0,0)):=λob=>by rw[Iv _ _ _ (by omega)];exact k1
 have d0:∀ob,(w1.alloc ob).cell? ⟨w.heap.size,0,U⟩=AI (I here):=λob=>fi (yo ob) 0;have d1:∀ob,(w1.alloc ob).cell? ⟨w.heap.size,1,U⟩=AI (sh ps ns cs):=λob=>fi (yo ob) 1;have d2:∀ob,(w1.alloc ob).cell? ⟨w.heap.size,2,U⟩=AI (sh pm nm cm):=λob=>fi (yo ob) 2;have d3:∀ob,(w1.alloc ob).cell? ⟨w.heap.size,3,U⟩=AI (O J px):=λob=>fi (yo ob) 3;have d4:∀ob,(w1.alloc ob).cell? ⟨w.heap.size,4,U⟩=AI (O J py):=λob=>fi (yo ob) 4;have d5:∀ob,(w1.alloc ob).cell? ⟨w.heap.size,5,U⟩=AI (O J pz):=λob=>fi (yo ob) 5;have d6:∀ob,(w1.alloc ob).cell? ⟨w.heap.size,6,U⟩=AI (O J ph):=λob=>fi (yo ob) 6;have d7:∀ob,(w1.alloc ob).cell? ⟨w.heap.size,7,U⟩=AI (O J pq):=λob=>fi (yo ob) 7;have d8:∀ob,(w1.alloc ob).cell? ⟨w.heap.size,8,U⟩=AI (sh pw nw cw):=λob=>fi (yo ob) 8;have q0:∀ob,(w1.alloc ob).cell? ⟨w.heap.size+1,0,U⟩=AI (I name):=λob=>fi (uN ob) 0;have q1:∀ob,(w1.alloc ob).cell? ⟨w.heap.size+1,1,U⟩=AI (O J mQ):=λob=>fi (uN ob) 1;have xi:Hid (∀ob,Below w.heap.size w (w1.alloc ob)):=λob=>mY.out.alloc (by omega) ob;clear yo uN k0 k1 hG0 Ch rj mO;by_cases h8:PE=8
 .obtain⟨r1,r2⟩:=HA8.out h8
  have H1:Hid _:=r1;have H2:Hid _:=r2;clear r1 r2 HA8 DG AB Rt;subst h8;go_wp2_with fail;go_ret2;exact⟨sh U 0 0,by rw[H2.out];rfl,by rw[H1.out];exact Rc.nh _ _,xi.out _⟩
 .have g8:(PE==8)=false:=by simpa using h8
  by_cases h0:PE=0
  .have Ae:Hid _:=AB.out h0
   have TP:Hid _:=Rt.out h0;clear HA8 DG AB Rt g8 h8;subst h0;go_wp2_with fail;refine Calls.mono (HR.out _ (HS.out.below (xi.out _)) (HM.out.below (xi.out _)) (HW.out.below (xi.out _))) ?_;rintro e w2 ⟨v,rfl,ho,mZ⟩;have nR:Hid _:=(xi.out _).trans (mZ.mono (by simp<;>omega));have sI:Hid (Rc.Own w.heap.size w2 v A.rs):=ho.mono (by simp<;>omega);clear ho mZ;obtain⟨ars,acd,ae⟩:=A;simp only at *;by_cases he:ae=0
   .obtain⟨r1,r2⟩:=TP.out he
    have H1:Hid _:=r1;have H2:Hid _:=r2;clear r1 r2 Ae TP;subst he;go_wp2_with fail;go_ret2;exact⟨v,by rw[H2.out];rfl,by rw[H1.out];exact sI.out,nR.out⟩
   .obtain⟨r1,r2⟩:=Ae.out he
    have H1:Hid _:=r1;have H2:Hid _:=r2;have Am:(ae !=0)=true:=by simpa using he
    clear r1 r2 Ae TP;go_wp2_with fail;go_ret2;exact⟨sh U 0 0,by rw[H2.out];rfl,by rw[H1.out];exact Rc.nh _ _,nR.out⟩
  .obtain⟨r1,r2⟩:=DG.out h8 h0
   have H1:Hid _:=r1;have H2:Hid _:=r2;have g0:(PE !=0)=true:=by simpa using h0
   clear r1 r2 HA8 DG AB Rt;go_wp2_with fail;go_ret2;exact⟨sh U 0 0,by rw[H2.out];rfl,by rw[H1.out];exact Rc.nh _ _,xi.out _⟩
theorem WI{P:Prop}(h:P:=by
 go_wp2_with fail;refine IE (v:=Iu #[O J 0,Ic false,Ic false,O J 1,I ⟨#[]⟩,O J 1,sh U 0 0]) ?_ rfl ⟨sh U 0 0,by rw[HP.out],by rw[HP.out];exact Rc.nh _ _,?_⟩
 .simp[results,results80,go_sem,z0,z1,z2,z3,z4,z5,z6]
 .exact((((((((xi.out _).setCell (p:=⟨w.heap.size+1,0,U⟩) (by simp<;>omega) _).setCell (p:=⟨w.heap.size+1,1,U⟩) (by simp<;>omega) _).setCell (p:=⟨w.heap.size+1,2,U⟩) (by simp<;>omega) _).setCell (p:=⟨w.heap.size+1,3,U⟩) (by simp<;>omega) _).setCell (p:=⟨w.heap.size+1,4,U⟩) (by simp<;>omega) _).setCell (p:=⟨w.heap.size+1,5,U⟩) (by simp<;>omega) _).setCell (p:=⟨w.heap.size+1,6,U⟩) (by simp<;>omega) _)):P:=h
theorem Mb(here:ByteArray)(ps pm pw:Option Addr)(ns cs nm cm nw cw:Nat)(px py pz ph pq:Int)(s:ByteArray)(sv:List Sv.nj)(ms:List Mem)(wh:List Wh.nZ)(w:World)(zK:ML w)(hk:B4 here sv ms ⟨px,py,pz,ph,pq⟩ wh)(hs:Sv.Sl w (sh ps ns cs) sv)(hm:Sl w (sh pm nm cm) ms)(hw:Wh.Sl w (sh pw nw cw) wh) :
 Calls AT 80 #[Iu (tH here (sh ps ns cs) (sh pm nm cm) px py pz ph pq (sh pw nw cw)),I s] w λe w'=>∃v,e=Ia (Iu #[O J 0,Ic false,Ic false,O J (rD s here sv ms ⟨px,py,pz,ph,pq⟩ wh).code,I (rD s here sv ms ⟨px,py,pz,ph,pq⟩ wh).R,O J (rD s here sv ms ⟨px,py,pz,ph,pq⟩ wh).mQ,v])/\Rc.Own w.heap.size w' v (rD s here sv ms ⟨px,py,pz,ph,pq⟩ wh).rs/\Below w.heap.size w w':=by
 have HS:Hid (Sv.Sl _ _ _):=hs;have HM:Hid (Sl _ _ _):=hm;have HW:Hid (Wh.Sl _ _ _):=hw;have HRD:Hid (∀W,Calls _ _ _ _ _):=λW=>ae4 s W;have hAT:=λ(name:ByteArray) (mQ:Int) (W:World) (h:ML W) (h2:name.size<=Il) (a1:Sv.Sl W (sh ps ns cs) sv) (a2:Sl W (sh pm nm cm) ms) (a3:Wh.Sl W (sh pw nw cw) wh)=>Ma here ps pm pw ns cs nm cm nw cw px py pz ph pq name mQ sv ms wh W h h2 hk a1 a2 a3;have vu:Hid _:=hAT;have KA:Hid (ML w):=zK;have HN:Hid (xz s=U->rD s here sv ms ⟨px,py,pz,ph,pq⟩ wh=⟨1,1,⟨#[]⟩,[]⟩):=λh=>by unfold rD;rw[h]
 have HF:Hid (∀M,xz s=AI M->M.rs.length≠0->rD s here sv ms ⟨px,py,pz,ph,pq⟩ wh=⟨1,1,⟨#[]⟩,[]⟩):=λM h h2=>by unfold rD;rw[h];simp only;rw[if_neg h2]
 have HY:Hid (∀M,xz s=AI M->M.rs.length=0->rD s here sv ms ⟨px,py,pz,ph,pq⟩ wh=⟨vW M.R M.mQ here sv ms ⟨px,py,pz,ph,pq⟩ wh,M.mQ,M.R,uF M.R M.mQ here sv ms ⟨px,py,pz,ph,pq⟩ wh⟩):=λM h h2=>by unfold rD;rw[h];simp only;rw[if_pos h2]
 have HX:Hid (∀M,xz s=AI M->CY s=0/\M.R.size<=Il):=λM h=>by
  have hc:=B8 h;refine⟨?_,by have:=(qb (oM hc).2.1).1;unfold Il;omega⟩;unfold xz at h;by_cases h2:s.size<=512/\vQ s=0
  .unfold CY;rw[if_pos h2.1,if_pos h2.2]
  .rw[if_neg h2] at h;cases h
 have HXN:Hid (xz s=U->CY s≠0):=λh=>by
  unfold CY;by_cases h1:s.size<=512
  .rw[if_pos h1]
   by_cases h2:vQ s=0
   .exfalso
    unfold xz at h;rw[if_pos ⟨h1,h2⟩] at h;unfold vQ at h2;rw[h] at h2;exact absurd h2 (by decide)
   .rw[if_neg h2];decide
  .rw[if_neg h1];decide
 clear hs hm hw hAT hk zK;generalize rD s here sv ms ⟨px,py,pz,ph,pq⟩ wh=RPM at *;go_enter func80,ntmps80;go_wp2_with fail;obtain⟨W,hW⟩:∃W,W=(w.alloc (Ib (tH here (sh ps ns cs) (sh pm nm cm) px py pz ph pq (sh pw nw cw)) 87)).alloc (Ib #[O J 0,Ic false,Ic false,O J 0,I ⟨#[]⟩,O J 0,sh U 0 0] 63):=⟨_,rfl⟩;rw[<- hW];have rj:Below w.heap.size w W:=by rw[hW];exact((If _ _).alloc (By _) _).alloc (by simp) _
 have Kj:Hid (W.heap[w.heap.size]?=AI (Ib (tH here (sh ps ns cs) (sh pm nm cm) px py pz ph pq (sh pw nw cw)) 87 (0,0))):=by rw[hW,Iv _ _ _ (by simp)];exact Ii w _
 have Ch:W.heap[w.heap.size+1]?=AI (Ib #[O J 0,Ic false,Ic false,O J 0,I ⟨#[]⟩,O J 0,sh U 0 0] 63 (0,0)):=by
  rw[hW];have h:=Ii (w.alloc (Ib (tH here (sh ps ns cs) (sh pm nm cm) px py pz ph pq (sh pw nw cw)) 87)) (Ib #[O J 0,Ic false,Ic false,O J 0,I ⟨#[]⟩,O J 0,sh U 0 0] 63);simpa using h
 have vF:Hid _:=Ch;have CB:w.heap.size+2<=W.heap.size:=by rw[hW];simp
 clear hW Ch;refine Calls.mono (HRD.out W) ?_;intro e w1 hrd;obtain⟨i,a,c,o,r,y,p,l,k,rfl,WJ,mO⟩:=L5 hrd;have sj:=mO.size;have mY:Hid _:=rj.trans (mO.mono (by omega));have yo:∀ob,(w1.alloc ob).heap[w.heap.size]?=AI (Ib (tH here (sh ps ns cs) (sh pm nm cm) px py pz ph pq (sh pw nw cw)) 87 (0,0)):=λob=>by rw[Iv _ _ _ (by omega),mO.block _ (by omega)];exact Kj.out
 have uN:∀ob,(w1.alloc ob).heap[w.heap.size+1]?=AI (Ib #[O J 0,Ic false,Ic false,O J 0,I ⟨#[]⟩,O J 0,sh U 0 0] 63 (0,0)):=λob=>by rw[Iv _ _ _ (by omega),mO.block _ (by omega)];exact vF.out
 have uC:Hid _:=uN;have d0:∀ob,(w1.alloc ob).cell? ⟨w.heap.size,0,U⟩=AI (I here):=λob=>fi (yo ob) 0;have d1:∀ob,(w1.alloc ob).cell? ⟨w.heap.size,1,U⟩=AI (sh ps ns cs):=λob=>fi (yo ob) 1;have d2:∀ob,(w1.alloc ob).cell? ⟨w.heap.size,2,U⟩=AI (sh pm nm cm):=λob=>fi (yo ob) 2;have d3:∀ob,(w1.alloc ob).cell? ⟨w.heap.size,3,U⟩=AI (O J px):=λob=>fi (yo ob) 3;have d4:∀ob,(w1.alloc ob).cell? ⟨w.heap.size,4,U⟩=AI (O J py):=λob=>fi (yo ob) 4;have d5:∀ob,(w1.alloc ob).cell? ⟨w.heap.size,5,U⟩=AI (O J pz):=λob=>fi (yo ob) 5;have d6:∀ob,(w1.alloc ob).cell? ⟨w.heap.size,6,U⟩=AI (O J ph):=λob=>fi (yo ob) 6;have d7:∀ob,(w1.alloc ob).cell? ⟨w.heap.size,7,U⟩=AI (O J pq):=λob=>fi (yo ob) 7;have d8:∀ob,(w1.alloc ob).cell? ⟨w.heap.size,8,U⟩=AI (sh pw nw cw):=λob=>fi (yo ob) 8;have z0:∀ob,(w1.alloc ob).cell? ⟨w.heap.size+1,0,U⟩=AI (O J 0):=λob=>fi (uN ob) 0;have z1:∀ob,(w1.alloc ob).cell? ⟨w.heap.size+1,1,U⟩=AI (Ic false):=λob=>fi (uN ob) 1;have z2:∀ob,(w1.alloc ob).cell? ⟨w.heap.size+1,2,U⟩=AI (Ic false):=λob=>fi (uN ob) 2;have z3:∀ob,(w1.alloc ob).cell? ⟨w.heap.size+1,3,U⟩=AI (O J 0):=λob=>fi (uN ob) 3;have z4:∀ob,(w1.alloc ob).cell? ⟨w.heap.size+1,4,U⟩=AI (I ⟨#[]⟩):=λob=>fi (uN ob) 4;have z5:∀ob,(w1.alloc ob).cell? ⟨w.heap.size+1,5,U⟩=AI (O J 0):=λob=>fi (uN ob) 5;have z6:∀ob,(w1.alloc ob).cell? ⟨w.heap.size+1,6,U⟩=AI (sh U 0 0):=λob=>fi (uN ob) 6;have zz0:∀ob,(w1.alloc ob).frozen? ⟨w.heap.size+1,0,U⟩=false:=λob=>by simp[Ij,uN ob]
 have zz1:∀ob,(w1.alloc ob).frozen? ⟨w.heap.size+1,1,U⟩=false:=λob=>by simp[Ij,uN ob]
 have zz2:∀ob,(w1.alloc ob).frozen? ⟨w.heap.size+1,2,U⟩=false:=λob=>by simp[Ij,uN ob]
 have zz3:∀ob,(w1.alloc ob).frozen? ⟨w.heap.size+1,3,U⟩=false:=λob=>by simp[Ij,uN ob]
 have zz4:∀ob,(w1.alloc ob).frozen? ⟨w.heap.size+1,4,U⟩=false:=λob=>by simp[Ij,uN ob]
 have zz5:∀ob,(w1.alloc ob).frozen? ⟨w.heap.size+1,5,U⟩=false:=λob=>by simp[Ij,uN ob]
 have zz6:∀ob,(w1.alloc ob).frozen? ⟨w.heap.size+1,6,U⟩=false:=λob=>by simp[Ij,uN ob]
 have xi:Hid (∀ob,Below w.heap.size w (w1.alloc ob)):=λob=>mY.out.alloc (by omega) ob;clear yo uN rj mO hrd HRD;have Nj:(CY s≠0/\RPM=⟨1,1,⟨#[]⟩,[]⟩)\/(CY s=0/\0<l/\RPM=⟨1,1,⟨#[]⟩,[]⟩)\/(CY s=0/\l=0/\RPM=⟨vW r y here sv ms ⟨px,py,pz,ph,pq⟩ wh,y,r,uF r y here sv ms ⟨px,py,pz,ph,pq⟩ wh⟩/\r.size<=Il):=by
  have hv:=WJ.out;cases h:xz s with
  |none=>exact .inl ⟨HXN.out h,HN.out h⟩
  |some M=>
   rw[h] at hv;obtain⟨v,DA,_,hx⟩:=hv;have hl:l=M.rs.length/\r=M.R/\y=M.mQ:=by
    obtain⟨_,_,he,_,_⟩:=DA;simp only[he,Array.mk.injEq,List.cons.injEq,Value.int.injEq,Value.string.injEq,Value.slice.injEq,true_and,and_true] at hx;obtain⟨_,_,_,_,h5,h6,_,h8,_⟩:=hx;exact⟨h8,h5,h6⟩
   obtain⟨e1,e2,e3⟩:=hl;obtain⟨x1,x2⟩:=HX.out M h;by_cases h0:M.rs.length=0
   .exact .inr (.inr ⟨x1,by omega,by rw[e2,e3];exact HY.out M h h0,by rw[e2];exact x2⟩)
   .exact .inr (.inl ⟨x1,by omega,HF.out M h h0⟩)
 clear WJ HN HF HY HX HXN;generalize CY s=X at *;rcases Nj with⟨h1,h2⟩|⟨h1,h3,h2⟩|⟨h1,h3,h2,h4⟩
 .have HP:Hid _:=h2
  have RI:(X !=0)=true:=by simpa using h1
  clear h2;exact WI
 .have HP:Hid _:=h2
  clear h2;subst h1;exact WI
 .have HP:Hid _:=h2
  have NQ:Hid _:=h4;clear h2 h4;subst h1 h3;go_wp2_with fail;refine Calls.mono (vu.out r y _ (KA.out.below (xi.out _)) NQ.out (HS.out.below (xi.out _)) (HM.out.below (xi.out _)) (HW.out.below (xi.out _))) ?_;rintro e w2 ⟨v,rfl,ho,mZ⟩;obtain⟨pv,cv,rfl⟩:=wB ho;have AP:w1.heap.size+1<=w2.heap.size:=by have:=mZ.size;simpa using this
  have nR:Hid _:=(xi.out _).trans (mZ.mono (by simp<;>omega));have sI:Hid (Rc.Own (w1.heap.size+1) w2 (sh pv (uF r y here sv ms ⟨px,py,pz,ph,pq⟩ wh).length cv) (uF r y here sv ms ⟨px,py,pz,ph,pq⟩ wh)):=by
   have h:=ho;rw[show(w1.alloc (Ib #[O J i,Ic a,Ic c,O J o,I r,O J y,sh p 0 k] 63)).heap.size=w1.heap.size+1 by simp] at h;exact h
  have k1:=(mZ.block _ (by simp<;>omega)).trans (uC.out _);have k9:=(mZ.block _ (by simp)).trans (Ii w1 _);have x0:=fi k1 0;have xx0:w2.frozen? ⟨w.heap.size+1,0,U⟩=false:=by simp[Ij,k1]
  have x1:=fi k1 1;have xx1:w2.frozen? ⟨w.heap.size+1,1,U⟩=false:=by simp[Ij,k1]
  have x2:=fi k1 2;have xx2:w2.frozen? ⟨w.heap.size+1,2,U⟩=false:=by simp[Ij,k1]
  have x3:=fi k1 3;have xx3:w2.frozen? ⟨w.heap.size+1,3,U⟩=false:=by simp[Ij,k1]
  have x4:=fi k1 4;have xx4:w2.frozen? ⟨w.heap.size+1,4,U⟩=false:=by simp[Ij,k1]
  have x5:=fi k1 5;have xx5:w2.frozen? ⟨w.heap.size+1,5,U⟩=false:=by simp[Ij,k1]
  have x6:=fi k1 6;have xx6:w2.frozen? ⟨w.heap.size+1,6,U⟩=false:=by simp[Ij,k1]
  have m4:=fi k9 4;have m5:=fi k9 5;clear k1 k9 mZ ho;generalize uF r y here sv ms ⟨px,py,pz,ph,pq⟩ wh=AL at *;generalize vW r y here sv ms ⟨px,py,pz,ph,pq⟩ wh=AC at *;have Mq:Hid (∀g,(Value.slice pv AL.length cv).ownBlock=AI g->g≠w.heap.size+1):=λg h=>by have:=(World.ownsRow.lt sI.out g h).1;omega
  go_wp2_with fail;refine IE (v:=Iu #[O J 0,Ic false,Ic false,O J AC,I r,O J y,sh pv AL.length cv]) ?_ rfl ⟨sh pv AL.length cv,by rw[HP.out],?_,?_⟩
  .simp[results,results80,go_sem,x0,x1,x2,x3,x4,x5,x6]
  .rw[HP.out]
   refine Rc.Own.mono (base:=w1.heap.size+1) ?_ (by omega);have h:=sI.out;rcases h.2 with⟨hv,h0⟩|⟨g,c',cur,hv,qa,hg,aev⟩
   .exact⟨h.1,.inl ⟨hv,h0⟩⟩
   .refine⟨h.1,.inr ⟨g,c',cur,hv,qa,?_,aev⟩⟩
    have nK:=Mq.out g (by rw[hv];rfl);have TQ:=nK;rw[IC _ _ _ g TQ,IC _ _ _ g TQ,IC _ _ _ g TQ,IC _ _ _ g TQ,IC _ _ _ g TQ,IC _ _ _ g TQ,IC _ _ _ g TQ];exact hg
  .exact(((((((nR.out.setCell (p:=⟨w.heap.size+1,0,U⟩) (by simp<;>omega) _).setCell (p:=⟨w.heap.size+1,1,U⟩) (by simp<;>omega) _).setCell (p:=⟨w.heap.size+1,2,U⟩) (by simp<;>omega) _).setCell (p:=⟨w.heap.size+1,3,U⟩) (by simp<;>omega) _).setCell (p:=⟨w.heap.size+1,4,U⟩) (by simp<;>omega) _).setCell (p:=⟨w.heap.size+1,5,U⟩) (by simp<;>omega) _).setCell (p:=⟨w.heap.size+1,6,U⟩) (by simp<;>omega) _)
def vc(s here:ByteArray)(sv:List Sv.nj)(ms:List Mem)(p:Pl)(wh:List Wh.nZ):ByteArray:=if Ab here sv ms p wh=0 then(if pJ s=true then⟨#[]⟩ else Gi s here sv ms p wh) else⟨#[]⟩
def B9(s here:ByteArray)(sv:List Sv.nj)(ms:List Mem)(p:Pl)(wh:List Wh.nZ):Bool:=if Ab here sv ms p wh=0 then !pJ s else false
theorem aid:∀n:Fin 256,(bits BinOp.and IntKind.u8 ((n.val:Nat):Int) 128 !=0)=decide (128<=n.val):=by decide +kernel
theorem amg(x:UInt8):(bits BinOp.and IntKind.u8 ((x.toNat:Nat):Int) 128 !=0)=decide (128<=x.toNat):=aid ⟨x.toNat,x.toNat_lt⟩
theorem awk:∀a b:Fin 256,bits BinOp.or IntKind.i64 (OT (OT ((a.val:Nat):Int)*256)) (OT ((b.val:Nat):Int))=256*((a.val:Nat):Int)+((b.val:Nat):Int):=by decide +kernel
theorem or8(a b:UInt8):bits BinOp.or IntKind.i64 (OT (OT ((a.toNat:Nat):Int)*256)) (OT ((b.toNat:Nat):Int))=256*((a.toNat:Nat):Int)+((b.toNat:Nat):Int):=awk ⟨a.toNat,a.toNat_lt⟩ ⟨b.toNat,b.toNat_lt⟩
theorem byte_at(s:ByteArray)(k:Nat)(h:k<s.size):s[k]=s.data.toList.getD k 0:=by
 have h2:k<s.data.toList.length:=by simpa using h
 rw[Ip,Ih h2];rfl
theorem WK{P:Prop}(h:P:=by
 go_enter func35,ntmps35;go_wp2_with fail;go_ret3
 have e1:TX=⟨#[]⟩:=by rw[<- HTX.out,HQ.out];rfl
 have e2:OB=false:=by rw[<- HOB.out,HQ.out];rfl
 exact⟨by rw[e1,e2];rfl,(If _ _).alloc (By _) _⟩):P:=h
theorem TR(here:ByteArray)(ps pm pw:Option Addr)(ns cs nm cm nw cw:Nat)(px py pz ph pq:Int)(s:ByteArray)(sv:List Sv.nj)(ms:List Mem)(wh:List Wh.nZ)(w:World)(zK:ML w)(hk:B4 here sv ms ⟨px,py,pz,ph,pq⟩ wh)(hs:Sv.Sl w (sh ps ns cs) sv)(hm:Sl w (sh pm nm cm) ms)(hw:Wh.Sl w (sh pw nw cw) wh) :
 Calls AT 35 #[Iu (tH here (sh ps ns cs) (sh pm nm cm) px py pz ph pq (sh pw nw cw)),I s] w λe w'=>e=Ia (Ir #[I (if pJ s=true then⟨#[]⟩ else Gi s here sv ms ⟨px,py,pz,ph,pq⟩ wh),Ic (!pJ s),O J 0])/\Below w.heap.size w w':=by
 have HS:Hid (Sv.Sl _ _ _):=hs;have HM:Hid (Sl _ _ _):=hm;have HW:Hid (Wh.Sl _ _ _):=hw;have hMS:=λ(W:World) (h:ML W) (a1:Sv.Sl W (sh ps ns cs) sv) (a2:Sl W (sh pm nm cm) ms) (a3:Wh.Sl W (sh pw nw cw) wh)=>Mb here ps pm pw ns cs nm cm nw cw px py pz ph pq s sv ms wh W h hk a1 a2 a3;have Kz:Hid _:=hMS;have KA:Hid (ML w):=zK;have tR:=L9 (s:=s) hk;have HFE:Hid _:=WH tR (PF s);have HRT:Hid (Gi s here sv ms ⟨px,py,pz,ph,pq⟩ wh=vL (uS s) (rD s here sv ms ⟨px,py,pz,ph,pq⟩ wh).code (rD s here sv ms ⟨px,py,pz,ph,pq⟩ wh).mQ true false (rD s here sv ms ⟨px,py,pz,ph,pq⟩ wh).R (rD s here sv ms ⟨px,py,pz,ph,pq⟩ wh).rs 512):=rfl;have NQ:Hid ((rD s here sv ms ⟨px,py,pz,ph,pq⟩ wh).R.size<=Il):=by have h:=(qb tR.name).1;show _<=_;unfold Il;omega
 have HRO:Hid (∀r∈(rD s here sv ms ⟨px,py,pz,ph,pq⟩ wh).rs,r.ok):=λr hr=>TS (tR.rs r hr);clear hs hm hw hMS hk zK tR;generalize Gi s here sv ms ⟨px,py,pz,ph,pq⟩ wh=RTX at *;generalize rD s here sv ms ⟨px,py,pz,ph,pq⟩ wh=RPM at *;obtain⟨RC,RT,RR,RS⟩:=RPM;simp only at *;generalize hTX:(if pJ s=true then(⟨#[]⟩:ByteArray) else RTX)=TX at *;have HTX:Hid _:=hTX;generalize hOB:(!pJ s)=OB at *;have HOB:Hid _:=hOB;clear hTX hOB;by_cases h12:s.size<12
 .have HQ:Hid (pJ s=true):=by show pJ s=true;unfold pJ;simp[h12]
  have amh:(s.size:Int)<12:=by omega
  exact WK
 .have amh:¬ (s.size:Int)<12:=by omega
  have hx0:0<s.size:=by omega
  have LQ:1<s.size:=by omega
  have hx2:2<s.size:=by omega
  have mZ:=amg s[2];have HQ:Hid (pJ s=decide (128<=s[2].toNat)):=by show pJ s=_;unfold pJ;rw[byte_at s 2 hx2];simp[h12]
  have HID:Hid (uS s=256*((s[0].toNat:Nat):Int)+((s[1].toNat:Nat):Int)):=by show uS s=_;unfold uS;rw[byte_at s 0 hx0,byte_at s 1 LQ];rfl
  by_cases hq:128<=s[2].toNat
  .rw[decide_eq_true hq] at mZ HQ
   exact WK
  .rw[decide_eq_false hq] at mZ HQ
   have WL:Hid (TX=RTX):=by show TX=RTX;rw[<- HTX.out,HQ.out];rfl
   have uH:Hid (OB=true):=by show OB=true;rw[<- HOB.out,HQ.out];rfl
   clear hq HTX HOB HQ;generalize uS s=ID at *;have rj:Below w.heap.size w (w.alloc (Ib (tH here (sh ps ns cs) (sh pm nm cm) px py pz ph pq (sh pw nw cw)) 87)):=(If _ _).alloc (By _) _;go_enter func35,ntmps35;go_wp2_with fail;refine Calls.mono (Kz.out _ (KA.out.below rj) (HS.out.below rj) (HM.out.below rj) (HW.out.below rj)) ?_;rintro e w1 ⟨v,rfl,ho,mO⟩;obtain⟨pv,cv,yq⟩:=wB ho;obtain⟨nv,hnv⟩:∃nv,nv=RS.length:=⟨_,rfl⟩;have Le:RS.length<=cv:=by
    rcases ho.2 with⟨h,h0⟩|⟨g,c,cur,h,_,_,rF,_⟩
    .rw[yq] at h;injection h with _ _ h3;omega
    .rw[yq] at h;injection h with _ _ h3;omega
   subst yq;have sj:w.heap.size+1<=w1.heap.size:=by have:=mO.size;simpa using this
   have mY:Hid _:=rj.trans (mO.mono (by simp<;>omega));have Nt:Hid (Rc.Own w.heap.size w1 (sh pv RS.length cv) RS):=ho.mono (by simp<;>omega);clear ho mO hnv rj;have hy0:(0:Int)<(s.size:Int):=by omega
   have hy1:(1:Int)<(s.size:Int):=by omega
   go_wp2_with fail;go_region
   go_wp2_with fail;have Er:=(or8 s[0] s[1]).trans HID.out.symm;rw[Er];clear Er;have hbX:Below w.heap.size w (w1.alloc (Ib #[O J ID,Ic true,Ic false,O J RC,I RR,O J RT,sh pv RS.length cv] 63)).drew:=(mY.out.alloc (by omega) _).drew;have aqw:Rc.Sl (w1.alloc (Ib #[O J ID,Ic true,Ic false,O J RC,I RR,O J RT,sh pv RS.length cv] 63)).drew (sh pv RS.length cv) RS:=Rc.o7 (Nt.out.below ((If _ _).alloc (By _) _).drew) HRO.out;refine(ah8 ID RC RT 512 true false RR RS pv cv _ (KA.out.below hbX) NQ.out aqw Le).mono ?_;rintro e w2 ⟨rfl,alr⟩;have nR:Hid _:=hbX.trans (alr.mono (by simp<;>omega));rw[HFE.out,<- HRT.out];clear alr hbX aqw;go_wp2_with fail;go_ret3
   exact⟨by rw[WL.out,uH.out];rfl,nR.out⟩
theorem aaR(here:ByteArray)(ps pm pw:Option Addr)(ns cs nm cm nw cw:Nat)(px py pz ph pq:Int)(s:ByteArray)(sv:List Sv.nj)(ms:List Mem)(wh:List Wh.nZ)(w:World)(zK:ML w)(hh:here.size<=Il)(hs:Sv.Sl w (sh ps ns cs) sv)(hm:Sl w (sh pm nm cm) ms)(hw:Wh.Sl w (sh pw nw cw) wh) :
 Calls AT 10 #[I s,I here,sh ps ns cs,sh pm nm cm,Iu #[O J px,O J py,O J pz,O J ph,O J pq],sh pw nw cw] w λe w'=>e=Ia (Ir #[I (vc s here sv ms ⟨px,py,pz,ph,pq⟩ wh),Ic (B9 s here sv ms ⟨px,py,pz,ph,pq⟩ wh),O J (Ab here sv ms ⟨px,py,pz,ph,pq⟩ wh)])/\Below w.heap.size w w':=by
 have HS:Hid (Sv.Sl _ _ _):=hs;have HM:Hid (Sl _ _ _):=hm;have HW:Hid (Wh.Sl _ _ _):=hw;have KA:Hid (ML w):=zK;have yt:Hid (∀W,Sv.Sl W (sh ps ns cs) sv->Sl W (sh pm nm cm) ms->Wh.Sl W (sh pw nw cw) wh->Calls _ _ _ _ _):=λW a1 a2 a3=>Tg here ps pm pw ns cs nm cm nw cw px py pz ph pq sv ms wh W hh a1 a2 a3;have HCR:Hid (Ab here sv ms ⟨px,py,pz,ph,pq⟩ wh=0->∀W,ML W->Sv.Sl W (sh ps ns cs) sv->Sl W (sh pm nm cm) ms->Wh.Sl W (sh pw nw cw) wh->Calls AT 35 #[Iu (tH here (sh ps ns cs) (sh pm nm cm) px py pz ph pq (sh pw nw cw)),I s] W λe w'=>e=Ia (Ir #[I (if pJ s=true then⟨#[]⟩ else Gi s here sv ms ⟨px,py,pz,ph,pq⟩ wh),Ic (!pJ s),O J 0])/\Below W.heap.size W w'):=λh W h2 a1 a2 a3=>TR here ps pm pw ns cs nm cm nw cw px py pz ph pq s sv ms wh W h2 (ahM h) a1 a2 a3;have WL:Hid (Ab here sv ms ⟨px,py,pz,ph,pq⟩ wh=0->vc s here sv ms ⟨px,py,pz,ph,pq⟩ wh=(if pJ s=true then⟨#[]⟩ else Gi s here sv ms ⟨px,py,pz,ph,pq⟩ wh)/\B9 s here sv ms ⟨px,py,pz,ph,pq⟩ wh = !pJ s):=λh=>by unfold vc B9;rw[if_pos h,if_pos h];exact⟨rfl,rfl⟩
 have RY:Hid (Ab here sv ms ⟨px,py,pz,ph,pq⟩ wh≠0->vc s here sv ms ⟨px,py,pz,ph,pq⟩ wh=⟨#[]⟩/\B9 s here sv ms ⟨px,py,pz,ph,pq⟩ wh=false):=λh=>by unfold vc B9;rw[if_neg h,if_neg h];exact⟨rfl,rfl⟩
 clear hs hm hw zK;generalize vc s here sv ms ⟨px,py,pz,ph,pq⟩ wh=TX at *;generalize B9 s here sv ms ⟨px,py,pz,ph,pq⟩ wh=BX at *;generalize Ab here sv ms ⟨px,py,pz,ph,pq⟩ wh=ke at *;generalize(if pJ s=true then(⟨#[]⟩:ByteArray) else Gi s here sv ms ⟨px,py,pz,ph,pq⟩ wh)=TY at *;generalize(!pJ s)=BY at *;go_enter func10,ntmps10;go_wp2_with fail;obtain⟨W,hW⟩:∃W,W=(w.alloc (Ib #[O J px,O J py,O J pz,O J ph,O J pq] 27)).alloc (Ib (tH here (sh ps ns cs) (sh pm nm cm) px py pz ph pq (sh pw nw cw)) 87):=⟨_,rfl⟩;rw[<- hW];have rj:Below w.heap.size w W:=by rw[hW];exact((If _ _).alloc (By _) _).alloc (by simp) _
 have Ch:W.heap[w.heap.size+1]?=AI (Ib (tH here (sh ps ns cs) (sh pm nm cm) px py pz ph pq (sh pw nw cw)) 87 (0,0)):=by
  rw[hW];have h:=Ii (w.alloc (Ib #[O J px,O J py,O J pz,O J ph,O J pq] 27)) (Ib (tH here (sh ps ns cs) (sh pm nm cm) px py pz ph pq (sh pw nw cw)) 87);simpa using h
 have CB:w.heap.size+2<=W.heap.size:=by rw[hW];simp
 clear hW;refine(yt.out W (HS.out.below rj) (HM.out.below rj) (HW.out.below rj)).mono ?_;rintro e w1 ⟨rfl,mO⟩;have sj:=mO.size;have mY:Hid _:=rj.trans (mO.mono (by omega));have k1:=(mO.block _ (by omega)).trans Ch;have d0:=fi k1 0;have d1:=fi k1 1;have d2:=fi k1 2;have d3:=fi k1 3;have d4:=fi k1 4;have d5:=fi k1 5;have d6:=fi k1 6;have d7:=fi k1 7;have d8:=fi k1 8;clear k1 Ch mO rj;by_cases h0:ke=0
 .obtain⟨r1,r2⟩:=WL.out h0
  have H1:Hid _:=r1;have H2:Hid _:=r2;have awm:Hid _:=HCR.out h0;clear r1 r2 WL RY HCR;subst h0;go_wp2_with fail;refine Calls.mono (awm.out w1 (KA.out.below mY.out) (HS.out.below mY.out) (HM.out.below mY.out) (HW.out.below mY.out)) ?_;rintro e w2 ⟨rfl,mZ⟩;have nR:Hid _:=mY.out.trans (mZ.mono (by omega));clear mZ;go_wp2_with fail;go_ret3
  exact⟨by rw[H1.out,H2.out];rfl,nR.out⟩
 .obtain⟨r1,r2⟩:=RY.out h0
  have H1:Hid _:=r1;have H2:Hid _:=r2;have h0':(ke !=0)=true:=by simpa using h0
  clear r1 r2 WL RY HCR;go_wp2_with fail;go_ret3
  exact⟨by rw[H1.out,H2.out];rfl,mY.out⟩
abbrev eB:ByteArray:=⟨#[]⟩
def sw:List ByteArray->List Qu
 |[a,_,_]=>[⟨a,eB,eB,eB⟩,⟨eB,eB,a,eB⟩]
 |[a,b,c,_]=>[⟨a,eB,eB,c⟩,⟨eB,eB,a,c⟩,⟨b,a,eB,eB⟩]
 |[a,b,_,d,_]=>[⟨b,a,eB,d⟩]
 |_=>[]
theorem aie{q:Qu}(h:pt q=0):q∈sw (wS (prt q)):=by
 have hl:=WG h;obtain⟨zf,_,_,_,_,_⟩:=tX h;obtain⟨sv,tg,nd,ce⟩:=q;have mb:∀s:ByteArray,mk (bytes s)=s:=mk_data;unfold zX at zf;simp only at zf;rw[hl];unfold yE;simp only;by_cases hn:nd.size=0
 .have hs:sv.size≠0:=λhs=>by simp[hn,hs] at zf
  rw[if_pos hn,oW hs];have en:=nB hn;subst en;by_cases ht:tg.size=0<;>by_cases hc:ce.size=0
  .have et:=nB ht
   have ec:=nB hc;subst et ec;rw[rQ ht];simp only[JZ,Jt,J4,Og,mb];exact Jg
  .have et:=nB ht
   subst et;rw[rQ ht,oW hc];simp only[JZ,Jt,J4,Og,mb];exact Jg
  .have ec:=nB hc
   subst ec;rw[oW ht,rQ hc];simp only[JZ,Jt,J4,Og,mb];exact Jv _ (Jv _ Jg)
  .rw[oW ht,oW hc]
   simp only[JZ,Jt,J4,Og,mb];exact Jg
 .have hs:sv.size=0:=by
   by_cases hs:sv.size=0
   .exact hs
   .simp[hn,hs] at zf
  have ht:tg.size=0:=by
   by_cases ht:tg.size=0
   .exact ht
   .simp[hn,hs,ht] at zf
  have es:=nB hs;have et:=nB ht;subst es et;rw[if_neg hn,oW hn];by_cases hc:ce.size=0
  .have ec:=nB hc
   subst ec;rw[rQ hc];simp only[JZ,Jt,J4,Og,mb];exact Jv _ Jg
  .rw[oW hc]
   simp only[JZ,Jt,J4,Og,mb];exact Jv _ Jg
theorem aif{q:Qu}{s:ByteArray}(h:rH q=0)(hs:tN q=s):oF s=0/\nz s=q:=by
 subst hs;exact aeS h
theorem ae5{s:ByteArray}(h0:nS s=0)(hl:Wg s=qm)(h:∀q∈sw (wS s),¬ (rH q=0/\tN q=s)):oF s=1/\nz s=qE:=by
 have hn:¬ (rH (AA s)=0/\tN (AA s)=s):=λ⟨h1,h2⟩=>by
  have hq:pt (AA s)=0:=by
   by_cases hq:pt (AA s)=0
   .exact hq
   .unfold rH at h1;rw[if_neg hq] at h1;exact h1
  have Lv:tN (AA s)=prt (AA s):=if_pos h1;have hp:prt (AA s)=s:=Lv.symm.trans h2;have hm:=aie hq;rw[hp] at hm;exact h _ hm ⟨h1,h2⟩
 have he:oF s=1:=by unfold oF;rw[if_pos h0,if_pos hl,if_neg hn]
 exact⟨he,by unfold nz;rw[if_neg (by rw[he];decide)]⟩
theorem ae6{s:ByteArray}(h:s.size≠0):oO s=wS s:=if_neg h
theorem ui:(⟨#[]⟩:ByteArray).size<=Il:=by decide
theorem Gj{L:List Qu}{j:Nat}(hj:j<L.length):L.getD j qE=L[j]:=by simp[Ip,Ih hj]
theorem qK{x:ByteArray}(h:x.size<=30):x.size<=Il:=by unfold Il;omega
theorem aaS(L:List ByteArray):(∃a b c,L=[a,b,c])\/(∃a b c d,L=[a,b,c,d])\/(∃a b c d e,L=[a,b,c,d,e])\/(L.length≠3/\L.length≠4/\L.length≠5/\sw L=[]):=by
 match L with
 |[]=>exact .inr (.inr (.inr ⟨by simp,by simp,by simp,rfl⟩))
 |[_]=>exact .inr (.inr (.inr ⟨by simp,by simp,by simp,rfl⟩))
 |[_,_]=>exact .inr (.inr (.inr ⟨by simp,by simp,by simp,rfl⟩))
 |[a,b,c]=>exact .inl ⟨a,b,c,rfl⟩
 |[a,b,c,d]=>exact .inr (.inl ⟨a,b,c,d,rfl⟩)
 |[a,b,c,d,e]=>exact .inr (.inr (.inl ⟨a,b,c,d,e,rfl⟩))
 |_::_::_::_::_::_::_=>exact .inr (.inr (.inr ⟨by simp,by simp,by simp,rfl⟩))
theorem TT{P:Prop}(h:P:=by
 obtain⟨c0,c1,c2,c3⟩:=HM.out k mS wr qQ.out;have tR:=xY.out k mS;have Mt:Hid (∀W,Below W3.heap.size W3 W->W.cell? ⟨w2.heap.size,k*4,U⟩=AI (I (Ca k).service)/\W.cell? ⟨w2.heap.size,k*4+1,U⟩=AI (I (Ca k).tag)/\W.cell? ⟨w2.heap.size,k*4+2,U⟩=AI (I (Ca k).node)/\W.cell? ⟨w2.heap.size,k*4+3,U⟩=AI (I (Ca k).mM)):=λW hW=>HM.out k mS W hW;have o6:Hid (¬ (rH (Ca k)=0/\tN (Ca k)=s)->∀j,j<k+1->¬ (rH (Ca j)=0/\tN (Ca j)=s)):=λh j hj=>by
  rcases IL.1 hj with h2|rfl
  .exact hz.out j h2
  .exact h
 have HPK:Hid (Calls _ _ _ _ _):=HPO.out (Ca k) wr tR;have HHK:=HHI.out (Ca k);have HHJ:Hid _:=HHK;clear HHK tR;generalize rH (Ca k)=pe at *;generalize tN (Ca k)=ps at *;generalize Ca k=qk at *;obtain⟨qs,qt,qn,qc⟩:=qk;simp only at c0 c1 c2 c3 Mt HPK HHJ;go_wp2_with fail;refine HPK.out.mono ?_;rintro e w5 ⟨rfl,sK⟩;have qB:Hid _:=qQ.out.trans (sK.mono qQ.out.size);have XJ:Hid _:=oT.out.trans (qB.out.mono (Jw sy));obtain⟨d0,d1,d2,d3⟩:=Mt.out w5 qB.out;have s0:=(qB.out.cell (p:=⟨w.heap.size,0,U⟩) sy).trans G0;have s1:=(qB.out.cell (p:=⟨w.heap.size,1,U⟩) sy).trans G1;have s2:=(qB.out.cell (p:=⟨w.heap.size,2,U⟩) sy).trans G2;have s3:=(qB.out.cell (p:=⟨w.heap.size,3,U⟩) sy).trans G3;have t0:=(qB.out.frozen (p:=⟨w.heap.size,0,U⟩) sy).trans Y0;have t1:=(qB.out.frozen (p:=⟨w.heap.size,1,U⟩) sy).trans Y1;have t2:=(qB.out.frozen (p:=⟨w.heap.size,2,U⟩) sy).trans Y2;have t3:=(qB.out.frozen (p:=⟨w.heap.size,3,U⟩) sy).trans Y3;clear c0 c1 c2 c3 sK Mt HPK r0 r1 r2 r3 x0 x1 x2 x3;by_cases Ew:pe=0
 .subst Ew
  by_cases Lv:ps=s
  .subst Lv
   obtain⟨u1,u2⟩:=HHJ.out rfl rfl;have sr:Hid _:=u1;have te:Hid _:=u2;clear u1 u2 HHJ o6;go_wp2_with fail;exact IE (v:=Ir #[Iu #[I qs,I qt,I qn,I qc],O J 0]) (by simp[results,results21,go_sem,s0,s1,s2,s3]) rfl ⟨by rw[sr.out,te.out];try rfl,(((XJ.out.setCell (p:=⟨w.heap.size,0,U⟩) (By _) _).setCell (p:=⟨w.heap.size,1,U⟩) (By _) _).setCell (p:=⟨w.heap.size,2,U⟩) (By _) _).setCell (p:=⟨w.heap.size,3,U⟩) (By _) _⟩
  .obtain⟨k1',k2'⟩:=o0 Lv
   have tu:Hid _:=o6.out (λh=>Lv h.2);clear o6 HHJ Lv;go_wp2_with fail;exact⟨⟨k+1,by omega,by go_num,qB,tu⟩,by simp[intOf];omega⟩
 .have k1':(pe==0)=false:=by simpa using Ew
  have tu:Hid _:=o6.out (λh=>Ew h.1);clear o6 HHJ;go_wp2_with fail;exact⟨⟨k+1,by omega,by go_num,qB,tu⟩,by simp[intOf];omega⟩):P:=h
theorem Mc{P:Prop}(h:P:=by
 obtain⟨u1,u2⟩:=PG.out (λj hj=>hz.out j (by omega));have sr:Hid _:=u1;have te:Hid _:=u2;have XJ:Hid _:=oT.out.trans (qQ.out.mono (Jw sy));clear u1 u2;go_wp2_with fail;exact IE (v:=Ir #[Iu #[I ⟨#[]⟩,I ⟨#[]⟩,I ⟨#[]⟩,I ⟨#[]⟩],O J 1]) (by simp[results,results21,go_sem,r0,r1,r2,r3]) rfl ⟨by rw[sr.out,te.out];try rfl,(((XJ.out.setCell (p:=⟨w.heap.size,0,U⟩) (By _) _).setCell (p:=⟨w.heap.size,1,U⟩) (By _) _).setCell (p:=⟨w.heap.size,2,U⟩) (By _) _).setCell (p:=⟨w.heap.size,3,U⟩) (By _) _⟩):P:=h
theorem ae7{P:Prop}(h:P:=by
 go_wp2_with fail;exact IE (v:=Ir #[Iu #[I ⟨#[]⟩,I ⟨#[]⟩,I ⟨#[]⟩,I ⟨#[]⟩],O J 8]) (by simp[results,results21,go_sem,g0,g1,g2,g3]) rfl ⟨by rw[sr.out,te.out];try rfl,(((nR.out.setCell (p:=⟨w.heap.size,0,U⟩) (By _) _).setCell (p:=⟨w.heap.size,1,U⟩) (By _) _).setCell (p:=⟨w.heap.size,2,U⟩) (By _) _).setCell (p:=⟨w.heap.size,3,U⟩) (By _) _⟩):P:=h
theorem DI(s:ByteArray)(w:World)(hs:s.size<=2000000) :
 Calls AT 21 #[I s] w λe w'=>e=Ia (Ir #[Iu #[I (nz s).service,I (nz s).tag,I (nz s).node,I (nz s).mM],O J (oF s)])/\Below w.heap.size w w':=by
 have GN:Hid (∀W,Calls AT 44 #[I s] W λe w'=>e=Ia (O J (nS s))/\Below W.heap.size W w'):=λW=>rP s W hs;have HLO:Hid (∀W,Calls AT 45 #[I s] W λe w'=>∃v,e=Ia v/\Hid (nD W.heap.size w' v (oO s))/\Below W.heap.size W w'):=λW=>xM s W hs;have HA:Hid (nS s≠0->oF s=nS s/\nz s=qE):=λh0=>by
  have h1:oF s=nS s:=by unfold oF;rw[if_neg h0]
  exact⟨h1,by unfold nz;rw[if_neg (by rw[h1];exact h0)]⟩
 have TU:Hid (nS s=0->Wg s≠qm->oF s=8/\nz s=qE):=λh0 h1=>by
  have h2:oF s=8:=by unfold oF;rw[if_pos h0,if_neg h1]
  exact⟨h2,by unfold nz;rw[if_neg (by rw[h2];decide)]⟩
 have HHI:Hid (∀q,rH q=0->tN q=s->oF s=0/\nz s=q):=λq h1 h2=>aif h1 h2;have Kc:Hid (nS s=0->Wg s=qm->(∀q∈sw (wS s),¬ (rH q=0/\tN q=s))->oF s=1/\nz s=qE):=λh0 h1 h2=>ae5 h0 h1 h2;have HEM:Hid (s.size=0->Wg s≠qm):=λh=>by have:=nB h;subst this;decide
 have CI:Hid (s.size≠0->oO s=wS s):=λh=>ae6 h;have Pf:Hid (nS s=0->(wS s).length<=8/\∀x∈wS s,x.size<=30):=λh=>⟨by rw[BR];exact(qb h).2.1,CT h⟩;have HL0:Hid (s.size=0->oO s=[]):=λh=>if_pos h;have HPO:Hid (∀(q:Qu) W,q.ok->Calls AT 46 #[Iu #[I q.service,I q.tag,I q.node,I q.mM]] W λe w'=>e=Ia (Ir #[I (tN q),O J (rH q)])/\Below W.heap.size W w'):=λq W h=>yF q W h;have HLS:Hid (Wg s=(wS s).getD ((wS s).length-1) ByteArray.empty):=rfl;have hlp:=Wi s;generalize oF s=E at *;generalize nz s=Q at *;generalize nS s=C at *;generalize Wg s=la at *;generalize oO s=LA at *;generalize wS s=L at *;go_enter func21,ntmps21;go_wp2_with fail;refine(GN.out _).mono ?_;rintro e w1 ⟨rfl,mO⟩;obtain⟨f0,f1,f2,f3,mY,o8⟩:=Ll mO;obtain⟨_,ux⟩:=Ks mO;have z0:=ux 0;have z1:=ux 1;have z2:=ux 2;have z3:=ux 3;clear mO ux;by_cases h0:C=0
 .subst h0
  have HFB:Hid (la≠qm->E=8/\Q=qE):=TU.out rfl;have HNB:Hid (la=qm->(∀q∈sw L,¬ (rH q=0/\tN q=s))->E=1/\Q=qE):=Kc.out rfl;have HSB:Hid (L.length<=8/\∀x∈L,x.size<=30):=Pf.out rfl;clear TU Kc Pf;go_wp2_with fail;refine(HLO.out _).mono ?_;rintro e w2 ⟨v,rfl,HO,mZ⟩;have uK:Hid (Below w1.heap.size w1 w2):=mZ;have oR:w.heap.size<w2.heap.size:=Ix o8 uK.out.size;have nR:Hid (Below w.heap.size w w2):=mY.out.trans (uK.out.mono (Jw o8));have g0:=(uK.out.cell (p:=⟨w.heap.size,0,U⟩) o8).trans f0;have g1:=(uK.out.cell (p:=⟨w.heap.size,1,U⟩) o8).trans f1;have g2:=(uK.out.cell (p:=⟨w.heap.size,2,U⟩) o8).trans f2;have g3:=(uK.out.cell (p:=⟨w.heap.size,3,U⟩) o8).trans f3;have y0:=(uK.out.frozen (p:=⟨w.heap.size,0,U⟩) o8).trans z0;have y1:=(uK.out.frozen (p:=⟨w.heap.size,1,U⟩) o8).trans z1;have y2:=(uK.out.frozen (p:=⟨w.heap.size,2,U⟩) o8).trans z2;have y3:=(uK.out.frozen (p:=⟨w.heap.size,3,U⟩) o8).trans z3;clear f0 f1 f2 f3 z0 z1 z2 z3 mZ HLO GN HA;by_cases Ct:s.size=0
  .obtain⟨r1,r2⟩:=HFB.out (HEM.out Ct)
   have sr:Hid (E=8):=r1;have te:Hid (Q=qE):=r2;have hLA:=HL0.out Ct;subst hLA;obtain⟨pv,pc,hv⟩:∃p c,v=sh p 0 c:=by
    rcases nD.form HO.out with⟨h1,_⟩|⟨g,c,h1,_⟩
    .exact⟨U,0,h1⟩
    .exact⟨_,c,h1⟩
   subst hv;clear r1 r2 HO;exact ae7
  .have hLA:=CI.out Ct
   subst hLA;obtain⟨hL8,yC⟩:=HSB.out;obtain⟨g,c,hv,_,_,Ak,Aq⟩:∃g c,v=sh (AI ⟨g,0,U⟩) LA.length c/\LA.length<=c/\w1.heap.size<=g/\g<w2.heap.size/\∀j,j<LA.length->w2.cell? ⟨g,j,U⟩=AI (I (LA.getD j ByteArray.empty)):=by
    rcases nD.form HO.out with⟨_,h2⟩|h
    .rw[h2] at hlp;simp at hlp
    .exact h
   subst hv;have cl:=Aq (LA.length-1) (by omega);rw[<- HLS.out] at cl;have hwm:IntKind.i64.wrap ((LA.length:Int)-1)=((LA.length-1:Nat):Int):=by rw[IW];omega
   have him:((LA.length-1:Nat):Int)<(LA.length:Int):=by omega
   have aoY:(0:Int)<=((LA.length-1:Nat):Int):=by omega
   have hn0:¬ (LA.length:Int)=0:=by omega
   have hn1:((LA.length:Int)==0)=false:=by rw[beq_eq_false_iff_ne];omega
   clear HO CI HL0 HEM HSB;by_cases Hv:la=qm
   .subst Hv
    have vj:Hid ((∀q∈sw LA,¬ (rH q=0/\tN q=s))->E=1/\Q=qE):=HNB.out rfl;clear HFB HNB;rcases aaS LA with⟨a,b,d,rfl⟩|⟨a,b,d,e,rfl⟩|⟨a,b,d,e,f,rfl⟩|⟨hx3,hx4,hx5,XZ⟩
    .have k0:w2.cell? ⟨g,0,U⟩=AI (I a):=Aq 0 (by simp)
     have k1:w2.cell? ⟨g,1,U⟩=AI (I b):=Aq 1 (by simp);have kl:w2.cell? ⟨g,2,U⟩=AI (I qm):=cl;have rh:∀x∈[a,b,d],x.size<=30:=yC;clear Aq cl;go_wp2_with fail;go_region_held3 (λw'=>w'.cell? ⟨g,0,U⟩=AI (I a)) (go_keep) (fail)
     obtain⟨W3,sN⟩:∃W3,W3=(w2.alloc (Ib #[I a,I ⟨#[]⟩,I ⟨#[]⟩,I ⟨#[]⟩,I ⟨#[]⟩,I ⟨#[]⟩,I a,I ⟨#[]⟩] 67)).drew:=⟨_,rfl⟩;rw[<- sN];have AF:W3.heap[w2.heap.size]?=AI (Ib #[I a,I ⟨#[]⟩,I ⟨#[]⟩,I ⟨#[]⟩,I ⟨#[]⟩,I ⟨#[]⟩,I a,I ⟨#[]⟩] 67 (0,0)):=by rw[sN];exact Ii w2 _
     have sH:Hid (Below w2.heap.size w2 W3):=(show Below _ _ _ by rw[sN];exact((If _ _).alloc (By _) _).drew);have sy:w.heap.size<W3.heap.size:=Ix oR sH.out.size;have oT:Hid (Below w.heap.size w W3):=nR.out.trans (sH.out.mono (Jw oR));have G0:=(sH.out.cell (p:=⟨w.heap.size,0,U⟩) oR).trans g0;have G1:=(sH.out.cell (p:=⟨w.heap.size,1,U⟩) oR).trans g1;have G2:=(sH.out.cell (p:=⟨w.heap.size,2,U⟩) oR).trans g2;have G3:=(sH.out.cell (p:=⟨w.heap.size,3,U⟩) oR).trans g3;have Y0:=(sH.out.frozen (p:=⟨w.heap.size,0,U⟩) oR).trans y0;have Y1:=(sH.out.frozen (p:=⟨w.heap.size,1,U⟩) oR).trans y1;have Y2:=(sH.out.frozen (p:=⟨w.heap.size,2,U⟩) oR).trans y2;have Y3:=(sH.out.frozen (p:=⟨w.heap.size,3,U⟩) oR).trans y3;have Cb:w2.heap.size<W3.heap.size:=(Ig.1 AF).1;have HM:Hid (∀k,k<2->∀W,Below W3.heap.size W3 W->W.cell? ⟨w2.heap.size,k*4,U⟩=AI (I ((sw [a,b,d]).getD k qE).service)/\W.cell? ⟨w2.heap.size,k*4+1,U⟩=AI (I ((sw [a,b,d]).getD k qE).tag)/\W.cell? ⟨w2.heap.size,k*4+2,U⟩=AI (I ((sw [a,b,d]).getD k qE).node)/\W.cell? ⟨w2.heap.size,k*4+3,U⟩=AI (I ((sw [a,b,d]).getD k qE).mM)):=λk hk W hW=>by
      have hb:=hW.cell (p:=⟨w2.heap.size,k*4,U⟩) Cb;have mO:=hW.cell (p:=⟨w2.heap.size,k*4+1,U⟩) Cb;have mZ:=hW.cell (p:=⟨w2.heap.size,k*4+2,U⟩) Cb;have nC:=hW.cell (p:=⟨w2.heap.size,k*4+3,U⟩) Cb
      match k,hk with
      |0,_=>exact⟨(hb.trans (fi AF 0)),(mO.trans (fi AF 1)),(mZ.trans (fi AF 2)),(nC.trans (fi AF 3))⟩
      |1,_=>exact⟨(hb.trans (fi AF 4)),(mO.trans (fi AF 5)),(mZ.trans (fi AF 6)),(nC.trans (fi AF 7))⟩
     have xY:Hid (∀k,k<2->((sw [a,b,d]).getD k qE).ok):=λk hk=>by
      match k,hk with
      |0,_=>exact⟨qK (rh a (by simp)),ui,ui,ui⟩
      |1,_=>exact⟨ui,ui,qK (rh a (by simp)),ui⟩
     have PG:Hid ((∀j,j<2->¬ (rH ((sw [a,b,d]).getD j qE)=0/\tN ((sw [a,b,d]).getD j qE)=s))->E=1/\Q=qE):=λh=>vj.out (λq hq=>by
      obtain⟨j,hj,rfl⟩:=I2 hq;have DY:j<2:=hj;have:=h j DY
      rwa [Gj hj] at this)
     generalize oH:(λj=>(sw [a,b,d]).getD j qE)=Ca at *;have PH:∀j,(sw [a,b,d]).getD j qE=Ca j:=λj=>by rw[<- oH]
     simp only[PH] at HM xY PG;clear oH PH vj AF sN rh g0 y0 g1 y1 g2 y2 g3 y3;go_wp2_with fail;go_loopw [7] (λi wr=>∃k:Nat,k<=2/\i=O J k/\Hid (Below W3.heap.size W3 wr)/\Hid (∀j,j<k->¬ (rH (Ca j)=0/\tN (Ca j)=s))) (λi _=>2-(intOf i).toNat)
     case atStart=>exact⟨0,Iw _,rfl,If _ _,λj h=>absurd h (IV _)⟩
     case round=>
      obtain⟨k,hk,rfl,qQ,hz⟩:=hrel;have r0:=(qQ.out.cell (p:=⟨w.heap.size,0,U⟩) sy).trans G0;have r1:=(qQ.out.cell (p:=⟨w.heap.size,1,U⟩) sy).trans G1;have r2:=(qQ.out.cell (p:=⟨w.heap.size,2,U⟩) sy).trans G2;have r3:=(qQ.out.cell (p:=⟨w.heap.size,3,U⟩) sy).trans G3;have x0:=(qQ.out.frozen (p:=⟨w.heap.size,0,U⟩) sy).trans Y0;have x1:=(qQ.out.frozen (p:=⟨w.heap.size,1,U⟩) sy).trans Y1;have x2:=(qQ.out.frozen (p:=⟨w.heap.size,2,U⟩) sy).trans Y2;have x3:=(qQ.out.frozen (p:=⟨w.heap.size,3,U⟩) sy).trans Y3;by_cases mS:k<2
      .exact TT
      .exact Mc
    .have k0:w2.cell? ⟨g,0,U⟩=AI (I a):=Aq 0 (by simp)
     have k1:w2.cell? ⟨g,1,U⟩=AI (I b):=Aq 1 (by simp);have k2:w2.cell? ⟨g,2,U⟩=AI (I d):=Aq 2 (by simp);have kl:w2.cell? ⟨g,3,U⟩=AI (I qm):=cl;have rh:∀x∈[a,b,d,e],x.size<=30:=yC;clear Aq cl;go_wp2_with fail;go_region_held3 (λw'=>w'.cell? ⟨g,0,U⟩=AI (I a)/\w'.cell? ⟨g,1,U⟩=AI (I b)/\w'.cell? ⟨g,2,U⟩=AI (I d)) (go_keep) (fail)
     obtain⟨W3,sN⟩:∃W3,W3=(w2.alloc (Ib #[I a,I ⟨#[]⟩,I ⟨#[]⟩,I d,I ⟨#[]⟩,I ⟨#[]⟩,I a,I d,I b,I a,I ⟨#[]⟩,I ⟨#[]⟩] 67)).drew:=⟨_,rfl⟩;rw[<- sN];have AF:W3.heap[w2.heap.size]?=AI (Ib #[I a,I ⟨#[]⟩,I ⟨#[]⟩,I d,I ⟨#[]⟩,I ⟨#[]⟩,I a,I d,I b,I a,I ⟨#[]⟩,I ⟨#[]⟩] 67 (0,0)):=by rw[sN];exact Ii w2 _
     have sH:Hid (Below w2.heap.size w2 W3):=(show Below _ _ _ by rw[sN];exact((If _ _).alloc (By _) _).drew);have sy:w.heap.size<W3.heap.size:=Ix oR sH.out.size;have oT:Hid (Below w.heap.size w W3):=nR.out.trans (sH.out.mono (Jw oR));have G0:=(sH.out.cell (p:=⟨w.heap.size,0,U⟩) oR).trans g0;have G1:=(sH.out.cell (p:=⟨w.heap.size,1,U⟩) oR).trans g1;have G2:=(sH.out.cell (p:=⟨w.heap.size,2,U⟩) oR).trans g2;have G3:=(sH.out.cell (p:=⟨w.heap.size,3,U⟩) oR).trans g3;have Y0:=(sH.out.frozen (p:=⟨w.heap.size,0,U⟩) oR).trans y0;have Y1:=(sH.out.frozen (p:=⟨w.heap.size,1,U⟩) oR).trans y1;have Y2:=(sH.out.frozen (p:=⟨w.heap.size,2,U⟩) oR).trans y2;have Y3:=(sH.out.frozen (p:=⟨w.heap.size,3,U⟩) oR).trans y3;have Cb:w2.heap.size<W3.heap.size:=(Ig.1 AF).1;have HM:Hid (∀k,k<3->∀W,Below W3.heap.size W3 W->W.cell? ⟨w2.heap.size,k*4,U⟩=AI (I ((sw [a,b,d,e]).getD k qE).service)/\W.cell? ⟨w2.heap.size,k*4+1,U⟩=AI (I ((sw [a,b,d,e]).getD k qE).tag)/\W.cell? ⟨w2.heap.size,k*4+2,U⟩=AI (I ((sw [a,b,d,e]).getD k qE).node)/\W.cell? ⟨w2.heap.size,k*4+3,U⟩=AI (I ((sw [a,b,d,e]).getD k qE).mM)):=λk hk W hW=>by
      have hb:=hW.cell (p:=⟨w2.heap.size,k*4,U⟩) Cb;have mO:=hW.cell (p:=⟨w2.heap.size,k*4+1,U⟩) Cb;have mZ:=hW.cell (p:=⟨w2.heap.size,k*4+2,U⟩) Cb;have nC:=hW.cell (p:=⟨w2.heap.size,k*4+3,U⟩) Cb
      match k,hk with
      |0,_=>exact⟨(hb.trans (fi AF 0)),(mO.trans (fi AF 1)),(mZ.trans (fi AF 2)),(nC.trans (fi AF 3))⟩
      |1,_=>exact⟨(hb.trans (fi AF 4)),(mO.trans (fi AF 5)),(mZ.trans (fi AF 6)),(nC.trans (fi AF 7))⟩
      |2,_=>exact⟨(hb.trans (fi AF 8)),(mO.trans (fi AF 9)),(mZ.trans (fi AF 10)),(nC.trans (fi AF 11))⟩
     have xY:Hid (∀k,k<3->((sw [a,b,d,e]).getD k qE).ok):=λk hk=>by
      match k,hk with
      |0,_=>exact⟨qK (rh a (by simp)),ui,ui,qK (rh d (by simp))⟩
      |1,_=>exact⟨ui,ui,qK (rh a (by simp)),qK (rh d (by simp))⟩
      |2,_=>exact⟨qK (rh b (by simp)),qK (rh a (by simp)),ui,ui⟩
     have PG:Hid ((∀j,j<3->¬ (rH ((sw [a,b,d,e]).getD j qE)=0/\tN ((sw [a,b,d,e]).getD j qE)=s))->E=1/\Q=qE):=λh=>vj.out (λq hq=>by
      obtain⟨j,hj,rfl⟩:=I2 hq;have DY:j<3:=hj;have:=h j DY
      rwa [Gj hj] at this)
     generalize oH:(λj=>(sw [a,b,d,e]).getD j qE)=Ca at *;have PH:∀j,(sw [a,b,d,e]).getD j qE=Ca j:=λj=>by rw[<- oH]
     simp only[PH] at HM xY PG;clear oH PH vj AF sN rh g0 y0 g1 y1 g2 y2 g3 y3;go_wp2_with fail;go_loopw [7] (λi wr=>∃k:Nat,k<=3/\i=O J k/\Hid (Below W3.heap.size W3 wr)/\Hid (∀j,j<k->¬ (rH (Ca j)=0/\tN (Ca j)=s))) (λi _=>3-(intOf i).toNat)
     case atStart=>exact⟨0,Iw _,rfl,If _ _,λj h=>absurd h (IV _)⟩
     case round=>
      obtain⟨k,hk,rfl,qQ,hz⟩:=hrel;have r0:=(qQ.out.cell (p:=⟨w.heap.size,0,U⟩) sy).trans G0;have r1:=(qQ.out.cell (p:=⟨w.heap.size,1,U⟩) sy).trans G1;have r2:=(qQ.out.cell (p:=⟨w.heap.size,2,U⟩) sy).trans G2;have r3:=(qQ.out.cell (p:=⟨w.heap.size,3,U⟩) sy).trans G3;have x0:=(qQ.out.frozen (p:=⟨w.heap.size,0,U⟩) sy).trans Y0;have x1:=(qQ.out.frozen (p:=⟨w.heap.size,1,U⟩) sy).trans Y1;have x2:=(qQ.out.frozen (p:=⟨w.heap.size,2,U⟩) sy).trans Y2;have x3:=(qQ.out.frozen (p:=⟨w.heap.size,3,U⟩) sy).trans Y3;by_cases mS:k<3
      .exact TT
      .exact Mc
    .have k0:w2.cell? ⟨g,0,U⟩=AI (I a):=Aq 0 (by simp)
     have k1:w2.cell? ⟨g,1,U⟩=AI (I b):=Aq 1 (by simp);have k2:w2.cell? ⟨g,2,U⟩=AI (I d):=Aq 2 (by simp);have k3:w2.cell? ⟨g,3,U⟩=AI (I e):=Aq 3 (by simp);have kl:w2.cell? ⟨g,4,U⟩=AI (I qm):=cl;have rh:∀x∈[a,b,d,e,f],x.size<=30:=yC;clear Aq cl;go_wp2_with fail;go_region_held3 (λw'=>w'.cell? ⟨g,0,U⟩=AI (I a)/\w'.cell? ⟨g,1,U⟩=AI (I b)/\w'.cell? ⟨g,3,U⟩=AI (I e)) (go_keep) (fail)
     obtain⟨W3,sN⟩:∃W3,W3=(w2.alloc (Ib #[I b,I a,I ⟨#[]⟩,I e] 67)).drew:=⟨_,rfl⟩;rw[<- sN];have AF:W3.heap[w2.heap.size]?=AI (Ib #[I b,I a,I ⟨#[]⟩,I e] 67 (0,0)):=by rw[sN];exact Ii w2 _
     have sH:Hid (Below w2.heap.size w2 W3):=(show Below _ _ _ by rw[sN];exact((If _ _).alloc (By _) _).drew);have sy:w.heap.size<W3.heap.size:=Ix oR sH.out.size;have oT:Hid (Below w.heap.size w W3):=nR.out.trans (sH.out.mono (Jw oR));have G0:=(sH.out.cell (p:=⟨w.heap.size,0,U⟩) oR).trans g0;have G1:=(sH.out.cell (p:=⟨w.heap.size,1,U⟩) oR).trans g1;have G2:=(sH.out.cell (p:=⟨w.heap.size,2,U⟩) oR).trans g2;have G3:=(sH.out.cell (p:=⟨w.heap.size,3,U⟩) oR).trans g3;have Y0:=(sH.out.frozen (p:=⟨w.heap.size,0,U⟩) oR).trans y0;have Y1:=(sH.out.frozen (p:=⟨w.heap.size,1,U⟩) oR).trans y1;have Y2:=(sH.out.frozen (p:=⟨w.heap.size,2,U⟩) oR).trans y2;have Y3:=(sH.out.frozen (p:=⟨w.heap.size,3,U⟩) oR).trans y3;have Cb:w2.heap.size<W3.heap.size:=(Ig.1 AF).1;have HM:Hid (∀k,k<1->∀W,Below W3.heap.size W3 W->W.cell? ⟨w2.heap.size,k*4,U⟩=AI (I ((sw [a,b,d,e,f]).getD k qE).service)/\W.cell? ⟨w2.heap.size,k*4+1,U⟩=AI (I ((sw [a,b,d,e,f]).getD k qE).tag)/\W.cell? ⟨w2.heap.size,k*4+2,U⟩=AI (I ((sw [a,b,d,e,f]).getD k qE).node)/\W.cell? ⟨w2.heap.size,k*4+3,U⟩=AI (I ((sw [a,b,d,e,f]).getD k qE).mM)):=λk hk W hW=>by
      have hb:=hW.cell (p:=⟨w2.heap.size,k*4,U⟩) Cb;have mO:=hW.cell (p:=⟨w2.heap.size,k*4+1,U⟩) Cb;have mZ:=hW.cell (p:=⟨w2.heap.size,k*4+2,U⟩) Cb;have nC:=hW.cell (p:=⟨w2.heap.size,k*4+3,U⟩) Cb
      match k,hk with
      |0,_=>exact⟨(hb.trans (fi AF 0)),(mO.trans (fi AF 1)),(mZ.trans (fi AF 2)),(nC.trans (fi AF 3))⟩
     have xY:Hid (∀k,k<1->((sw [a,b,d,e,f]).getD k qE).ok):=λk hk=>by
      match k,hk with
      |0,_=>exact⟨qK (rh b (by simp)),qK (rh a (by simp)),ui,qK (rh e (by simp))⟩
     have PG:Hid ((∀j,j<1->¬ (rH ((sw [a,b,d,e,f]).getD j qE)=0/\tN ((sw [a,b,d,e,f]).getD j qE)=s))->E=1/\Q=qE):=λh=>vj.out (λq hq=>by
      obtain⟨j,hj,rfl⟩:=I2 hq;have DY:j<1:=hj;have:=h j DY
      rwa [Gj hj] at this)
     generalize oH:(λj=>(sw [a,b,d,e,f]).getD j qE)=Ca at *;have PH:∀j,(sw [a,b,d,e,f]).getD j qE=Ca j:=λj=>by rw[<- oH]
     simp only[PH] at HM xY PG;clear oH PH vj AF sN rh g0 y0 g1 y1 g2 y2 g3 y3;go_wp2_with fail;go_loopw [7] (λi wr=>∃k:Nat,k<=1/\i=O J k/\Hid (Below W3.heap.size W3 wr)/\Hid (∀j,j<k->¬ (rH (Ca j)=0/\tN (Ca j)=s))) (λi _=>1-(intOf i).toNat)
     case atStart=>exact⟨0,Iw _,rfl,If _ _,λj h=>absurd h (IV _)⟩
     case round=>
      obtain⟨k,hk,rfl,qQ,hz⟩:=hrel;have r0:=(qQ.out.cell (p:=⟨w.heap.size,0,U⟩) sy).trans G0;have r1:=(qQ.out.cell (p:=⟨w.heap.size,1,U⟩) sy).trans G1;have r2:=(qQ.out.cell (p:=⟨w.heap.size,2,U⟩) sy).trans G2;have r3:=(qQ.out.cell (p:=⟨w.heap.size,3,U⟩) sy).trans G3;have x0:=(qQ.out.frozen (p:=⟨w.heap.size,0,U⟩) sy).trans Y0;have x1:=(qQ.out.frozen (p:=⟨w.heap.size,1,U⟩) sy).trans Y1;have x2:=(qQ.out.frozen (p:=⟨w.heap.size,2,U⟩) sy).trans Y2;have x3:=(qQ.out.frozen (p:=⟨w.heap.size,3,U⟩) sy).trans Y3;by_cases mS:k<1
      .exact TT
      .exact Mc
    .have PG:Hid ((∀j,j<0->¬ (rH ((λ_=>qE) j)=0/\tN ((λ_=>qE) j)=s))->E=1/\Q=qE):=λ_=>vj.out (λq hq=>by rw[XZ] at hq;cases hq)
     obtain⟨Ca,oH⟩:∃Ca:Nat->Qu,Ca=λ_=>qE:=⟨_,rfl⟩;rw[<- oH] at PG;obtain⟨W3,sN⟩:∃W3,W3=w2:=⟨_,rfl⟩;have oT:Hid (Below w.heap.size w W3):=(show Below _ _ _ by rw[sN];exact nR.out);have sy:w.heap.size<W3.heap.size:=by rw[sN];exact oR
     rw[<- sN] at g0 g1 g2 g3 y0 y1 y2 y3 cl;rw[<- sN];have e3:((LA.length:Int)==3)=false:=by rw[beq_eq_false_iff_ne];omega
     have e4:((LA.length:Int)==4)=false:=by rw[beq_eq_false_iff_ne];omega
     have e5:((LA.length:Int)==5)=false:=by rw[beq_eq_false_iff_ne];omega
     have G0:=g0;have G1:=g1;have G2:=g2;have G3:=g3;have Y0:=y0;have Y1:=y1;have Y2:=y2;have Y3:=y3;clear Aq vj XZ oH sN HLS yC;generalize LA.length-1=m at *;generalize LA.length=n at *;go_wp2_with fail;go_loopw [7] (λi wr=>∃k:Nat,k<=0/\i=O J k/\Hid (Below W3.heap.size W3 wr)/\Hid (∀j,j<k->¬ (rH (Ca j)=0/\tN (Ca j)=s))) (λi _=>0-(intOf i).toNat)
     case atStart=>exact⟨0,Iw _,rfl,If _ _,λj h=>absurd h (IV _)⟩
     case round=>
      obtain⟨k,hk,rfl,qQ,hz⟩:=hrel;have r0:=(qQ.out.cell (p:=⟨w.heap.size,0,U⟩) sy).trans G0;have r1:=(qQ.out.cell (p:=⟨w.heap.size,1,U⟩) sy).trans G1;have r2:=(qQ.out.cell (p:=⟨w.heap.size,2,U⟩) sy).trans G2;have r3:=(qQ.out.cell (p:=⟨w.heap.size,3,U⟩) sy).trans G3;have x0:=(qQ.out.frozen (p:=⟨w.heap.size,0,U⟩) sy).trans Y0;have x1:=(qQ.out.frozen (p:=⟨w.heap.size,1,U⟩) sy).trans Y1;have x2:=(qQ.out.frozen (p:=⟨w.heap.size,2,U⟩) sy).trans Y2;have x3:=(qQ.out.frozen (p:=⟨w.heap.size,3,U⟩) sy).trans Y3;exact Mc
   .obtain⟨r1,r2⟩:=HFB.out Hv
    have sr:Hid (E=8):=r1;have te:Hid (Q=qE):=r2;obtain⟨m1,m2⟩:=Lk Hv;clear r1 r2 Aq Hv;generalize LA.length-1=m at *;generalize LA.length=n at *;exact ae7
 .obtain⟨r1,r2⟩:=HA.out h0
  have sr:Hid (E=C):=r1;have te:Hid (Q=qE):=r2;have h1:(C==0)=false:=by simpa using h0
  clear r1 r2;go_wp2_with fail;exact IE (v:=Ir #[Iu #[I ⟨#[]⟩,I ⟨#[]⟩,I ⟨#[]⟩,I ⟨#[]⟩],O J C]) (by simp[results,results21,go_sem,f0,f1,f2,f3]) rfl ⟨by rw[sr.out,te.out];try rfl,(((mY.out.setCell (p:=⟨w.heap.size,0,U⟩) (By _) _).setCell (p:=⟨w.heap.size,1,U⟩) (By _) _).setCell (p:=⟨w.heap.size,2,U⟩) (By _) _).setCell (p:=⟨w.heap.size,3,U⟩) (By _) _⟩
theorem amk(x:UInt8):decide ((128:Int)<=((x.toNat:Nat):Int))=decide (128<=x.toNat):=by
 by_cases h:128<=x.toNat
 .rw[decide_eq_true h,decide_eq_true (by omega)]
 .rw[decide_eq_false h,decide_eq_false (by omega)]
theorem idf:∀a b:Fin 256,OT (OT (256*OT ((a.val:Nat):Int))+OT ((b.val:Nat):Int))=256*((a.val:Nat):Int)+((b.val:Nat):Int):=by decide +kernel
theorem id8(a b:UInt8):OT (OT (256*OT ((a.toNat:Nat):Int))+OT ((b.toNat:Nat):Int))=256*((a.toNat:Nat):Int)+((b.toNat:Nat):Int):=idf ⟨a.toNat,a.toNat_lt⟩ ⟨b.toNat,b.toNat_lt⟩
theorem aml{name here:ByteArray}{mQ:Int}{sv:List Sv.nj}{ms:List Mem}{p:Pl}{wh:List Wh.nZ}(hk:Ab here sv ms p wh=0)(ht:qS mQ=true)(hp:oF name=0):Ru (nz name) mQ here sv ms p wh=uY (nz name) mQ here sv ms p wh:=by
 have h:=(EG (aeZ hp)).1;unfold Ru asE;simp[h,ht,hk]
theorem PI(here:ByteArray)(ps pm pw:Option Addr)(ns cs nm cm nw cw:Nat)(px py pz ph pq:Int)(s:ByteArray)(sv:List Sv.nj)(ms:List Mem)(wh:List Wh.nZ)(w:World)(hh:here.size<=Il)(hs:Sv.Sl w (sh ps ns cs) sv)(hm:Sl w (sh pm nm cm) ms)(hw:Wh.Sl w (sh pw nw cw) wh) :
 Calls AT 23 #[I s,I here,sh ps ns cs,sh pm nm cm,Iu #[O J px,O J py,O J pz,O J ph,O J pq],sh pw nw cw] w λe w'=>e=Ia (Ir #[I (vc s here sv ms ⟨px,py,pz,ph,pq⟩ wh),Ic (B9 s here sv ms ⟨px,py,pz,ph,pq⟩ wh),O J (Ab here sv ms ⟨px,py,pz,ph,pq⟩ wh)])/\Below w.heap.size w w':=by
 have HS:Hid (Sv.Sl _ _ _):=hs;have HM:Hid (Sl _ _ _):=hm;have HW:Hid (Wh.Sl _ _ _):=hw;have yt:Hid (∀W,Sv.Sl W (sh ps ns cs) sv->Sl W (sh pm nm cm) ms->Wh.Sl W (sh pw nw cw) wh->Calls _ _ _ _ _):=λW a1 a2 a3=>B5 here ps pm pw ns cs nm cm nw cw px py pz ph pq sv ms wh W hh a1 a2 a3;have HRD:Hid (∀W,Calls _ _ _ _ _):=λW=>ajA s W;have hRC:=λ(q:Qu) (t:Int) (W:World) (hq:q.ok) (a1:Sv.Sl W (sh ps ns cs) sv) (a2:Sl W (sh pm nm cm) ms) (a3:Wh.Sl W (sh pw nw cw) wh)=>FV here ps pm pw ns cs nm cm nw cw px py pz ph pq q t sv ms wh W hq hh a1 a2 a3;have NO:Hid _:=hRC;have aqz:Hid (Ab here sv ms ⟨px,py,pz,ph,pq⟩ wh=0->pJ s=false->vc s here sv ms ⟨px,py,pz,ph,pq⟩ wh=Gi s here sv ms ⟨px,py,pz,ph,pq⟩ wh/\B9 s here sv ms ⟨px,py,pz,ph,pq⟩ wh=true):=λh h2=>by unfold vc B9;rw[if_pos h,if_pos h,h2];exact⟨rfl,rfl⟩
 have HTQ:Hid (Ab here sv ms ⟨px,py,pz,ph,pq⟩ wh=0->pJ s=true->vc s here sv ms ⟨px,py,pz,ph,pq⟩ wh=⟨#[]⟩/\B9 s here sv ms ⟨px,py,pz,ph,pq⟩ wh=false):=λh h2=>by unfold vc B9;rw[if_pos h,if_pos h,h2];exact⟨rfl,rfl⟩
 have HTN:Hid (Ab here sv ms ⟨px,py,pz,ph,pq⟩ wh≠0->vc s here sv ms ⟨px,py,pz,ph,pq⟩ wh=⟨#[]⟩/\B9 s here sv ms ⟨px,py,pz,ph,pq⟩ wh=false):=λh=>by unfold vc B9;rw[if_neg h,if_neg h];exact⟨rfl,rfl⟩
 have HF0:Hid (Ab here sv ms ⟨px,py,pz,ph,pq⟩ wh=0->∀(RC RT:Int) (RR:ByteArray) (RS:List Rc.Rec) (pv:Option Addr) (cv:Nat) (W:World),rD s here sv ms ⟨px,py,pz,ph,pq⟩ wh=⟨RC,RT,RR,RS⟩->Rc.Sl W (sh pv RS.length cv) RS->RS.length<=cv->Calls AT 49 #[Iu #[O J (uS s),Ic true,Ic false,O J RC,I RR,O J RT,sh pv RS.length cv],O J 512] W λe w'=>e=Ia (Ir #[I (Gi s here sv ms ⟨px,py,pz,ph,pq⟩ wh),O J 0])/\Below W.heap.size W w'):=λh RC RT RR RS pv cv W h1 h2 h3=>by
  have tR:=L9 (s:=s) (ahM h);have e1:=WH tR (PF s);have e2:Gi s here sv ms ⟨px,py,pz,ph,pq⟩ wh=vL (uS s) (rD s here sv ms ⟨px,py,pz,ph,pq⟩ wh).code (rD s here sv ms ⟨px,py,pz,ph,pq⟩ wh).mQ true false (rD s here sv ms ⟨px,py,pz,ph,pq⟩ wh).R (rD s here sv ms ⟨px,py,pz,ph,pq⟩ wh).rs 512:=rfl;rw[e2];rw[h1] at e1 tR ⊢;refine(aaN (uS s) RC RT 512 true false RR RS pv cv W ?_ ?_ h2 h3).mono ?_
  .have:=(qb tR.name).1;simp only at this;omega
  .intro x hx
   obtain⟨z1,_,_,z4⟩:=tK (tR.rs x hx);have y1:=(qb z1).1;have y4:=(qb z4).1;omega
  .rintro e w' ⟨rfl,hb⟩
   exact⟨by rw[e1],hb⟩
 have HN:Hid (xz s=U->rD s here sv ms ⟨px,py,pz,ph,pq⟩ wh=⟨1,1,⟨#[]⟩,[]⟩):=λh=>by unfold rD;rw[h]
 have HFo:Hid (∀M,xz s=AI M->M.rs.length≠0->rD s here sv ms ⟨px,py,pz,ph,pq⟩ wh=⟨1,1,⟨#[]⟩,[]⟩):=λM h h2=>by unfold rD;rw[h];simp only;rw[if_neg h2]
 have HY:Hid (∀M,xz s=AI M->M.rs.length=0->rD s here sv ms ⟨px,py,pz,ph,pq⟩ wh=⟨vW M.R M.mQ here sv ms ⟨px,py,pz,ph,pq⟩ wh,M.mQ,M.R,uF M.R M.mQ here sv ms ⟨px,py,pz,ph,pq⟩ wh⟩):=λM h h2=>by unfold rD;rw[h];simp only;rw[if_pos h2]
 have HX:Hid (∀M,xz s=AI M->CY s=0/\M.R.size<=2000000/\qS M.mQ=true):=λM h=>by
  have hc:=B8 h;refine⟨?_,by have:=(qb (oM hc).2.1).1;omega,Gf hc⟩;unfold xz at h;by_cases h2:s.size<=512/\vQ s=0
  .unfold CY;rw[if_pos h2.1,if_pos h2.2]
  .rw[if_neg h2] at h;cases h
 have HXN:Hid (xz s=U->CY s≠0):=λh=>by
  unfold CY;by_cases h1:s.size<=512
  .rw[if_pos h1]
   by_cases h2:vQ s=0
   .exfalso
    unfold xz at h;rw[if_pos ⟨h1,h2⟩] at h;unfold vQ at h2;rw[h] at h2;exact absurd h2 (by decide)
   .rw[if_neg h2];decide
  .rw[if_neg h1];decide
 have HAR:Hid (Ab here sv ms ⟨px,py,pz,ph,pq⟩ wh=0->∀(name:ByteArray) (mQ:Int),qS mQ=true->oF name=0->Ru (nz name) mQ here sv ms ⟨px,py,pz,ph,pq⟩ wh=uY (nz name) mQ here sv ms ⟨px,py,pz,ph,pq⟩ wh):=λh name mQ h2 h3=>aml h h2 h3;have xY:Hid (Ab here sv ms ⟨px,py,pz,ph,pq⟩ wh=0->∀RC RT RR RS,rD s here sv ms ⟨px,py,pz,ph,pq⟩ wh=⟨RC,RT,RR,RS⟩->∀r∈RS,r.ok):=λh RC RT RR RS h1 r hr=>by
  have tR:=L9 (s:=s) (ahM h);rw[h1] at tR;exact TS (tR.rs r hr)
 clear hs hm hw hRC;generalize vc s here sv ms ⟨px,py,pz,ph,pq⟩ wh=TX at *;generalize B9 s here sv ms ⟨px,py,pz,ph,pq⟩ wh=BX at *;generalize Gi s here sv ms ⟨px,py,pz,ph,pq⟩ wh=RTX at *;generalize rD s here sv ms ⟨px,py,pz,ph,pq⟩ wh=RPM at *;generalize Ab here sv ms ⟨px,py,pz,ph,pq⟩ wh=ke at *;have rj:Below w.heap.size w (w.alloc (Ib #[O J px,O J py,O J pz,O J ph,O J pq] 27)):=(If _ _).alloc (By _) _;have hG0:(w.alloc (Ib #[O J px,O J py,O J pz,O J ph,O J pq] 27)).heap[w.heap.size]?=AI (Ib #[O J px,O J py,O J pz,O J ph,O J pq] 27 (0,0)):=Ii w _;have rW:Hid _:=rj;have Kj:Hid _:=hG0;clear rj hG0;by_cases Ni:ke=0
 case neg=>
  obtain⟨r1,r2⟩:=HTN.out Ni;have H1:Hid _:=r1;have H2:Hid _:=r2;have h0':(ke !=0)=true:=by simpa using Ni
  clear r1 r2;go_enter func23,ntmps23;go_wp2_with fail;refine(yt.out _ (HS.out.below rW.out) (HM.out.below rW.out) (HW.out.below rW.out)).mono ?_;rintro e w1 ⟨rfl,mO⟩;have mY:Hid _:=rW.out.trans (mO.mono (by simp<;>omega));clear mO;go_wp2_with fail;go_ret3
  exact⟨by rw[H1.out,H2.out];rfl,mY.out⟩
 case pos=>
 have amm:Hid _:=HTQ.out Ni;have ajD:Hid _:=aqz.out Ni;have HF:Hid _:=HF0.out Ni;have aqA:Hid _:=HAR.out Ni;have awq:Hid _:=xY.out Ni;subst Ni;clear HTQ aqz HF0 HAR xY HTN;by_cases h12:s.size<12
 .have hq:pJ s=true:=by unfold pJ;simp[h12]
  obtain⟨r1,r2⟩:=amm.out hq;have H1:Hid _:=r1;have H2:Hid _:=r2;clear r1 r2 hq;have amh:(s.size:Int)<12:=by omega
  go_enter func23,ntmps23;go_wp2_with fail;refine(yt.out _ (HS.out.below rW.out) (HM.out.below rW.out) (HW.out.below rW.out)).mono ?_;rintro e w1 ⟨rfl,mO⟩;have mY:Hid _:=rW.out.trans (mO.mono (by simp<;>omega));clear mO;go_wp2_with fail;go_ret3
  exact⟨by rw[H1.out,H2.out];rfl,mY.out⟩
 have amh:¬ (s.size:Int)<12:=by omega
 have hx0:0<s.size:=by omega
 have LQ:1<s.size:=by omega
 have hx2:2<s.size:=by omega
 have mZ:=amk s[2];have HQ:Hid (pJ s=decide (128<=s[2].toNat)):=by show pJ s=_;unfold pJ;rw[byte_at s 2 hx2];simp[h12]
 have HID:Hid (uS s=256*((s[0].toNat:Nat):Int)+((s[1].toNat:Nat):Int)):=by show uS s=_;unfold uS;rw[byte_at s 0 hx0,byte_at s 1 LQ];rfl
 by_cases hq:128<=s[2].toNat
 .rw[decide_eq_true hq] at mZ HQ
  have hq2:(128:Int)<=((s[2].toNat:Nat):Int):=by omega
  obtain⟨r1,r2⟩:=amm.out HQ.out;have H1:Hid _:=r1;have H2:Hid _:=r2;clear r1 r2;go_enter func23,ntmps23;go_wp2_with fail;refine(yt.out _ (HS.out.below rW.out) (HM.out.below rW.out) (HW.out.below rW.out)).mono ?_;rintro e w1 ⟨rfl,mO⟩;have mY:Hid _:=rW.out.trans (mO.mono (by simp<;>omega));clear mO;go_wp2_with fail;go_ret3
  exact⟨by rw[H1.out,H2.out];rfl,mY.out⟩
 rw[decide_eq_false hq] at mZ HQ;have hq2:¬ (128:Int)<=((s[2].toNat:Nat):Int):=by omega
 obtain⟨r1,r2⟩:=ajD.out HQ.out;have WL:Hid _:=r1;have uH:Hid _:=r2;clear r1 r2 ajD amm HQ hq;generalize uS s=ID at *;go_enter func23,ntmps23;go_wp2_with fail;refine(yt.out _ (HS.out.below rW.out) (HM.out.below rW.out) (HW.out.below rW.out)).mono ?_;rintro e w1 ⟨rfl,mO⟩;have sj:w.heap.size+1<=w1.heap.size:=by have:=mO.size;simpa using this
 have mY:Hid _:=rW.out.trans (mO.mono (by simp<;>omega));have vF:Hid _:=(mO.block _ (by simp)).trans Kj.out;clear mO Kj rW yt;have hy0:(0:Int)<(s.size:Int):=by omega
 have hy1:(1:Int)<(s.size:Int):=by omega
 go_wp2_with fail;go_region
 go_wp2_with fail;have Er:=(id8 s[0] s[1]).trans HID.out.symm
 erw [Er]
 clear Er HID;obtain⟨W,hW⟩:∃W,W=(w1.alloc (Ib #[O J ID,Ic true,Ic false,O J 1,I ⟨#[]⟩,O J 1,sh U 0 0] 63)).drew:=⟨_,rfl⟩;rw[<- hW];have CB:w1.heap.size+1<=W.heap.size:=by rw[hW];simp
 have rW:Hid (Below w.heap.size w W):=by rw[hW];exact(mY.out.alloc (by omega) _).drew
 have HGW:Hid (W.heap[w.heap.size]?=AI (Ib #[O J px,O J py,O J pz,O J ph,O J pq] 27 (0,0))):=by rw[hW];show(w1.alloc _).heap[_]?=_;rw[Iv _ _ _ (by omega)];exact vF.out
 have Ck:Hid (W.heap[w1.heap.size]?=AI (Ib #[O J ID,Ic true,Ic false,O J 1,I ⟨#[]⟩,O J 1,sh U 0 0] 63 (0,0))):=by rw[hW];exact Ii w1 _
 clear hW vF;refine Calls.mono (HRD.out W) ?_;intro e w2 hrd;obtain⟨i,a,c,o,r,y,p,l,k,rfl,WJ,mO⟩:=L5 hrd;have AP:=mO.size;have nR:Hid _:=rW.out.trans (mO.mono (by omega));have Cl:Hid (∀ob,(w2.alloc ob).heap[w.heap.size]?=AI (Ib #[O J px,O J py,O J pz,O J ph,O J pq] 27 (0,0))):=λob=>by rw[Iv _ _ _ (by omega),mO.block _ (by omega)];exact HGW.out
 have uN:∀ob,(w2.alloc ob).heap[w1.heap.size]?=AI (Ib #[O J ID,Ic true,Ic false,O J 1,I ⟨#[]⟩,O J 1,sh U 0 0] 63 (0,0)):=λob=>by rw[Iv _ _ _ (by omega),mO.block _ (by omega)];exact Ck.out
 have uC:Hid _:=uN;have z0:∀ob,(w2.alloc ob).cell? ⟨w1.heap.size,0,U⟩=AI (O J ID):=λob=>fi (uN ob) 0;have z1:∀ob,(w2.alloc ob).cell? ⟨w1.heap.size,1,U⟩=AI (Ic true):=λob=>fi (uN ob) 1;have z2:∀ob,(w2.alloc ob).cell? ⟨w1.heap.size,2,U⟩=AI (Ic false):=λob=>fi (uN ob) 2;have z3:∀ob,(w2.alloc ob).cell? ⟨w1.heap.size,3,U⟩=AI (O J 1):=λob=>fi (uN ob) 3;have z4:∀ob,(w2.alloc ob).cell? ⟨w1.heap.size,4,U⟩=AI (I ⟨#[]⟩):=λob=>fi (uN ob) 4;have z5:∀ob,(w2.alloc ob).cell? ⟨w1.heap.size,5,U⟩=AI (O J 1):=λob=>fi (uN ob) 5;have z6:∀ob,(w2.alloc ob).cell? ⟨w1.heap.size,6,U⟩=AI (sh U 0 0):=λob=>fi (uN ob) 6;have zz0:∀ob,(w2.alloc ob).frozen? ⟨w1.heap.size,0,U⟩=false:=λob=>by simp[Ij,uN ob]
 have zz1:∀ob,(w2.alloc ob).frozen? ⟨w1.heap.size,1,U⟩=false:=λob=>by simp[Ij,uN ob]
 have zz2:∀ob,(w2.alloc ob).frozen? ⟨w1.heap.size,2,U⟩=false:=λob=>by simp[Ij,uN ob]
 have zz3:∀ob,(w2.alloc ob).frozen? ⟨w1.heap.size,3,U⟩=false:=λob=>by simp[Ij,uN ob]
 have zz4:∀ob,(w2.alloc ob).frozen? ⟨w1.heap.size,4,U⟩=false:=λob=>by simp[Ij,uN ob]
 have zz5:∀ob,(w2.alloc ob).frozen? ⟨w1.heap.size,5,U⟩=false:=λob=>by simp[Ij,uN ob]
 have zz6:∀ob,(w2.alloc ob).frozen? ⟨w1.heap.size,6,U⟩=false:=λob=>by simp[Ij,uN ob]
 have xi:Hid (∀ob,Below w.heap.size w (w2.alloc ob)):=λob=>nR.out.alloc (by omega) ob;clear uN mO hrd HRD HGW Ck rW;have Nj:(CY s≠0/\RPM=⟨1,1,⟨#[]⟩,[]⟩)\/(CY s=0/\0<l/\RPM=⟨1,1,⟨#[]⟩,[]⟩)\/(CY s=0/\l=0/\RPM=⟨vW r y here sv ms ⟨px,py,pz,ph,pq⟩ wh,y,r,uF r y here sv ms ⟨px,py,pz,ph,pq⟩ wh⟩/\r.size<=2000000/\qS y=true):=by
  have hv:=WJ.out;cases h:xz s with
  |none=>exact .inl ⟨HXN.out h,HN.out h⟩
  |some M=>
   rw[h] at hv;obtain⟨v,DA,_,hx⟩:=hv;have hl:l=M.rs.length/\r=M.R/\y=M.mQ:=by
    obtain⟨_,_,he,_,_⟩:=DA;simp only[he,Array.mk.injEq,List.cons.injEq,Value.int.injEq,Value.string.injEq,Value.slice.injEq,true_and,and_true] at hx;obtain⟨_,_,_,_,h5,h6,_,h8,_⟩:=hx;exact⟨h8,h5,h6⟩
   obtain⟨e1,e2,e3⟩:=hl;obtain⟨x1,x2,x3⟩:=HX.out M h;by_cases h0:M.rs.length=0
   .exact .inr (.inr ⟨x1,by omega,by rw[e2,e3];exact HY.out M h h0,by rw[e2];exact x2,by rw[e3];exact x3⟩)
   .exact .inr (.inl ⟨x1,by omega,HFo.out M h h0⟩)
 clear WJ HN HFo HY HX HXN;generalize CY s=X at *;rcases Nj with⟨h1,h2⟩|⟨h1,h3,h2⟩|⟨h1,h3,h2,h4,h5⟩
 .have HP:Hid _:=h2
  have RI:(X==0)=false:=by simpa using h1
  clear h2;go_wp2_with fail;refine Calls.mono (HF.out 1 1 ⟨#[]⟩ [] U 0 _ HP.out (Rc.o7 (Rc.nh 0 _) (by simp)) (By _)) ?_;rintro e w9 ⟨rfl,tv⟩;have uy:Hid _:=(xi.out _).trans (tv.mono (by simp<;>omega));clear tv;go_wp2_with fail;go_ret3
  exact⟨by rw[WL.out,uH.out];rfl,uy.out⟩
 .have HP:Hid _:=h2
  have GY:((l:Int)==0)=false:=by simp;omega
  clear h2;subst h1;go_wp2_with fail;refine Calls.mono (HF.out 1 1 ⟨#[]⟩ [] U 0 _ HP.out (Rc.o7 (Rc.nh 0 _) (by simp)) (By _)) ?_;rintro e w9 ⟨rfl,tv⟩;have uy:Hid _:=(xi.out _).trans (tv.mono (by simp<;>omega));clear tv;go_wp2_with fail;go_ret3
  exact⟨by rw[WL.out,uH.out];rfl,uy.out⟩
 .have HP:Hid _:=h2
  have NQ:Hid _:=h4;have HTY:Hid _:=h5;clear h2 h4 h5;subst h1 h3;have HPO:Hid (∀W,Calls _ _ _ _ _):=λW=>DI r W NQ.out;have HA8:Hid (oF r=8->RPM=⟨4,y,r,[]⟩):=λh=>by
   rw[HP.out];unfold uF vW;simp[h]
  have DG:Hid (oF r≠8->oF r≠0->RPM=⟨3,y,r,[]⟩):=λh h2=>by
   rw[HP.out];unfold uF vW;rw[if_neg h2,if_neg h2,if_neg h]
  have AB:Hid (oF r=0->(uY (nz r) y here sv ms ⟨px,py,pz,ph,pq⟩ wh).e≠0->RPM=⟨2,y,r,[]⟩):=λh h2=>by
   rw[HP.out];unfold uF vW;rw[if_pos h,if_pos h,if_neg h2,if_neg h2]
  have Rt:Hid (oF r=0->(uY (nz r) y here sv ms ⟨px,py,pz,ph,pq⟩ wh).e=0->RPM=⟨(uY (nz r) y here sv ms ⟨px,py,pz,ph,pq⟩ wh).code,y,r,(uY (nz r) y here sv ms ⟨px,py,pz,ph,pq⟩ wh).rs⟩):=λh h2=>by
   rw[HP.out];unfold uF vW;rw[if_pos h,if_pos h,if_pos h2,if_pos h2]
  have aqB:Hid _:=aqA.out r y HTY.out;have awr:Hid _:=λW=>NO.out (nz r) y W (L6 r);clear NO aqA HP HTY;generalize Ru (nz r) y here sv ms ⟨px,py,pz,ph,pq⟩ wh=AR9 at *;generalize uY (nz r) y here sv ms ⟨px,py,pz,ph,pq⟩ wh=A at *;generalize oF r=PE at *;generalize nz r=q at *;obtain⟨qs,qt,qn,qc⟩:=q;simp only at *;go_wp2_with fail;go_region
  go_wp2_with fail;obtain⟨W3,sN⟩:∃W3,W3=((((w2.alloc (Ib #[O J i,Ic a,Ic c,O J o,I r,O J y,sh p 0 k] 63)).setCell ⟨w1.heap.size,3,U⟩ (O J 0)).setCell ⟨w1.heap.size,4,U⟩ (I r)).setCell ⟨w1.heap.size,5,U⟩ (O J y)).drew:=⟨_,rfl⟩;rw[<- sN];have aEo:w2.heap.size+1<=W3.heap.size:=by rw[sN];simp
  have oT:Hid (Below w.heap.size w W3):=by rw[sN];exact(((((xi.out _).setCell (p:=⟨w1.heap.size,3,U⟩) (by simp<;>omega) _).setCell (p:=⟨w1.heap.size,4,U⟩) (by simp<;>omega) _).setCell (p:=⟨w1.heap.size,5,U⟩) (by simp<;>omega) _)).drew
  have HG3:Hid (W3.heap[w.heap.size]?=AI (Ib #[O J px,O J py,O J pz,O J ph,O J pq] 27 (0,0))):=by
   rw[sN];show((((w2.alloc _).setCell _ _).setCell _ _).setCell _ _).heap[_]?=_;rw[IC _ _ _ _ (by simp<;>omega),IC _ _ _ _ (by simp<;>omega),IC _ _ _ _ (by simp<;>omega)];exact Cl.out _
  have tQ:Hid (W3.heap[w1.heap.size]?=AI (Ib #[O J ID,Ic true,Ic false,O J 0,I r,O J y,sh U 0 0] 63 (0,0))):=by
   rw[sN];exact It (It (It (uC.out _) _) _) _
  have HM3:Hid (W3.heap[w2.heap.size]?=AI (Ib #[O J i,Ic a,Ic c,O J o,I r,O J y,sh p 0 k] 63 (0,0))):=by
   rw[sN];show((((w2.alloc _).setCell _ _).setCell _ _).setCell _ _).heap[_]?=_;rw[IC _ _ _ _ (by simp<;>omega),IC _ _ _ _ (by simp<;>omega),IC _ _ _ _ (by simp<;>omega)];exact Ii w2 _
  clear sN z0 z1 z2 z3 z4 z5 z6 zz0 zz1 zz2 zz3 zz4 zz5 zz6 Cl uC xi;refine(HPO.out W3).mono ?_;rintro e w3 ⟨rfl,nC⟩;have V0:=nC.size;have qP:Hid _:=oT.out.trans (nC.mono (by omega));have hg:∀ob,(w3.alloc ob).heap[w.heap.size]?=AI (Ib #[O J px,O J py,O J pz,O J ph,O J pq] 27 (0,0)):=λob=>by rw[Iv _ _ _ (by omega),nC.block _ (by omega)];exact HG3.out
  have ho:∀ob,(w3.alloc ob).heap[w1.heap.size]?=AI (Ib #[O J ID,Ic true,Ic false,O J 0,I r,O J y,sh U 0 0] 63 (0,0)):=λob=>by rw[Iv _ _ _ (by omega),nC.block _ (by omega)];exact tQ.out
  have hm:∀ob,(w3.alloc ob).heap[w2.heap.size]?=AI (Ib #[O J i,Ic a,Ic c,O J o,I r,O J y,sh p 0 k] 63 (0,0)):=λob=>by rw[Iv _ _ _ (by omega),nC.block _ (by omega)];exact HM3.out
  have d0:∀ob,(w3.alloc ob).cell? ⟨w.heap.size,0,U⟩=AI (O J px):=λob=>fi (hg ob) 0;have d1:∀ob,(w3.alloc ob).cell? ⟨w.heap.size,1,U⟩=AI (O J py):=λob=>fi (hg ob) 1;have d2:∀ob,(w3.alloc ob).cell? ⟨w.heap.size,2,U⟩=AI (O J pz):=λob=>fi (hg ob) 2;have d3:∀ob,(w3.alloc ob).cell? ⟨w.heap.size,3,U⟩=AI (O J ph):=λob=>fi (hg ob) 3;have d4:∀ob,(w3.alloc ob).cell? ⟨w.heap.size,4,U⟩=AI (O J pq):=λob=>fi (hg ob) 4;have z0:∀ob,(w3.alloc ob).cell? ⟨w1.heap.size,0,U⟩=AI (O J ID):=λob=>fi (ho ob) 0;have z1:∀ob,(w3.alloc ob).cell? ⟨w1.heap.size,1,U⟩=AI (Ic true):=λob=>fi (ho ob) 1;have z2:∀ob,(w3.alloc ob).cell? ⟨w1.heap.size,2,U⟩=AI (Ic false):=λob=>fi (ho ob) 2;have z3:∀ob,(w3.alloc ob).cell? ⟨w1.heap.size,3,U⟩=AI (O J 0):=λob=>fi (ho ob) 3;have z4:∀ob,(w3.alloc ob).cell? ⟨w1.heap.size,4,U⟩=AI (I r):=λob=>fi (ho ob) 4;have z5:∀ob,(w3.alloc ob).cell? ⟨w1.heap.size,5,U⟩=AI (O J y):=λob=>fi (ho ob) 5;have z6:∀ob,(w3.alloc ob).cell? ⟨w1.heap.size,6,U⟩=AI (sh U 0 0):=λob=>fi (ho ob) 6;have zz0:∀ob,(w3.alloc ob).frozen? ⟨w1.heap.size,0,U⟩=false:=λob=>by simp[Ij,ho ob]
  have zz1:∀ob,(w3.alloc ob).frozen? ⟨w1.heap.size,1,U⟩=false:=λob=>by simp[Ij,ho ob]
  have zz2:∀ob,(w3.alloc ob).frozen? ⟨w1.heap.size,2,U⟩=false:=λob=>by simp[Ij,ho ob]
  have zz3:∀ob,(w3.alloc ob).frozen? ⟨w1.heap.size,3,U⟩=false:=λob=>by simp[Ij,ho ob]
  have zz4:∀ob,(w3.alloc ob).frozen? ⟨w1.heap.size,4,U⟩=false:=λob=>by simp[Ij,ho ob]
  have zz5:∀ob,(w3.alloc ob).frozen? ⟨w1.heap.size,5,U⟩=false:=λob=>by simp[Ij,ho ob]
  have zz6:∀ob,(w3.alloc ob).frozen? ⟨w1.heap.size,6,U⟩=false:=λob=>by simp[Ij,ho ob]
  have m5:∀ob,(w3.alloc ob).cell? ⟨w2.heap.size,5,U⟩=AI (O J y):=λob=>fi (hm ob) 5;have xi:Hid (∀ob,Below w.heap.size w (w3.alloc ob)):=λob=>qP.out.alloc (by omega) ob;have HOA:Hid _:=ho;clear hg ho hm nC HG3 tQ HM3 HPO;by_cases h8:PE=8
  .have HP:Hid _:=HA8.out h8
   clear HA8 DG AB Rt;subst h8;go_wp2_with fail;refine Calls.mono (HF.out 4 y r [] U 0 _ HP.out (Rc.o7 (Rc.nh 0 _) (by simp)) (By _)) ?_;rintro e w9 ⟨rfl,tv⟩;have uy:Hid _:=((xi.out _).setCell (p:=⟨w1.heap.size,3,U⟩) (by simp<;>omega) _).trans (tv.mono (by simp<;>omega));clear tv;go_wp2_with fail;go_ret3
   exact⟨by rw[WL.out,uH.out];rfl,uy.out⟩
  .have g8:(PE==8)=false:=by simpa using h8
   by_cases h0:PE=0
   .have Ae:Hid _:=AB.out h0
    have TP:Hid _:=Rt.out h0;have HE9:Hid _:=aqB.out h0;clear HA8 DG AB Rt g8 h8 aqB;subst h0;go_wp2_with fail;refine Calls.mono (awr.out _ (HS.out.below (xi.out _)) (HM.out.below (xi.out _)) (HW.out.below (xi.out _))) ?_;rintro e w4 ⟨v,rfl,hoo,qA⟩;rw[HE9.out] at hoo ⊢;obtain⟨pv,cv,yq⟩:=wB hoo;have Le:A.rs.length<=cv:=by
     rcases hoo.2 with⟨h,h0⟩|⟨g,c,cur,h,_,_,rF,_⟩
     .rw[yq] at h;injection h with _ _ h3;omega
     .rw[yq] at h;injection h with _ _ h3;omega
    subst yq;have Lh:w3.heap.size+1<=w4.heap.size:=by have:=qA.size;simpa using this
    have qB:Hid _:=(xi.out _).trans (qA.mono (by simp<;>omega));have Nt:Hid (Rc.Own (w3.heap.size+1) w4 (sh pv A.rs.length cv) A.rs):=by
     have h:=hoo;rw[show(w3.alloc (Ib #[I qs,I qt,I qn,I qc] 67)).heap.size=w3.heap.size+1 by simp] at h;exact h
    have k1:=(qA.block _ (by simp<;>omega)).trans (HOA.out _);have x0:=fi k1 0;have zx0:w4.frozen? ⟨w1.heap.size,0,U⟩=false:=by simp[Ij,k1]
    have x1:=fi k1 1;have zx1:w4.frozen? ⟨w1.heap.size,1,U⟩=false:=by simp[Ij,k1]
    have x2:=fi k1 2;have zx2:w4.frozen? ⟨w1.heap.size,2,U⟩=false:=by simp[Ij,k1]
    have x3:=fi k1 3;have zx3:w4.frozen? ⟨w1.heap.size,3,U⟩=false:=by simp[Ij,k1]
    have x4:=fi k1 4;have zx4:w4.frozen? ⟨w1.heap.size,4,U⟩=false:=by simp[Ij,k1]
    have x5:=fi k1 5;have zx5:w4.frozen? ⟨w1.heap.size,5,U⟩=false:=by simp[Ij,k1]
    have x6:=fi k1 6;have zx6:w4.frozen? ⟨w1.heap.size,6,U⟩=false:=by simp[Ij,k1]
    have Co:Hid _:=k1;clear k1 qA hoo;obtain⟨ars,acd,ae⟩:=A;simp only at *;have HCA:Hid _:=Le;clear Le;by_cases he:ae=0
    .have HP:Hid _:=TP.out he
     clear Ae TP;subst he;go_wp2_with fail;have DA:Rc.Own (w3.heap.size+1) ((w4.setCell ⟨w1.heap.size,3,U⟩ (O J acd)).setCell ⟨w1.heap.size,6,U⟩ (sh pv ars.length cv)) (sh pv ars.length cv) ars:=Io (Io Nt.out (a:=⟨w1.heap.size,3,U⟩) (by simp<;>omega) _) (a:=⟨w1.heap.size,6,U⟩) (by simp<;>omega) _;refine Calls.mono (HF.out acd y r ars pv cv _ HP.out (Rc.o7 DA (awq.out _ _ _ _ HP.out)) HCA.out) ?_;rintro e w9 ⟨rfl,tv⟩;have uy:Hid _:=((qB.out.setCell (p:=⟨w1.heap.size,3,U⟩) (by simp<;>omega) _).setCell (p:=⟨w1.heap.size,6,U⟩) (by simp<;>omega) _).trans (tv.mono (by simp<;>omega));clear tv;go_wp2_with fail;go_ret3
     exact⟨by rw[WL.out,uH.out];rfl,uy.out⟩
    .have HP:Hid _:=Ae.out he
     have Am:(ae !=0)=true:=by simpa using he
     clear Ae TP;go_upto_region 17 with fail
     obtain⟨W9,hW9⟩:∃W9,W9=(w4.setCell ⟨w1.heap.size,3,U⟩ (O J acd)).setCell ⟨w1.heap.size,6,U⟩ (sh pv ars.length cv):=⟨_,rfl⟩;rw[<- hW9];have hs9:w4.heap.size<=W9.heap.size:=by rw[hW9];simp
     have aws:Hid (Below w.heap.size w W9):=by rw[hW9];exact(qB.out.setCell (p:=⟨w1.heap.size,3,U⟩) (by simp<;>omega) _).setCell (p:=⟨w1.heap.size,6,U⟩) (by simp<;>omega) _
     have k9:W9.heap[w1.heap.size]?=AI (Ib #[O J ID,Ic true,Ic false,O J acd,I r,O J y,sh pv ars.length cv] 63 (0,0)):=by
      rw[hW9];exact It (It Co.out _) _
     clear hW9 x0 x1 x2 x3 x4 x5 x6 zx0 zx1 zx2 zx3 zx4 zx5 zx6;have x0:=fi k9 0;have zx0:W9.frozen? ⟨w1.heap.size,0,U⟩=false:=by simp[Ij,k9]
     have x1:=fi k9 1;have zx1:W9.frozen? ⟨w1.heap.size,1,U⟩=false:=by simp[Ij,k9]
     have x2:=fi k9 2;have zx2:W9.frozen? ⟨w1.heap.size,2,U⟩=false:=by simp[Ij,k9]
     have x3:=fi k9 3;have zx3:W9.frozen? ⟨w1.heap.size,3,U⟩=false:=by simp[Ij,k9]
     have x4:=fi k9 4;have zx4:W9.frozen? ⟨w1.heap.size,4,U⟩=false:=by simp[Ij,k9]
     have x5:=fi k9 5;have zx5:W9.frozen? ⟨w1.heap.size,5,U⟩=false:=by simp[Ij,k9]
     have x6:=fi k9 6;have zx6:W9.frozen? ⟨w1.heap.size,6,U⟩=false:=by simp[Ij,k9]
     clear k9;go_wp2_with fail;refine Calls.mono (HF.out 2 y r [] U 0 _ HP.out (Rc.o7 (Rc.nh 0 _) (by simp)) (By _)) ?_;rintro e w9 ⟨rfl,tv⟩;have uy:Hid _:=((aws.out.setCell (p:=⟨w1.heap.size,3,U⟩) (by simp<;>omega) _).setCell (p:=⟨w1.heap.size,6,U⟩) (by simp<;>omega) _).trans (tv.mono (by simp<;>omega));clear tv;go_wp2_with fail;go_ret3
     exact⟨by rw[WL.out,uH.out];rfl,uy.out⟩
   .have HP:Hid _:=DG.out h8 h0
    have g0:(PE !=0)=true:=by simpa using h0
    clear HA8 DG AB Rt;go_wp2_with fail;refine Calls.mono (HF.out 3 y r [] U 0 _ HP.out (Rc.o7 (Rc.nh 0 _) (by simp)) (By _)) ?_;rintro e w9 ⟨rfl,tv⟩;have uy:Hid _:=((xi.out _).setCell (p:=⟨w1.heap.size,3,U⟩) (by simp<;>omega) _).trans (tv.mono (by simp<;>omega));clear tv;go_wp2_with fail;go_ret3
    exact⟨by rw[WL.out,uH.out];rfl,uy.out⟩
end Go.Proofs.YtipbebleapjcjaaGreatDoor
