import Derived.Test.YtfidhgjmifendaaGreatDoorns15
import Derived.Test.YtfidhgjmifendaaGreatDoorns6
set_option maxHeartbeats 3200000
set_option maxRecDepth 1000000
open List renaming length_set→IM,length_cons→Iw,length_take→IA,getElem?_take_of_lt→IN,getElem?_eq_none→I1,length_drop→JM,length_eraseIdx→Qc,getElem?_append_left→Js,getElem?_append_right→Jr,getElem?_eq_some_iff→Jl,getElem?_drop→Uf,getElem?_eq_getElem→If
open Go.Value renaming slice→J,string→Y,int→U,bool→Ia,tuple→Ik,agg→Ij
open Option renaming some→AI,none→be
open Go renaming TypeId→I5,run_underlying→QG,info_parts→I6,maxLen→Il,cell_regrown→Iq,redrawn→Iz,wp_region_quiet_below→IG
open Go.World.ownsRow renaming stored→II,frozenAt→I7,cellAt→Oy
open Go.Value.slice renaming injEq→I0
open Option.some renaming injEq→It
open Go.Addr.mk renaming injEq→JK
open Go.IntKind renaming i64→O
open Go.Builtin renaming clear_→Ov,zeroCells→O9
open Go.Proofs.Tryz renaming prog→AS,underlying35→Oc,underlying25→Qa
open Go.Ending renaming returned→AT
open Go.RowKit.Below renaming refl→Ib
open Go.Act renaming eval→No,put→Oq
open Nat renaming le_refl→Ic
open Go.Sort renaming grow→Im
namespace Go.Proofs.YtfidhgjmifendaaGreatDoor
open Go.RowKit
def AY:List Value->Nat->List Value->List Value
 |xs,_,[]=>xs
 |xs,o,v::r=>AY (xs.set o v) (o+1) r
theorem jC:∀(vs xs:List Value) (o:Nat),(AY xs o vs).length=xs.length
 |[],_,_=>rfl
 |v::r,xs,o=>by rw[AY,jC r,IM]
theorem kG:∀(vs xs:List Value) (o k:Nat),k<o\/o+vs.length<=k->(AY xs o vs)[k]?=xs[k]?
 |[],_,_,_,_=>rfl
 |v::r,xs,o,k,h=>by
  simp only[Iw] at h;rw[AY,kG r _ _ k (by omega),List.getElem?_set_ne (by omega)]
theorem xq:∀(vs xs:List Value) (o j:Nat),j<vs.length->o+vs.length<=xs.length->(AY xs o vs)[o+j]?=vs[j]?
 |[],_,_,_,h,_=>by simp at h
 |v::r,xs,o,0,_,h2=>by
  simp only[Iw] at h2;rw[AY,kG r _ _ _ (by omega)];simp[List.getElem?_set_self (show o<xs.length by omega)]
 |v::r,xs,o,j+1,h,h2=>by
  simp only[Iw] at h h2;rw[AY,show o+(j+1)=(o+1)+j by omega,xq r _ _ j (by omega) (by rw[IM];omega)];simp
theorem gf{base g n cap:Nat}{e:I5}{size:Nat}:∀(vs xs:List Value) (o:Nat) (w:World),w.ownsRow base e size (J (AI ⟨g,0,be⟩) n cap) n xs->(w.setCells g o vs).ownsRow base e size (J (AI ⟨g,0,be⟩) n cap) n (AY xs o vs)
 |[],_,_,_,h=>h
 |v::r,_,o,_,h=>gf r _ _ _ (II h o v).1
theorem dY{base g:Nat}(hg:base<=g):∀(vs:List Value) (o:Nat) (w0 w:World),Below base w0 w->Below base w0 (w.setCells g o vs)
 |[],_,_,_,h=>h
 |v::r,o,w0,_,h=>dY hg r _ w0 _ (h.setCell (p:=⟨g,o,be⟩) hg v)
theorem mQ{w:World}{base g n m cap:Nat}{e:I5}{size:Nat}{xs:List Value}(h:w.ownsRow base e size (J (AI ⟨g,0,be⟩) n cap) n xs)(hm:m<=n):w.ownsRow base e size (J (AI ⟨g,0,be⟩) m cap) m (xs.take (m*size)):=by
 obtain⟨h1,h2⟩:=h;have hle:m*size<=n*size:=Nat.mul_le_mul_right _ hm;refine⟨by rw[IA,h1];omega,?_⟩;rcases h2 with⟨hv,_⟩|⟨g',c',cur,hv,eD,hg,fP,dR,cf,bj⟩
 .cases hv
 .simp only[I0,It,JK,and_true,true_and] at hv
  obtain⟨rfl,rfl⟩:=hv;refine .inr ⟨g,cap,cur,rfl,eD,hg,by omega,dR,cf,?_⟩;rw[<- bj,List.take_take,Nat.min_eq_left hle]
def zR:List Value:=[Y ⟨#[]⟩,U O 0,U O 0,U O 0,Ia false,U O 0]
theorem oM{xs ys:List Value}{k:Nat}(hl:k<=xs.length)(hy:ys.length=k)(h:∀j,j<k->xs[j]?=ys[j]?):xs.take k=ys:=by
 apply List.ext_getElem?;intro j;by_cases hj:j<k
 .rw[IN hj,h j hj]
 .rw[I1 (by rw[IA];omega),I1 (by omega)]
theorem zv{rs:List bE}{p n:Nat}(hn:rs.length=n)(hp:p<n):(AY (AY (eW rs) (p*6) (eW (rs.drop (p+1)))) ((n-1)*6) zR).take ((n-1)*6)=eW (rs.eraseIdx p):=by
 have hl:(eW rs).length=n*6:=by rw[ea,hn]
 have hd:(eW (rs.drop (p+1))).length=(n-(p+1))*6:=by rw[ea,JM,hn]
 refine oM (by rw[jC,jC,hl];omega) (by rw[ea,Qc,if_pos (by omega),hn]) (λj hj=>?_);rw[kG _ _ _ _ (by omega),List.eraseIdx_eq_take_drop_succ,tq];have ht:(eW (rs.take p)).length=p*6:=by rw[ea,IA,hn];omega
 by_cases hjp:j<p*6
 .rw[kG _ _ _ _ (by omega),Js (by omega),<- tr,IN hjp]
 .rw[Jr (by omega),ht]
  have:=xq (eW (rs.drop (p+1))) (eW rs) (p*6) (j-p*6) (by rw[hd];omega) (by rw[hd,hl];omega);rw[show p*6+(j-p*6)=j by omega] at this;exact this
theorem vq(w:World)(ty:I5)(b o c:Nat)(hc:∀j,j<6->(w.cell? ⟨b,o+j,be⟩).isSome=true)(hf:∀j,j<6->w.frozen? ⟨b,o+j,be⟩=false) : (Ov #[35] ty #[J (AI ⟨b,o,be⟩) 1 c]).run AS w=.ok (Ik #[]) (w.setCells b o zR):=by
 have V1:(O9 (Value.agg #[Y ⟨#[]⟩,U O 0,U O 0,U O 0,Ia false,U O 0]).cells 1).toList=zR:=by kernel_rfl
 have pC:=run_storeCells_cells (P:=AS) b o zR 0 w (λj hj=>by simpa using hc j (by simpa[zR] using hj)) (λj hj=>by simpa using hf j (by simpa[zR] using hj)) (by intro v hv;simp[zR] at hv;rcases hv with rfl|rfl|rfl|rfl<;>rfl);simp only[Nat.add_zero] at pC;simp[Ov,QG Oc,V1,pC]
theorem Bs(rs:List bE)(n p g c base:Nat)(w:World)(hn:rs.length=n)(ho:cL base w (J (AI ⟨g,0,be⟩) n c) rs)(hp:p<n)(zx:n<=1000) :
 Calls AS 210 #[J (AI ⟨g,0,be⟩) n c,U O p,U O (p+1)] w λe w'=>e=AT (J (AI ⟨g,0,be⟩) (n-1) c)/\cL base w' (J (AI ⟨g,0,be⟩) (n-1) c) (rs.eraseIdx p)/\Below base w w':=by
 obtain⟨i0,fV,di,da,nW⟩:=I6 Tryz.vW;have HO:Hid (w.ownsRow base 111 6 (J (AI ⟨g,0,be⟩) n c) n (eW rs)):=by rw[<- hn];rw[<- hn] at ho;exact ho
 obtain⟨du,fP,dR⟩:base<=g/\n<=c/\c<=Il:=by
  rcases HO.out.2 with⟨hv,_⟩|⟨g',c',cur,hv,eD,hg,fP,dR,cf,bj⟩
  .cases hv
  .simp only[I0,It,JK,and_true,true_and] at hv
   obtain⟨rfl,rfl⟩:=hv;exact⟨eD,fP,dR⟩
 unfold Il at dR;have RS:(0:Int)<=(p:Int)+1:=by omega
 have xt:(p:Int)+1<=(n:Int):=by omega
 have sL:((p:Int)+1).toNat=p+1:=by omega
 have hic:p<=c:=by omega
 have fW:∀k,k<n*6->w.cell? ⟨g,k,be⟩=(eW rs)[k]?:=λk hk=>by
  rcases HO.out.2 with⟨hv,_⟩|⟨g',c',cur,hv,eD,hg,_,_,cf,bj⟩
  .cases hv
  .simp only[I0,It,JK,and_true,true_and] at hv
   obtain⟨rfl,rfl⟩:=hv;rw[ae hg,<- bj,IN hk,Array.getElem?_toList]
 have Hq:(eW rs).length=n*6:=by rw[ea,hn]
 have S1:Hid ((eW (rs.drop (p+1))).length=(n-(p+1))*6):=(show(eW (rs.drop (p+1))).length=_ by rw[ea,JM,hn]);obtain⟨A,hA,hnews⟩:∃A:Addr,(if c=p+1 then AI (⟨g,0,be⟩:Addr) else AI ⟨g,(p+1)*6,be⟩)=AI A/\Hid (∀j u,(eW (rs.drop (p+1)))[j]?=AI u->w.drew.cell? (A.add j)=AI u):=by
  by_cases h:c=p+1
  .refine⟨_,if_pos h,λj u hj=>?_⟩
   have:j<(eW (rs.drop (p+1))).length:=(Jl.1 hj).1
   rw[S1.out] at this;omega
  .refine⟨_,if_neg h,λj u hj=>?_⟩
   have hj1:=(Jl.1 hj).1;rw[S1.out] at hj1;rw[Addr.add_lit];show w.cell? _=_;rw[fW _ (by omega),<- hj,<- zy,Uf]
 have S2:Hid (∀u∈eW (rs.drop (p+1)),u.oneCell'=true):=Da _;have S3:Hid (∀j,j<(eW (rs.drop (p+1))).length->(w.drew.cell? ⟨g,0+p*6+j,be⟩).isSome=true/\w.drew.frozen? ⟨g,0+p*6+j,be⟩=false):=λj hj=>by
  rw[S1.out] at hj;refine⟨?_,I7 HO.out _⟩;show(w.cell? _).isSome=true;rw[fW _ (by omega),If (by omega)];rfl
 have HD:Hid ((w.drew.setCells g (p*6) (eW (rs.drop (p+1)))).ownsRow base 111 6 (J (AI ⟨g,0,be⟩) n c) n (AY (eW rs) (p*6) (eW (rs.drop (p+1))))):=gf _ _ _ _ (show w.drew.ownsRow base 111 6 (J (AI ⟨g,0,be⟩) n c) n (eW rs) from HO.out);have Ht:∀ty,(Ov #[35] ty #[J (AI ⟨g,(p+(n-(p+1)))*6,be⟩) (n-(p+(n-(p+1)))) (c-(p+(n-(p+1))))]).run AS (w.drew.setCells g (p*6) (eW (rs.drop (p+1))))=.ok (Ik #[]) ((w.drew.setCells g (p*6) (eW (rs.drop (p+1)))).setCells g ((n-1)*6) zR):=λty=>by
  rw[show p+(n-(p+1))=n-1 by omega,show n-(n-1)=1 by omega];exact vq _ ty g _ _ (λj hj=>by rw[Oy HD.out _ (by omega),If (by rw[jC,Hq];omega)];rfl) (λj _=>I7 HD.out _)
 have HF:Hid (((w.drew.setCells g (p*6) (eW (rs.drop (p+1)))).setCells g ((n-1)*6) zR).ownsRow base 111 6 (J (AI ⟨g,0,be⟩) (n-1) c) (n-1) (eW (rs.eraseIdx p))):=by
  have h:=mQ (m:=n-1) (gf zR _ ((n-1)*6) _ HD.out) (by omega);rw[zv hn hp] at h;exact h
 have HL:Hid ((rs.eraseIdx p).length=n-1):=(show(rs.eraseIdx p).length=n-1 by rw[Qc,if_pos (by omega),hn]);have Bt:Hid (Below base w ((w.drew.setCells g (p*6) (eW (rs.drop (p+1)))).setCells g ((n-1)*6) zR)):=dY du _ _ _ _ (dY du _ _ _ _ (Ib _ _).drew);have Bu:Hid (p+(n-(p+1))=n-1):=(show p+(n-(p+1))=n-1 by omega);clear ho fW;go_enter Tryz.func210,Tryz.ntmps210;go_wp2_with fail;go_region_law (refine step_append_room rfl (.tmp 22) (.tmp 25) 35 rfl 111 i0 6 Oc fV da g 0 p c (by simp[No,Oq]) A (n-(p+1)) (c-(p+1)) (eW (rs.drop (p+1))) (by simp[No,Oq]) S1.out hnews.out S2.out (by omega) S3.out ?_)
 go_wp2_with fail;go_ret;refine⟨?_,?_,Bt.out⟩
 .have xu:=Bu.out
  simp only[xu];rfl
 .show World.ownsRow _ _ _ _ _ (rs.eraseIdx p).length _
  rw[HL.out];exact HF.out
end Go.Proofs.YtfidhgjmifendaaGreatDoor
namespace Go.Proofs.YtfidhgjmifendaaGreatDoor
open Go.RowKit Go.WideMaps Go.Maps
theorem fb{rs:List bE}(h:dZ rs=0):rs.length<=20/\(∀j,j<rs.length->(rs.getD j dr).m.e=0)/\hJ rs/\dL rs:=by
 unfold dZ at h;by_cases h1:20<rs.length
 .rw[if_pos h1] at h;omega
 rw[if_neg h1] at h;by_cases h2:aU (gI rs)=0
 .rw[if_pos h2] at h
  by_cases h3:hJ rs
  .rw[if_pos h3] at h
   by_cases h4:dL rs
   .refine⟨by omega,λj hj=>?_,h3,h4⟩
    have:=ts h2 j (by rw[jK];exact hj)
    rwa [lh] at this
   .rw[if_neg h4] at h;omega
  .rw[if_neg h3] at h;omega
 .rw[if_neg h2] at h;exact absurd h h2
theorem vX{a b:Mem}(ha:a.e=0)(hb:b.e=0)(hn:a.name=b.name):bT a b=0:=by
 have h:aP [a] [b]=0:=by rw[aP,jV,jV];simp[ha,hb]
 rw[bT,if_pos h,if_pos hn]
theorem Hu(rs:List bE)(v:Value)(m:Mem)(w:World)(hv:mR w v rs)(hm:m.name.size<=Il)(h0:dZ rs=0)(he:m.e=0)(RT:Db rs m.name)(hl:rs.length=20) :
 Calls AS 168 #[v,Ij #[Y m.name,U O m.state,U O m.aJ,U O m.addr,Ia m.server]] w λe w'=>e=AT (Ik #[J be 0 0,U O 2])/\Below w.heap.size w w':=by
 obtain⟨i0,fV,di,il,gT⟩:=I6 Tryz.vW;have HV:Hid (mR w v rs):=hv;have j7:=λ(w:World) (h:mR w v rs)=>gh rs v w h;rw[h0] at j7;have dR:=λw=>eX m w hm;rw[he] at dR;have HH:Hid _:=Dc RT;clear h0 he hv;obtain⟨nm,st,lf,ad,sv⟩:=m;simp only at *;have sj:Below w.heap.size w (w.alloc (.cells #[Y nm,U O st,U O lf,U O ad,Ia sv] 50)):=(Ib _ _).alloc (Ic _) _;go_enter Tryz.func168,Tryz.ntmps168;go_wp2_with fail;refine(j7 _ (HV.out.below sj)).mono ?_;rintro e w1 ⟨rfl,aB⟩;have c1:∀o,w1.cell? ⟨w.heap.size,o,be⟩=#[Y nm,U O st,U O lf,U O ad,Ia sv][o]?:=λo=>by
  rw[aB.cell (p:=⟨w.heap.size,o,be⟩) (by simp)];exact cU rfl
 have ba:Hid _:=sj.trans (aB.mono (by simp));have da:w.heap.size<w1.heap.size:=by have:=aB.size;simp at this;omega
 clear aB sj j7;go_wp2_with fail;refine(dR _).mono ?_;rintro e w2 ⟨rfl,aK⟩;have c2:∀o,w2.cell? ⟨w.heap.size,o,be⟩=#[Y nm,U O st,U O lf,U O ad,Ia sv][o]?:=λo=>by
  rw[aK.cell (p:=⟨w.heap.size,o,be⟩) (by simp only;omega)];exact c1 o
 have bu:Hid _:=ba.out.trans (aK.mono ba.out.size);have nW:w.heap.size<w2.heap.size:=by have:=aK.size;omega
 clear aK c1 da ba dR;go_wp2_with fail;refine(gi rs v _ (HV.out.below bu.out) (by omega)).mono ?_;rintro e w3 ⟨v3,rfl,lE,bX⟩;have ec:Hid (cL _ _ _ _):=lE;have c3:w3.cell? ⟨w.heap.size,0,be⟩=AI (Y nm):=by
  rw[bX.cell (p:=⟨w.heap.size,0,be⟩) (by simp only;omega)];exact c2 0
 have C3:Hid (∀o,w3.cell? ⟨w.heap.size,o,be⟩=#[Y nm,U O st,U O lf,U O ad,Ia sv][o]?):=λo=>by
  rw[bX.cell (p:=⟨w.heap.size,o,be⟩) (by simp only;omega)];exact c2 o
 have cJ:Hid _:=bu.out.trans (bX.mono bu.out.size);have qL:w.heap.size<w3.heap.size:=by have:=bX.size;omega
 have RU:=bX.size;clear bX lE c2;go_wp2_with fail;go_region_held3 (λw'=>w'.cell? ⟨w.heap.size,0,be⟩=AI (Y nm)) (first|assumption|go_keep) (first|(go_at_call 126;refine(pS rs v _ ((HV.out.below cJ.out).below (Ib _ _).drew) (by omega)).mono ?_;rintro e w4 ⟨rfl,hown,eU⟩;obtain⟨cq,jW,cH⟩:=pT hown hm;rw[HH.out] at jW;have rJ:(Instr.lookup 125 (.map (AI w3.heap.size)) (Y nm) true).run AS w4=.ok (Ik #[U O cq,Ia false]) w4:=jW;clear jW cH hown;have fO:Hid (Below w3.heap.size w3 w4):=(Ib w3.heap.size w3).drew.trans eU;have hS:w4.cell? ⟨w.heap.size,0,be⟩=AI (Y nm):=((eU.cell (p:=⟨w.heap.size,0,be⟩) qL).trans c3);clear eU))
 obtain⟨a3,Eh,zz⟩:=ec.out.slice;subst zz;have iy:Hid _:=cJ.out.trans (fO.out.mono cJ.out.size);clear ec C3 fO cJ c3 rJ;rw[hl];go_wp2_with fail;go_ret2;exact⟨rfl,iy.out⟩
theorem MJ(rs:List bE)(v:Value)(m:Mem)(w:World)(hv:mR w v rs)(hm:m.name.size<=Il)(h0:dZ rs=0)(he:m.e=0)(p:Nat)(hp:p<rs.length)(xu:(rs.getD p dr).m.name=m.name)(RV:eb m (rs.getD p dr).m=false) :
 Calls AS 168 #[v,Ij #[Y m.name,U O m.state,U O m.aJ,U O m.addr,Ia m.server]] w λe w'=>∃v',e=AT (Ik #[v',U O 0])/\cL w.heap.size w' v' rs/\Below w.heap.size w w':=by
 obtain⟨i0,fV,di,il,gT⟩:=I6 Tryz.vW;have HV:Hid (mR w v rs):=hv;have j7:=λ(w:World) (h:mR w v rs)=>gh rs v w h;rw[h0] at j7;have dR:=λw=>eX m w hm;rw[he] at dR;have HH:Hid (Maps.has (Dm (ff rs) rs.length) (kS m.name)=true):=(qV _ _ _).2 ⟨p,hp,by rw[dE];exact xu⟩;have gj:Hid ((Dm (ff rs) rs.length).atKey (kS m.name) (.lit (.int O 0))=.lit (.int O p)):=Hv _ _ _ _ p hp (by rw[dE];exact xu) (λi hi hk=>by rw[dE,<- xu];exact λe=>(fb h0).2.2.2 p i hi hk e.symm);have Bv:=(fb h0).1;have V2:Hid _:=(fb h0).2.1 p hp;have Hw:(rs.getD p dr).m.name.size<=Il:=by obtain⟨_,_,_,h,_⟩:=hv;exact h p
 have Bh:Hid _:=vX he V2.out xu.symm;clear h0 he hv V2;obtain⟨nm,st,lf,ad,sv⟩:=m;simp only at *;have sj:Below w.heap.size w (w.alloc (.cells #[Y nm,U O st,U O lf,U O ad,Ia sv] 50)):=(Ib _ _).alloc (Ic _) _;go_enter Tryz.func168,Tryz.ntmps168;go_wp2_with fail;refine(j7 _ (HV.out.below sj)).mono ?_;rintro e w1 ⟨rfl,aB⟩;have c1:∀o,w1.cell? ⟨w.heap.size,o,be⟩=#[Y nm,U O st,U O lf,U O ad,Ia sv][o]?:=λo=>by
  rw[aB.cell (p:=⟨w.heap.size,o,be⟩) (by simp)];exact cU rfl
 have ba:Hid _:=sj.trans (aB.mono (by simp));have da:w.heap.size<w1.heap.size:=by have:=aB.size;simp at this;omega
 clear aB sj j7;go_wp2_with fail;refine(dR _).mono ?_;rintro e w2 ⟨rfl,aK⟩;have c2:∀o,w2.cell? ⟨w.heap.size,o,be⟩=#[Y nm,U O st,U O lf,U O ad,Ia sv][o]?:=λo=>by
  rw[aK.cell (p:=⟨w.heap.size,o,be⟩) (by simp only;omega)];exact c1 o
 have bu:Hid _:=ba.out.trans (aK.mono ba.out.size);have nW:w.heap.size<w2.heap.size:=by have:=aK.size;omega
 clear aK c1 da ba dR;go_wp2_with fail;refine(gi rs v _ (HV.out.below bu.out) (by omega)).mono ?_;rintro e w3 ⟨v3,rfl,lE,bX⟩;have ec:Hid (cL _ _ _ _):=lE;have c3:w3.cell? ⟨w.heap.size,0,be⟩=AI (Y nm):=by
  rw[bX.cell (p:=⟨w.heap.size,0,be⟩) (by simp only;omega)];exact c2 0
 have C3:Hid (∀o,w3.cell? ⟨w.heap.size,o,be⟩=#[Y nm,U O st,U O lf,U O ad,Ia sv][o]?):=λo=>by
  rw[bX.cell (p:=⟨w.heap.size,o,be⟩) (by simp only;omega)];exact c2 o
 have cJ:Hid _:=bu.out.trans (bX.mono bu.out.size);have qL:w.heap.size<w3.heap.size:=by have:=bX.size;omega
 have RU:=bX.size;clear bX lE c2;go_wp2_with fail;go_region_held3 (λw'=>w'.cell? ⟨w.heap.size,0,be⟩=AI (Y nm)) (first|assumption|go_keep) (first|(go_at_call 126;refine(pS rs v _ ((HV.out.below cJ.out).below (Ib _ _).drew) (by omega)).mono ?_;rintro e w4 ⟨rfl,hown,eU⟩;obtain⟨cq,jW,cH⟩:=pT hown hm;rw[HH.out] at jW;rw[gj.out] at cH;have hcq:cq=p:=(by simp at cH;exact cH.symm);subst hcq;have rJ:(Instr.lookup 125 (.map (AI w3.heap.size)) (Y nm) true).run AS w4=.ok (Ik #[U O p,Ia true]) w4:=jW;clear jW cH hown;have fO:Hid (Below w3.heap.size w3 w4):=(Ib w3.heap.size w3).drew.trans eU;have hS:w4.cell? ⟨w.heap.size,0,be⟩=AI (Y nm):=((eU.cell (p:=⟨w.heap.size,0,be⟩) qL).trans c3);clear eU))
 obtain⟨a3,Eh,zz⟩:=ec.out.slice;subst zz;have C4:∀o,w4.cell? ⟨w.heap.size,o,be⟩=#[Y nm,U O st,U O lf,U O ad,Ia sv][o]?:=λo=>by
  rw[fO.out.cell (p:=⟨w.heap.size,o,be⟩) qL];exact C3.out o
 have nX:Hid (cL _ _ _ _):=ec.out.below fO.out;have iy:Hid _:=cJ.out.trans (fO.out.mono cJ.out.size);have ju:w2.heap.size<=w4.heap.size:=by have:=fO.out.size;omega
 have V3:Hid (mR w4 v rs):=HV.out.below iy.out;clear ec C3 fO cJ c3 rJ HV;obtain⟨pa,ca,hvv,_,cR⟩:=V3.out;subst hvv;obtain⟨b,off,RW,kA,hr⟩:∃b off,pa=AI ⟨b,off,be⟩/\b<w4.heap.size/\mS w4 b off rs:=by
  rcases cR with h|h
  .rw[h] at hp;simp at hp
  .exact h
 subst RW;obtain⟨e0,e1,e2,e3,e4,e5⟩:=hr p hp;have hN:=λw=>oL ⟨nm,st,lf,ad,sv⟩ (rs.getD p dr).m w hm Hw;rw[Bh.out,RV] at hN;simp only[beq_self_eq_true,Bool.true_and] at hN;clear cR hr V3;generalize(rs.getD p dr)=rp at *;obtain⟨⟨yn,ys,yl,ya,yv⟩,ytd⟩:=rp;simp only at e0 e1 e2 e3 e4 e5 hN xu;have RX:=xu.symm;clear xu;subst RX;generalize V4:rs.length=n at *;have HN:Hid _:=V4;clear V4;go_wp2_with fail;have E0:=Iq (C4 0);have E1:=Iq (C4 1);have E2:=Iq (C4 2);have E3:=Iq (C4 3);have E4:=Iq (C4 4);have F0:=Iq e0;have F1:=Iq e1;have F2:=Iq e2;have F3:=Iq e3;have F4:=Iq e4;have cN:∀d os,Calls AS 162 #[Ij #[Y nm,U O st,U O lf,U O ad,Ia sv],Ij #[Y nm,U O ys,U O yl,U O ya,Ia yv]] (Im (Iz w4 d) os) λe fT=>e=AT (Ik #[Ia false,U O 0])/\∃p:Regrown,fT=Im (Iz w4 p.d) p.os:=λd os=>
  Calls.regrown_of ((hN _).mono (by rintro e w' ⟨rfl,hb⟩;exact⟨rfl,hb⟩))
 clear e0 e1 e2 e3 e4 e5 hN;refine IG (by kernel_rfl) (by kernel_rfl) ?_;repeat(quiet_step (exact cN _ _))
 refine bM λdq jL ee=>?_;clear cN E0 E1 E2 E3 E4 F0 F1 F2 F3 F4;have yM:Hid (cL w.heap.size (Im (Iz w4 dq) jL) (J a3 n Eh) rs):=(nX.out.below ee.out).base (by omega);have pD:Hid _:=iy.out.trans (ee.out.mono iy.out.size);clear nX ee;go_wp2_with fail;go_ret2;exact⟨_,rfl,yM.out,pD.out⟩
theorem Ei(rs:List bE)(v:Value)(m:Mem)(w:World)(hv:mR w v rs)(hm:m.name.size<=Il)(h0:dZ rs=0)(he:m.e=0)(p:Nat)(hp:p<rs.length)(xu:(rs.getD p dr).m.name=m.name)(RV:eb m (rs.getD p dr).m=true) :
 Calls AS 168 #[v,Ij #[Y m.name,U O m.state,U O m.aJ,U O m.addr,Ia m.server]] w λe w'=>∃v',e=AT (Ik #[v',U O 0])/\cL w.heap.size w' v' (rs.eraseIdx p++[⟨m,0⟩])/\Below w.heap.size w w':=by
 obtain⟨i0,fV,di,il,gT⟩:=I6 Tryz.vW;have HV:Hid (mR w v rs):=hv;have j7:=λ(w:World) (h:mR w v rs)=>gh rs v w h;rw[h0] at j7;have dR:=λw=>eX m w hm;rw[he] at dR;have HH:Hid (Maps.has (Dm (ff rs) rs.length) (kS m.name)=true):=(qV _ _ _).2 ⟨p,hp,by rw[dE];exact xu⟩;have gj:Hid ((Dm (ff rs) rs.length).atKey (kS m.name) (.lit (.int O 0))=.lit (.int O p)):=Hv _ _ _ _ p hp (by rw[dE];exact xu) (λi hi hk=>by rw[dE,<- xu];exact λe=>(fb h0).2.2.2 p i hi hk e.symm);have Bv:=(fb h0).1;have V2:Hid _:=(fb h0).2.1 p hp;have Hw:(rs.getD p dr).m.name.size<=Il:=by obtain⟨_,_,_,h,_⟩:=hv;exact h p
 have Bh:Hid _:=vX he V2.out xu.symm;clear h0 he hv V2;obtain⟨nm,st,lf,ad,sv⟩:=m;simp only at *;have sj:Below w.heap.size w (w.alloc (.cells #[Y nm,U O st,U O lf,U O ad,Ia sv] 50)):=(Ib _ _).alloc (Ic _) _;go_enter Tryz.func168,Tryz.ntmps168;go_wp2_with fail;refine(j7 _ (HV.out.below sj)).mono ?_;rintro e w1 ⟨rfl,aB⟩;have c1:∀o,w1.cell? ⟨w.heap.size,o,be⟩=#[Y nm,U O st,U O lf,U O ad,Ia sv][o]?:=λo=>by
  rw[aB.cell (p:=⟨w.heap.size,o,be⟩) (by simp)];exact cU rfl
 have ba:Hid _:=sj.trans (aB.mono (by simp));have da:w.heap.size<w1.heap.size:=by have:=aB.size;simp at this;omega
 clear aB sj j7;go_wp2_with fail;refine(dR _).mono ?_;rintro e w2 ⟨rfl,aK⟩;have c2:∀o,w2.cell? ⟨w.heap.size,o,be⟩=#[Y nm,U O st,U O lf,U O ad,Ia sv][o]?:=λo=>by
  rw[aK.cell (p:=⟨w.heap.size,o,be⟩) (by simp only;omega)];exact c1 o
 have bu:Hid _:=ba.out.trans (aK.mono ba.out.size);have nW:w.heap.size<w2.heap.size:=by have:=aK.size;omega
 clear aK c1 da ba dR;go_wp2_with fail;refine(gi rs v _ (HV.out.below bu.out) (by omega)).mono ?_;rintro e w3 ⟨v3,rfl,lE,bX⟩;have ec:Hid (cL _ _ _ _):=lE;have c3:w3.cell? ⟨w.heap.size,0,be⟩=AI (Y nm):=by
  rw[bX.cell (p:=⟨w.heap.size,0,be⟩) (by simp only;omega)];exact c2 0
 have C3:Hid (∀o,w3.cell? ⟨w.heap.size,o,be⟩=#[Y nm,U O st,U O lf,U O ad,Ia sv][o]?):=λo=>by
  rw[bX.cell (p:=⟨w.heap.size,o,be⟩) (by simp only;omega)];exact c2 o
 have cJ:Hid _:=bu.out.trans (bX.mono bu.out.size);have qL:w.heap.size<w3.heap.size:=by have:=bX.size;omega
 have RU:=bX.size;clear bX lE c2;go_wp2_with fail;go_region_held3 (λw'=>w'.cell? ⟨w.heap.size,0,be⟩=AI (Y nm)) (first|assumption|go_keep) (first|(go_at_call 126;refine(pS rs v _ ((HV.out.below cJ.out).below (Ib _ _).drew) (by omega)).mono ?_;rintro e w4 ⟨rfl,hown,eU⟩;obtain⟨cq,jW,cH⟩:=pT hown hm;rw[HH.out] at jW;rw[gj.out] at cH;have hcq:cq=p:=(by simp at cH;exact cH.symm);subst hcq;have rJ:(Instr.lookup 125 (.map (AI w3.heap.size)) (Y nm) true).run AS w4=.ok (Ik #[U O p,Ia true]) w4:=jW;clear jW cH hown;have fO:Hid (Below w3.heap.size w3 w4):=(Ib w3.heap.size w3).drew.trans eU;have hS:w4.cell? ⟨w.heap.size,0,be⟩=AI (Y nm):=((eU.cell (p:=⟨w.heap.size,0,be⟩) qL).trans c3);clear eU))
 obtain⟨a3,Eh,zz⟩:=ec.out.slice;subst zz;have C4:∀o,w4.cell? ⟨w.heap.size,o,be⟩=#[Y nm,U O st,U O lf,U O ad,Ia sv][o]?:=λo=>by
  rw[fO.out.cell (p:=⟨w.heap.size,o,be⟩) qL];exact C3.out o
 have nX:Hid (cL _ _ _ _):=ec.out.below fO.out;have iy:Hid _:=cJ.out.trans (fO.out.mono cJ.out.size);have ju:w2.heap.size<=w4.heap.size:=by have:=fO.out.size;omega
 have V3:Hid (mR w4 v rs):=HV.out.below iy.out;clear ec C3 fO cJ c3 rJ HV;obtain⟨pa,ca,hvv,_,cR⟩:=V3.out;subst hvv;obtain⟨b,off,RW,kA,hr⟩:∃b off,pa=AI ⟨b,off,be⟩/\b<w4.heap.size/\mS w4 b off rs:=by
  rcases cR with h|h
  .rw[h] at hp;simp at hp
  .exact h
 subst RW;obtain⟨e0,e1,e2,e3,e4,e5⟩:=hr p hp;have hN:=λw=>oL ⟨nm,st,lf,ad,sv⟩ (rs.getD p dr).m w hm Hw;rw[Bh.out,RV] at hN;simp only[beq_self_eq_true,Bool.true_and] at hN;clear cR hr V3;generalize(rs.getD p dr)=rp at *;obtain⟨⟨yn,ys,yl,ya,yv⟩,ytd⟩:=rp;simp only at e0 e1 e2 e3 e4 e5 hN xu;have RX:=xu.symm;clear xu;subst RX;generalize V4:rs.length=n at *;have HN:Hid _:=V4;clear V4;go_wp2_with fail;have E0:=Iq (C4 0);have E1:=Iq (C4 1);have E2:=Iq (C4 2);have E3:=Iq (C4 3);have E4:=Iq (C4 4);have F0:=Iq e0;have F1:=Iq e1;have F2:=Iq e2;have F3:=Iq e3;have F4:=Iq e4;have cN:∀d os,Calls AS 162 #[Ij #[Y nm,U O st,U O lf,U O ad,Ia sv],Ij #[Y nm,U O ys,U O yl,U O ya,Ia yv]] (Im (Iz w4 d) os) λe fT=>e=AT (Ik #[Ia true,U O 0])/\∃p:Regrown,fT=Im (Iz w4 p.d) p.os:=λd os=>
  Calls.regrown_of ((hN _).mono (by rintro e w' ⟨rfl,hb⟩;exact⟨rfl,hb⟩))
 clear e0 e1 e2 e3 e4 e5 hN;refine IG (by kernel_rfl) (by kernel_rfl) ?_;repeat(quiet_step (exact cN _ _))
 refine bM λdq jL ee=>?_;clear cN E0 E1 E2 E3 E4 F0 F1 F2 F3 F4;have Mf:Hid _:=HN;obtain⟨g,c,RY,MK⟩:∃g c,a3=AI ⟨g,0,be⟩/\Eh=c:=by
  rcases nX.out.2 with⟨_,h0⟩|⟨g,c,cur,h,_⟩
  .have:=HN.out;omega
  .simp only[I0] at h
   exact⟨g,c,h.1,h.2.2⟩
 subst RY;subst MK;have yM:Hid (cL _ _ _ _):=nX.out.below ee.out;have pD:Hid _:=iy.out.trans (ee.out.mono iy.out.size);have C6:∀o,(Im (Iz w4 dq) jL).cell? ⟨w.heap.size,o,be⟩=#[Y nm,U O st,U O lf,U O ad,Ia sv][o]?:=λo=>by
  rw[ee.out.cell (p:=⟨w.heap.size,o,be⟩) (by simp only;omega)];exact C4 o
 have PM:w2.heap.size<=(Im (Iz w4 dq) jL).heap.size:=by have:=ee.out.size;omega
 clear nX ee C4;generalize Im (Iz w4 dq) jL=w6 at *;go_wp2_with fail;refine(Bs rs n p g Eh w2.heap.size _ HN.out yM.out hp (by omega)).mono ?_;rintro e w7 ⟨rfl,ho7,GD⟩;have C7:∀o,w7.cell? ⟨w.heap.size,o,be⟩=#[Y nm,U O st,U O lf,U O ad,Ia sv][o]?:=λo=>by
  rw[GD.cell (p:=⟨w.heap.size,o,be⟩) (by simp only;omega)];exact C6 o
 have yN:Hid _:=pD.out.trans (GD.mono (by omega));have hz7:w2.heap.size<=w7.heap.size:=by have:=GD.size;omega
 have ML:Hid ((rs.eraseIdx p).length=n-1):=(show(rs.eraseIdx p).length=n-1 by rw[Qc,if_pos (by rw[HN.out];exact hp),HN.out]);have HO8:Hid (∀ob,(w7.alloc ob).ownsRow w2.heap.size 111 6 (J (AI ⟨g,0,be⟩) (n-1) Eh) (n-1) (eW (rs.eraseIdx p))):=λob=>by
  have h:=cL.below (ms:=rs.eraseIdx p) ho7 ((Ib _ _).alloc (Ic _) ob);have h2:(w7.alloc ob).ownsRow w2.heap.size 111 6 (J (AI ⟨g,0,be⟩) (n-1) Eh) (rs.eraseIdx p).length (eW (rs.eraseIdx p)):=h;rw[ML.out] at h2;exact h2
 have Mg:Hid (∀k,(Value.slice (AI ⟨g,0,be⟩) (n-1) Eh).ownBlock=AI k->w.heap.size<=k):=λk hk=>by have:=(cL.lt (ms:=rs.eraseIdx p) ho7 k hk).1;omega
 have HSN:Hid (∀(w':World) (v':Value),w'.ownsRow w2.heap.size 111 6 v' (n-1+1) (eW (rs.eraseIdx p)++(bE.mk ⟨nm,st,lf,ad,sv⟩ 0).cs)->cL w.heap.size w' v' (rs.eraseIdx p++[⟨⟨nm,st,lf,ad,sv⟩,0⟩])):=λw' v' h=>(vY (by rw[ML.out];exact h)).base (by omega);have akq:n-1<=19:=by omega
 clear GD ho7 C6 pD yM ML;generalize Vg:n-1=n1 at *;clear Vg;go_wp2_with (at_builtin;refine wpList_append_own _ rfl _ _ 35 rfl w2.heap.size 111 i0 _ 6 56 Oc fV di il gT rfl (by omega) _ n1 (eW (rs.eraseIdx p)) rfl ?hown ⟨w7.heap.size,0,be⟩ 1 1 (bE.mk ⟨nm,st,lf,ad,sv⟩ 0).cs rfl rfl ?hnews (xv _) ?h63 ?hbytes ?hbase ?_)
 case hown=>exact HO8.out _
 case hnews=>(intro j u hj;rw[Addr.add_lit];exact(cU (by simp)).trans (by simpa[bE.cs] using hj))
 case h63=>(unfold Il;omega)
 case hbytes=>omega
 case hbase=>(simp;omega)
 intro v' w8 r1 r2 r3;have R1:Hid (cL _ _ _ _):=HSN.out w8 v' r1;have R2:Hid _:=(yN.out.alloc yN.out.size _).grown r2 (by have:=yN.out.size;simp;omega) (λk hk=>Mg.out k hk);clear r1 r2 r3;go_wp2_with fail;go_ret2;exact⟨v',rfl,R1.out,R2.out⟩
theorem jM(a b:ByteArray):(a.toList==b.toList)=decide (a=b):=by
 by_cases h:a=b
 .subst h;simp
 .have h2:¬ a.toList=b.toList:=λe=>h (qQ (by rw[Lib.toList_data,Lib.toList_data] at e;exact e))
  simp[h,h2]
end Go.Proofs.YtfidhgjmifendaaGreatDoor
namespace Go.Proofs.YtfidhgjmifendaaGreatDoor
namespace Wh
open Go.RowKit
end Wh
end Go.Proofs.YtfidhgjmifendaaGreatDoor
namespace Go.Proofs.YtfidhgjmifendaaGreatDoor
open Go.RowKit
theorem Tryz.RZ:(Tryz.prog.info? 102).map (λi=>(i.zero,i.size,i.bytes))=AI (AI (Ij #[U O 0,Y ⟨#[]⟩]),2,24):=by kernel_rfl
def GF:List Value:=[U O 0,Y ⟨#[]⟩]
theorem j8{g k:Nat}(hk:k≠g):∀(vs:List Value) (o:Nat) (w:World),(w.setCells g o vs).heap[k]?=w.heap[k]?
 |[],_,_=>rfl
 |v::r,o,w=>(j8 hk r (o+1) _).trans (Below.heap_setCell w ⟨g,o,be⟩ v k hk)
theorem xx{rs:List Lt.fg}{p n:Nat}(hn:rs.length=n)(hp:p<n):(AY (AY (Lt.fl rs) (p*2) (Lt.fl (rs.drop (p+1)))) ((n-1)*2) GF).take ((n-1)*2)=Lt.fl (rs.eraseIdx p):=by
 have hl:(Lt.fl rs).length=n*2:=by rw[Lt.cQ,hn]
 have hd:(Lt.fl (rs.drop (p+1))).length=(n-(p+1))*2:=by rw[Lt.cQ,JM,hn]
 refine oM (by rw[jC,jC,hl];omega) (by rw[Lt.cQ,Qc,if_pos (by omega),hn]) (λj hj=>?_);rw[kG _ _ _ _ (by omega),List.eraseIdx_eq_take_drop_succ,Lt.cK];have ht:(Lt.fl (rs.take p)).length=p*2:=by rw[Lt.cQ,IA,hn];omega
 by_cases hjp:j<p*2
 .rw[kG _ _ _ _ (by omega),Js (by omega),<- Lt.fk,IN hjp]
 .rw[Jr (by omega),ht]
  have:=xq (Lt.fl (rs.drop (p+1))) (Lt.fl rs) (p*2) (j-p*2) (by rw[hd];omega) (by rw[hd,hl];omega);rw[show p*2+(j-p*2)=j by omega] at this;exact this
theorem Bw(w:World)(ty:I5)(b o c:Nat)(hc:∀j,j<2->(w.cell? ⟨b,o+j,be⟩).isSome=true)(hf:∀j,j<2->w.frozen? ⟨b,o+j,be⟩=false) : (Ov #[25] ty #[J (AI ⟨b,o,be⟩) 1 c]).run AS w=.ok (Ik #[]) (w.setCells b o GF):=by
 have V1:(O9 (Value.agg #[U O 0,Y ⟨#[]⟩]).cells 1).toList=GF:=by kernel_rfl
 have pC:=run_storeCells_cells (P:=AS) b o GF 0 w (λj hj=>by simpa using hc j (by simpa[GF] using hj)) (λj hj=>by simpa using hf j (by simpa[GF] using hj)) (by intro v hv;simp[GF] at hv;rcases hv with rfl|rfl<;>rfl);simp only[Nat.add_zero] at pC;simp[Ov,QG Qa,V1,pC]
theorem zA(rs:List Lt.fg)(n p g c base:Nat)(w:World)(hn:rs.length=n)(ho:Lt.Own base w (J (AI ⟨g,0,be⟩) n c) rs)(hp:p<n)(zx:n<=1000) :
 Calls AS 142 #[J (AI ⟨g,0,be⟩) n c,U O p,U O (p+1)] w λe w'=>e=AT (J (AI ⟨g,0,be⟩) (n-1) c)/\Lt.Own base w' (J (AI ⟨g,0,be⟩) (n-1) c) (rs.eraseIdx p)/\Below base w w'/\∀k,k≠g->w'.heap[k]?=w.heap[k]?:=by
 obtain⟨i0,fV,di,da,nW⟩:=I6 Tryz.RZ;have HO:Hid (w.ownsRow base 102 2 (J (AI ⟨g,0,be⟩) n c) n (Lt.fl rs)):=by rw[<- hn];rw[<- hn] at ho;exact ho
 obtain⟨du,fP,dR⟩:base<=g/\n<=c/\c<=Il:=by
  rcases HO.out.2 with⟨hv,_⟩|⟨g',c',cur,hv,eD,hg,fP,dR,cf,bj⟩
  .cases hv
  .simp only[I0,It,JK,and_true,true_and] at hv
   obtain⟨rfl,rfl⟩:=hv;exact⟨eD,fP,dR⟩
 unfold Il at dR;have RS:(0:Int)<=(p:Int)+1:=by omega
 have xt:(p:Int)+1<=(n:Int):=by omega
 have sL:((p:Int)+1).toNat=p+1:=by omega
 have hic:p<=c:=by omega
 have fW:∀k,k<n*2->w.cell? ⟨g,k,be⟩=(Lt.fl rs)[k]?:=λk hk=>by
  rcases HO.out.2 with⟨hv,_⟩|⟨g',c',cur,hv,eD,hg,_,_,cf,bj⟩
  .cases hv
  .simp only[I0,It,JK,and_true,true_and] at hv
   obtain⟨rfl,rfl⟩:=hv;rw[ae hg,<- bj,IN hk,Array.getElem?_toList]
 have Hq:(Lt.fl rs).length=n*2:=by rw[Lt.cQ,hn]
 have S1:Hid ((Lt.fl (rs.drop (p+1))).length=(n-(p+1))*2):=(show(Lt.fl (rs.drop (p+1))).length=_ by rw[Lt.cQ,JM,hn]);obtain⟨A,hA,hnews⟩:∃A:Addr,(if c=p+1 then AI (⟨g,0,be⟩:Addr) else AI ⟨g,(p+1)*2,be⟩)=AI A/\Hid (∀j u,(Lt.fl (rs.drop (p+1)))[j]?=AI u->w.drew.cell? (A.add j)=AI u):=by
  by_cases h:c=p+1
  .refine⟨_,if_pos h,λj u hj=>?_⟩
   have:j<(Lt.fl (rs.drop (p+1))).length:=(Jl.1 hj).1
   rw[S1.out] at this;omega
  .refine⟨_,if_neg h,λj u hj=>?_⟩
   have hj1:=(Jl.1 hj).1;rw[S1.out] at hj1;rw[Addr.add_lit];show w.cell? _=_;rw[fW _ (by omega),<- hj,<- Lt.fm,Uf]
 have S2:Hid (∀u∈Lt.fl (rs.drop (p+1)),u.oneCell'=true):=Lt.gV _;have S3:Hid (∀j,j<(Lt.fl (rs.drop (p+1))).length->(w.drew.cell? ⟨g,0+p*2+j,be⟩).isSome=true/\w.drew.frozen? ⟨g,0+p*2+j,be⟩=false):=λj hj=>by
  rw[S1.out] at hj;refine⟨?_,I7 HO.out _⟩;show(w.cell? _).isSome=true;rw[fW _ (by omega),If (by omega)];rfl
 have HD:Hid ((w.drew.setCells g (p*2) (Lt.fl (rs.drop (p+1)))).ownsRow base 102 2 (J (AI ⟨g,0,be⟩) n c) n (AY (Lt.fl rs) (p*2) (Lt.fl (rs.drop (p+1))))):=gf _ _ _ _ (show w.drew.ownsRow base 102 2 (J (AI ⟨g,0,be⟩) n c) n (Lt.fl rs) from HO.out);have Ht:∀ty,(Ov #[25] ty #[J (AI ⟨g,(p+(n-(p+1)))*2,be⟩) (n-(p+(n-(p+1)))) (c-(p+(n-(p+1))))]).run AS (w.drew.setCells g (p*2) (Lt.fl (rs.drop (p+1))))=.ok (Ik #[]) ((w.drew.setCells g (p*2) (Lt.fl (rs.drop (p+1)))).setCells g ((n-1)*2) GF):=λty=>by
  rw[show p+(n-(p+1))=n-1 by omega,show n-(n-1)=1 by omega];exact Bw _ ty g _ _ (λj hj=>by rw[Oy HD.out _ (by omega),If (by rw[jC,Hq];omega)];rfl) (λj _=>I7 HD.out _)
 have HF:Hid (((w.drew.setCells g (p*2) (Lt.fl (rs.drop (p+1)))).setCells g ((n-1)*2) GF).ownsRow base 102 2 (J (AI ⟨g,0,be⟩) (n-1) c) (n-1) (Lt.fl (rs.eraseIdx p))):=by
  have h:=mQ (m:=n-1) (gf GF _ ((n-1)*2) _ HD.out) (by omega);rw[xx hn hp] at h;exact h
 have HL:Hid ((rs.eraseIdx p).length=n-1):=(show(rs.eraseIdx p).length=n-1 by rw[Qc,if_pos (by omega),hn]);have Bt:Hid (Below base w ((w.drew.setCells g (p*2) (Lt.fl (rs.drop (p+1)))).setCells g ((n-1)*2) GF)):=dY du _ _ _ _ (dY du _ _ _ _ (Ib _ _).drew);have HOT:Hid (∀k,k≠g->((w.drew.setCells g (p*2) (Lt.fl (rs.drop (p+1)))).setCells g ((n-1)*2) GF).heap[k]?=w.heap[k]?):=λk hk=>(j8 hk _ _ _).trans (j8 hk _ _ _);have Bu:Hid (p+(n-(p+1))=n-1):=(show p+(n-(p+1))=n-1 by omega);clear ho fW;go_enter Tryz.func142,Tryz.ntmps142;go_wp2_with fail;go_region_law (refine step_append_room rfl (.tmp 22) (.tmp 25) 25 rfl 102 i0 2 Qa fV da g 0 p c (by simp[No,Oq]) A (n-(p+1)) (c-(p+1)) (Lt.fl (rs.drop (p+1))) (by simp[No,Oq]) S1.out hnews.out S2.out (by omega) S3.out ?_)
 go_wp2_with fail;go_ret;refine⟨?_,?_,Bt.out,HOT.out⟩
 .have xu:=Bu.out
  simp only[xu];rfl
 .show World.ownsRow _ _ _ _ _ (rs.eraseIdx p).length _
  rw[HL.out];exact HF.out
end Go.Proofs.YtfidhgjmifendaaGreatDoor
