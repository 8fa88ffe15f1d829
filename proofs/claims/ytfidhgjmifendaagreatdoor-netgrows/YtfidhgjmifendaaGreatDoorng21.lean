import Derived.Test.YtfidhgjmifendaaGreatDoorng5
import Derived.Test.YtfidhgjmifendaaGreatDoorng12
set_option maxHeartbeats 6400000
set_option maxRecDepth 1000000
open List renaming length_set→IT,length_cons→Iz,getElem?_set_ne→JP,getElem?_set_self→Oh,length_take→IB,getElem?_take_of_lt→IM,getElem?_eq_none→I0,length_drop→JL,length_eraseIdx→O9,getElem?_append_left→Js,getElem?_append_right→Jr,getElem?_eq_some_iff→Jm,getElem?_drop→Uf,getElem?_eq_getElem→Ie,getD→Iq,take_succ_eq_append_getElem→II,filter_append→Qq,append_nil→JF
open Go.Value renaming slice→J,string→Y,int→U,bool→Ia,tuple→Im,agg→Ik,pointer→If
open Option renaming some→AI,none→be
open Go renaming TypeId→I4,run_underlying→QG,info_parts→I6,maxLen→Io,cell_regrown→Ig,redrawn→Iv,wp_region_quiet_below→IA
open Go.World.ownsRow renaming stored→IK,frozenAt→I7,cellAt→Ox
open Go.Value.slice renaming injEq→IZ
open Option.some renaming injEq→It
open Go.Addr.mk renaming injEq→JJ
open Go.IntKind renaming i64→O
open Go.Builtin renaming clear_→Ot,zeroCells→O8
open Go.Proofs.Tryz renaming prog→AS,underlying35→Oc,underlying25→O6
open Go.Ending renaming returned→AT
open Go.RowKit.Below renaming refl→Ib
open Go.Act renaming eval→No,put→Om
open Go.World renaming ownsRow→J2,block_lt_of_cell?→Iy
open Nat renaming le_refl→Ic,zero_add→ID
open Go.Sort renaming grow→Ij
namespace Go.Proofs.YtfidhgjmifendaaGreatDoor
open Go.RowKit
def Au:List Value->Nat->List Value->List Value
 |xs,_,[]=>xs
 |xs,o,v::r=>Au (xs.set o v) (o+1) r
theorem jn:∀(vs xs:List Value) (o:Nat),(Au xs o vs).length=xs.length
 |[],_,_=>rfl
 |v::r,xs,o=>by rw[Au,jn r,IT]
theorem kd:∀(vs xs:List Value) (o k:Nat),k<o\/o+vs.length<=k->(Au xs o vs)[k]?=xs[k]?
 |[],_,_,_,_=>rfl
 |v::r,xs,o,k,h=>by
  simp only[Iz] at h;rw[Au,kd r _ _ k (by omega),JP (by omega)]
theorem wS:∀(vs xs:List Value) (o j:Nat),j<vs.length->o+vs.length<=xs.length->(Au xs o vs)[o+j]?=vs[j]?
 |[],_,_,_,h,_=>by simp at h
 |v::r,xs,o,0,_,h2=>by
  simp only[Iz] at h2;rw[Au,kd r _ _ _ (by omega)];simp[Oh (show o<xs.length by omega)]
 |v::r,xs,o,j+1,h,h2=>by
  simp only[Iz] at h h2;rw[Au,show o+(j+1)=(o+1)+j by omega,wS r _ _ j (by omega) (by rw[IT];omega)];simp
theorem gd{base g n cap:Nat}{e:I4}{size:Nat}:∀(vs xs:List Value) (o:Nat) (w:World),w.ownsRow base e size (J (AI ⟨g,0,be⟩) n cap) n xs->(w.setCells g o vs).ownsRow base e size (J (AI ⟨g,0,be⟩) n cap) n (Au xs o vs)
 |[],_,_,_,h=>h
 |v::r,_,o,_,h=>gd r _ _ _ (IK h o v).1
theorem dU{base g:Nat}(hg:base<=g):∀(vs:List Value) (o:Nat) (w0 w:World),Below base w0 w->Below base w0 (w.setCells g o vs)
 |[],_,_,_,h=>h
 |v::r,o,w0,_,h=>dU hg r _ w0 _ (h.setCell (p:=⟨g,o,be⟩) hg v)
theorem mD{w:World}{base g n m cap:Nat}{e:I4}{size:Nat}{xs:List Value}(h:w.ownsRow base e size (J (AI ⟨g,0,be⟩) n cap) n xs)(hm:m<=n):w.ownsRow base e size (J (AI ⟨g,0,be⟩) m cap) m (xs.take (m*size)):=by
 obtain⟨h1,h2⟩:=h;have hle:m*size<=n*size:=Nat.mul_le_mul_right _ hm;refine⟨by rw[IB,h1];omega,?_⟩;rcases h2 with⟨hv,_⟩|⟨g',c',cur,hv,ey,hg,fK,dN,bZ,bf⟩
 .cases hv
 .simp only[IZ,It,JJ,and_true,true_and] at hv
  obtain⟨rfl,rfl⟩:=hv;refine .inr ⟨g,cap,cur,rfl,ey,hg,by omega,dN,bZ,?_⟩;rw[<- bf,List.take_take,Nat.min_eq_left hle]
def zR:List Value:=[Y ⟨#[]⟩,U O 0,U O 0,U O 0,Ia false,U O 0]
theorem oh{xs ys:List Value}{k:Nat}(hl:k<=xs.length)(hy:ys.length=k)(h:∀j,j<k->xs[j]?=ys[j]?):xs.take k=ys:=by
 apply List.ext_getElem?;intro j;by_cases hj:j<k
 .rw[IM hj,h j hj]
 .rw[I0 (by rw[IB];omega),I0 (by omega)]
theorem yP{rs:List bK}{p n:Nat}(hn:rs.length=n)(hp:p<n):(Au (Au (eR rs) (p*6) (eR (rs.drop (p+1)))) ((n-1)*6) zR).take ((n-1)*6)=eR (rs.eraseIdx p):=by
 have hl:(eR rs).length=n*6:=by rw[dX,hn]
 have hd:(eR (rs.drop (p+1))).length=(n-(p+1))*6:=by rw[dX,JL,hn]
 refine oh (by rw[jn,jn,hl];omega) (by rw[dX,O9,if_pos (by omega),hn]) (λj hj=>?_);rw[kd _ _ _ _ (by omega),List.eraseIdx_eq_take_drop_succ,sV];have ht:(eR (rs.take p)).length=p*6:=by rw[dX,IB,hn];omega
 by_cases hjp:j<p*6
 .rw[kd _ _ _ _ (by omega),Js (by omega),<- sW,IM hjp]
 .rw[Jr (by omega),ht]
  have:=wS (eR (rs.drop (p+1))) (eR rs) (p*6) (j-p*6) (by rw[hd];omega) (by rw[hd,hl];omega);rw[show p*6+(j-p*6)=j by omega] at this;exact this
theorem uN(w:World)(ty:I4)(b o c:Nat)(hc:∀j,j<6->(w.cell? ⟨b,o+j,be⟩).isSome=true)(hf:∀j,j<6->w.frozen? ⟨b,o+j,be⟩=false) : (Ot #[35] ty #[J (AI ⟨b,o,be⟩) 1 c]).run AS w=.ok (Im #[]) (w.setCells b o zR):=by
 have VB:(O8 (Value.agg #[Y ⟨#[]⟩,U O 0,U O 0,U O 0,Ia false,U O 0]).cells 1).toList=zR:=by kernel_rfl
 have oG:=run_storeCells_cells (P:=AS) b o zR 0 w (λj hj=>by simpa using hc j (by simpa[zR] using hj)) (λj hj=>by simpa using hf j (by simpa[zR] using hj)) (by intro v hv;simp[zR] at hv;rcases hv with rfl|rfl|rfl|rfl<;>rfl);simp only[Nat.add_zero] at oG;simp[Ot,QG Oc,VB,oG]
theorem Bd(rs:List bK)(n p g c base:Nat)(w:World)(hn:rs.length=n)(ho:cE base w (J (AI ⟨g,0,be⟩) n c) rs)(hp:p<n)(yQ:n<=1000) :
 Calls AS 210 #[J (AI ⟨g,0,be⟩) n c,U O p,U O (p+1)] w λe w'=>e=AT (J (AI ⟨g,0,be⟩) (n-1) c)/\cE base w' (J (AI ⟨g,0,be⟩) (n-1) c) (rs.eraseIdx p)/\Below base w w':=by
 obtain⟨i0,fW,dd,cX,ny⟩:=I6 Tryz.vB;have HO:Hid (w.ownsRow base 111 6 (J (AI ⟨g,0,be⟩) n c) n (eR rs)):=by rw[<- hn];rw[<- hn] at ho;exact ho
 obtain⟨di,fK,dN⟩:base<=g/\n<=c/\c<=Io:=by
  rcases HO.out.2 with⟨hv,_⟩|⟨g',c',cur,hv,ey,hg,fK,dN,bZ,bf⟩
  .cases hv
  .simp only[IZ,It,JJ,and_true,true_and] at hv
   obtain⟨rfl,rfl⟩:=hv;exact⟨ey,fK,dN⟩
 unfold Io at dN;have R0:(0:Int)<=(p:Int)+1:=by omega
 have sX:(p:Int)+1<=(n:Int):=by omega
 have vC:((p:Int)+1).toNat=p+1:=by omega
 have hic:p<=c:=by omega
 have fS:∀k,k<n*6->w.cell? ⟨g,k,be⟩=(eR rs)[k]?:=λk hk=>by
  rcases HO.out.2 with⟨hv,_⟩|⟨g',c',cur,hv,ey,hg,_,_,bZ,bf⟩
  .cases hv
  .simp only[IZ,It,JJ,and_true,true_and] at hv
   obtain⟨rfl,rfl⟩:=hv;rw[ae hg,<- bf,IM hk,Array.getElem?_toList]
 have Hf:(eR rs).length=n*6:=by rw[dX,hn]
 have S1:Hid ((eR (rs.drop (p+1))).length=(n-(p+1))*6):=(show(eR (rs.drop (p+1))).length=_ by rw[dX,JL,hn]);obtain⟨A,hA,hnews⟩:∃A:Addr,(if c=p+1 then AI (⟨g,0,be⟩:Addr) else AI ⟨g,(p+1)*6,be⟩)=AI A/\Hid (∀j u,(eR (rs.drop (p+1)))[j]?=AI u->w.drew.cell? (A.add j)=AI u):=by
  by_cases h:c=p+1
  .refine⟨_,if_pos h,λj u hj=>?_⟩
   have:j<(eR (rs.drop (p+1))).length:=(Jm.1 hj).1
   rw[S1.out] at this;omega
  .refine⟨_,if_neg h,λj u hj=>?_⟩
   have hj1:=(Jm.1 hj).1;rw[S1.out] at hj1;rw[Addr.add_lit];show w.cell? _=_;rw[fS _ (by omega),<- hj,<- yR,Uf]
 have S2:Hid (∀u∈eR (rs.drop (p+1)),u.oneCell'=true):=CO _;have S3:Hid (∀j,j<(eR (rs.drop (p+1))).length->(w.drew.cell? ⟨g,0+p*6+j,be⟩).isSome=true/\w.drew.frozen? ⟨g,0+p*6+j,be⟩=false):=λj hj=>by
  rw[S1.out] at hj;refine⟨?_,I7 HO.out _⟩;show(w.cell? _).isSome=true;rw[fS _ (by omega),Ie (by omega)];rfl
 have HD:Hid ((w.drew.setCells g (p*6) (eR (rs.drop (p+1)))).ownsRow base 111 6 (J (AI ⟨g,0,be⟩) n c) n (Au (eR rs) (p*6) (eR (rs.drop (p+1))))):=gd _ _ _ _ (show w.drew.ownsRow base 111 6 (J (AI ⟨g,0,be⟩) n c) n (eR rs) from HO.out);have Hk:∀ty,(Ot #[35] ty #[J (AI ⟨g,(p+(n-(p+1)))*6,be⟩) (n-(p+(n-(p+1)))) (c-(p+(n-(p+1))))]).run AS (w.drew.setCells g (p*6) (eR (rs.drop (p+1))))=.ok (Im #[]) ((w.drew.setCells g (p*6) (eR (rs.drop (p+1)))).setCells g ((n-1)*6) zR):=λty=>by
  rw[show p+(n-(p+1))=n-1 by omega,show n-(n-1)=1 by omega];exact uN _ ty g _ _ (λj hj=>by rw[Ox HD.out _ (by omega),Ie (by rw[jn,Hf];omega)];rfl) (λj _=>I7 HD.out _)
 have HF:Hid (((w.drew.setCells g (p*6) (eR (rs.drop (p+1)))).setCells g ((n-1)*6) zR).ownsRow base 111 6 (J (AI ⟨g,0,be⟩) (n-1) c) (n-1) (eR (rs.eraseIdx p))):=by
  have h:=mD (m:=n-1) (gd zR _ ((n-1)*6) _ HD.out) (by omega);rw[yP hn hp] at h;exact h
 have HL:Hid ((rs.eraseIdx p).length=n-1):=(show(rs.eraseIdx p).length=n-1 by rw[O9,if_pos (by omega),hn]);have mF:Hid (Below base w ((w.drew.setCells g (p*6) (eR (rs.drop (p+1)))).setCells g ((n-1)*6) zR)):=dU di _ _ _ _ (dU di _ _ _ _ (Ib _ _).drew);have Be:Hid (p+(n-(p+1))=n-1):=(show p+(n-(p+1))=n-1 by omega);clear ho fS;go_enter Tryz.func210,Tryz.ntmps210;go_wp2_with fail;go_region_law (refine step_append_room rfl (.tmp 22) (.tmp 25) 35 rfl 111 i0 6 Oc fW cX g 0 p c (by simp[No,Om]) A (n-(p+1)) (c-(p+1)) (eR (rs.drop (p+1))) (by simp[No,Om]) S1.out hnews.out S2.out (by omega) S3.out ?_)
 go_wp2_with fail;go_ret;refine⟨?_,?_,mF.out⟩
 .have wT:=Be.out
  simp only[wT];rfl
 .show J2 _ _ _ _ _ (rs.eraseIdx p).length _
  rw[HL.out];exact HF.out
end Go.Proofs.YtfidhgjmifendaaGreatDoor
namespace Go.Proofs.YtfidhgjmifendaaGreatDoor
open Go.RowKit Go.WideMaps Go.Maps
theorem fG{rs:List bK}(h:dV rs=0):rs.length<=20/\(∀j,j<rs.length->(rs.getD j dr).m.e=0)/\gR rs/\dI rs:=by
 unfold dV at h;by_cases h1:20<rs.length
 .rw[if_pos h1] at h;omega
 rw[if_neg h1] at h;by_cases h2:aU (gS rs)=0
 .rw[if_pos h2] at h
  by_cases h3:gR rs
  .rw[if_pos h3] at h
   by_cases h4:dI rs
   .refine⟨by omega,λj hj=>?_,h3,h4⟩
    have:=sY h2 j (by rw[kL];exact hj)
    rwa [kM] at this
   .rw[if_neg h4] at h;omega
  .rw[if_neg h3] at h;omega
 .rw[if_neg h2] at h;exact absurd h h2
theorem vD{a b:Mem}(ha:a.e=0)(hb:b.e=0)(hn:a.name=b.name):bN a b=0:=by
 have h:aO [a] [b]=0:=by rw[aO,jJ,jJ];simp[ha,hb]
 rw[bN,if_pos h,if_pos hn]
theorem Hl(rs:List bK)(v:Value)(m:Mem)(w:World)(hv:mG w v rs)(hm:m.name.size<=Io)(h0:dV rs=0)(he:m.e=0)(LV:CP rs m.name)(hl:rs.length=20) :
 Calls AS 168 #[v,Ik #[Y m.name,U O m.state,U O m.aM,U O m.addr,Ia m.server]] w λe w'=>e=AT (Im #[J be 0 0,U O 2])/\Below w.heap.size w w':=by
 obtain⟨i0,fW,dd,gY,gG⟩:=I6 Tryz.vB;have HV:Hid (mG w v rs):=hv;have jN:=λ(w:World) (h:mG w v rs)=>gf rs v w h;rw[h0] at jN;have dN:=λw=>eS m w hm;rw[he] at dN;have HH:Hid _:=CQ LV;clear h0 he hv;obtain⟨nm,st,lf,ad,sv⟩:=m;simp only at *;have rH:Below w.heap.size w (w.alloc (.cells #[Y nm,U O st,U O lf,U O ad,Ia sv] 50)):=(Ib _ _).alloc (Ic _) _;go_enter Tryz.func168,Tryz.ntmps168;go_wp2_with fail;refine(jN _ (HV.out.below rH)).mono ?_;rintro e w1 ⟨rfl,aB⟩;have c1:∀o,w1.cell? ⟨w.heap.size,o,be⟩=#[Y nm,U O st,U O lf,U O ad,Ia sv][o]?:=λo=>by
  rw[aB.cell (p:=⟨w.heap.size,o,be⟩) (by simp)];exact cR rfl
 have aY:Hid _:=rH.trans (aB.mono (by simp));have cX:w.heap.size<w1.heap.size:=by have:=aB.size;simp at this;omega
 clear aB rH jN;go_wp2_with fail;refine(dN _).mono ?_;rintro e w2 ⟨rfl,aI⟩;have c2:∀o,w2.cell? ⟨w.heap.size,o,be⟩=#[Y nm,U O st,U O lf,U O ad,Ia sv][o]?:=λo=>by
  rw[aI.cell (p:=⟨w.heap.size,o,be⟩) (by simp only;omega)];exact c1 o
 have bp:Hid _:=aY.out.trans (aI.mono aY.out.size);have ny:w.heap.size<w2.heap.size:=by have:=aI.size;omega
 clear aI c1 cX aY dN;go_wp2_with fail;refine(gh rs v _ (HV.out.below bp.out) (by omega)).mono ?_;rintro e w3 ⟨v3,rfl,kZ,bU⟩;have dY:Hid (cE _ _ _ _):=kZ;have c3:w3.cell? ⟨w.heap.size,0,be⟩=AI (Y nm):=by
  rw[bU.cell (p:=⟨w.heap.size,0,be⟩) (by simp only;omega)];exact c2 0
 have C3:Hid (∀o,w3.cell? ⟨w.heap.size,o,be⟩=#[Y nm,U O st,U O lf,U O ad,Ia sv][o]?):=λo=>by
  rw[bU.cell (p:=⟨w.heap.size,o,be⟩) (by simp only;omega)];exact c2 o
 have cF:Hid _:=bp.out.trans (bU.mono bp.out.size);have qb:w.heap.size<w3.heap.size:=by have:=bU.size;omega
 have R6:=bU.size;clear bU kZ c2;go_wp2_with fail;go_region_held3 (λw'=>w'.cell? ⟨w.heap.size,0,be⟩=AI (Y nm)) (first|assumption|go_keep) (first|(go_at_call 126;refine(o7 rs v _ ((HV.out.below cF.out).below (Ib _ _).drew) (by omega)).mono ?_;rintro e w4 ⟨rfl,hown,eP⟩;obtain⟨cq,jK,cH⟩:=o8 hown hm;rw[HH.out] at jK;have qU:(Instr.lookup 125 (.map (AI w3.heap.size)) (Y nm) true).run AS w4=.ok (Im #[U O cq,Ia false]) w4:=jK;clear jK cH hown;have fE:Hid (Below w3.heap.size w3 w4):=(Ib w3.heap.size w3).drew.trans eP;have hS:w4.cell? ⟨w.heap.size,0,be⟩=AI (Y nm):=((eP.cell (p:=⟨w.heap.size,0,be⟩) qb).trans c3);clear eP))
 obtain⟨a3,DX,yS⟩:=dY.out.slice;subst yS;have gX:Hid _:=cF.out.trans (fE.out.mono cF.out.size);clear dY C3 fE cF c3 qU;rw[hl];go_wp2_with fail;go_ret2;exact⟨rfl,gX.out⟩
theorem MB(rs:List bK)(v:Value)(m:Mem)(w:World)(hv:mG w v rs)(hm:m.name.size<=Io)(h0:dV rs=0)(he:m.e=0)(p:Nat)(hp:p<rs.length)(wT:(rs.getD p dr).m.name=m.name)(R7:eH m (rs.getD p dr).m=false) :
 Calls AS 168 #[v,Ik #[Y m.name,U O m.state,U O m.aM,U O m.addr,Ia m.server]] w λe w'=>∃v',e=AT (Im #[v',U O 0])/\cE w.heap.size w' v' rs/\Below w.heap.size w w':=by
 obtain⟨i0,fW,dd,gY,gG⟩:=I6 Tryz.vB;have HV:Hid (mG w v rs):=hv;have jN:=λ(w:World) (h:mG w v rs)=>gf rs v w h;rw[h0] at jN;have dN:=λw=>eS m w hm;rw[he] at dN;have HH:Hid (Maps.has (Dm (eX rs) rs.length) (kS m.name)=true):=(qp _ _ _).2 ⟨p,hp,by rw[dC];exact wT⟩;have fb:Hid ((Dm (eX rs) rs.length).atKey (kS m.name) (.lit (.int O 0))=.lit (.int O p)):=Hn _ _ _ _ p hp (by rw[dC];exact wT) (λi hi hk=>by rw[dC,<- wT];exact λe=>(fG h0).2.2.2 p i hi hk e.symm);have Bf:=(fG h0).1;have VC:Hid _:=(fG h0).2.1 p hp;have Ho:(rs.getD p dr).m.name.size<=Io:=by obtain⟨_,_,_,h,_⟩:=hv;exact h p
 have AQ:Hid _:=vD he VC.out wT.symm;clear h0 he hv VC;obtain⟨nm,st,lf,ad,sv⟩:=m;simp only at *;have rH:Below w.heap.size w (w.alloc (.cells #[Y nm,U O st,U O lf,U O ad,Ia sv] 50)):=(Ib _ _).alloc (Ic _) _;go_enter Tryz.func168,Tryz.ntmps168;go_wp2_with fail;refine(jN _ (HV.out.below rH)).mono ?_;rintro e w1 ⟨rfl,aB⟩;have c1:∀o,w1.cell? ⟨w.heap.size,o,be⟩=#[Y nm,U O st,U O lf,U O ad,Ia sv][o]?:=λo=>by
  rw[aB.cell (p:=⟨w.heap.size,o,be⟩) (by simp)];exact cR rfl
 have aY:Hid _:=rH.trans (aB.mono (by simp));have cX:w.heap.size<w1.heap.size:=by have:=aB.size;simp at this;omega
 clear aB rH jN;go_wp2_with fail;refine(dN _).mono ?_;rintro e w2 ⟨rfl,aI⟩;have c2:∀o,w2.cell? ⟨w.heap.size,o,be⟩=#[Y nm,U O st,U O lf,U O ad,Ia sv][o]?:=λo=>by
  rw[aI.cell (p:=⟨w.heap.size,o,be⟩) (by simp only;omega)];exact c1 o
 have bp:Hid _:=aY.out.trans (aI.mono aY.out.size);have ny:w.heap.size<w2.heap.size:=by have:=aI.size;omega
 clear aI c1 cX aY dN;go_wp2_with fail;refine(gh rs v _ (HV.out.below bp.out) (by omega)).mono ?_;rintro e w3 ⟨v3,rfl,kZ,bU⟩;have dY:Hid (cE _ _ _ _):=kZ;have c3:w3.cell? ⟨w.heap.size,0,be⟩=AI (Y nm):=by
  rw[bU.cell (p:=⟨w.heap.size,0,be⟩) (by simp only;omega)];exact c2 0
 have C3:Hid (∀o,w3.cell? ⟨w.heap.size,o,be⟩=#[Y nm,U O st,U O lf,U O ad,Ia sv][o]?):=λo=>by
  rw[bU.cell (p:=⟨w.heap.size,o,be⟩) (by simp only;omega)];exact c2 o
 have cF:Hid _:=bp.out.trans (bU.mono bp.out.size);have qb:w.heap.size<w3.heap.size:=by have:=bU.size;omega
 have R6:=bU.size;clear bU kZ c2;go_wp2_with fail;go_region_held3 (λw'=>w'.cell? ⟨w.heap.size,0,be⟩=AI (Y nm)) (first|assumption|go_keep) (first|(go_at_call 126;refine(o7 rs v _ ((HV.out.below cF.out).below (Ib _ _).drew) (by omega)).mono ?_;rintro e w4 ⟨rfl,hown,eP⟩;obtain⟨cq,jK,cH⟩:=o8 hown hm;rw[HH.out] at jK;rw[fb.out] at cH;have hcq:cq=p:=(by simp at cH;exact cH.symm);subst hcq;have qU:(Instr.lookup 125 (.map (AI w3.heap.size)) (Y nm) true).run AS w4=.ok (Im #[U O p,Ia true]) w4:=jK;clear jK cH hown;have fE:Hid (Below w3.heap.size w3 w4):=(Ib w3.heap.size w3).drew.trans eP;have hS:w4.cell? ⟨w.heap.size,0,be⟩=AI (Y nm):=((eP.cell (p:=⟨w.heap.size,0,be⟩) qb).trans c3);clear eP))
 obtain⟨a3,DX,yS⟩:=dY.out.slice;subst yS;have C4:∀o,w4.cell? ⟨w.heap.size,o,be⟩=#[Y nm,U O st,U O lf,U O ad,Ia sv][o]?:=λo=>by
  rw[fE.out.cell (p:=⟨w.heap.size,o,be⟩) qb];exact C3.out o
 have nD:Hid (cE _ _ _ _):=dY.out.below fE.out;have gX:Hid _:=cF.out.trans (fE.out.mono cF.out.size);have iY:w2.heap.size<=w4.heap.size:=by have:=fE.out.size;omega
 have VD:Hid (mG w4 v rs):=HV.out.below gX.out;clear dY C3 fE cF c3 qU HV;obtain⟨pa,ca,hvv,_,cO⟩:=VD.out;subst hvv;obtain⟨b,off,Hp,gE,hr⟩:∃b off,pa=AI ⟨b,off,be⟩/\b<w4.heap.size/\mH w4 b off rs:=by
  rcases cO with h|h
  .rw[h] at hp;simp at hp
  .exact h
 subst Hp;obtain⟨e0,e1,e2,e3,e4,e5⟩:=hr p hp;have hN:=λw=>nU ⟨nm,st,lf,ad,sv⟩ (rs.getD p dr).m w hm Ho;rw[AQ.out,R7] at hN;simp only[beq_self_eq_true,Bool.true_and] at hN;clear cO hr VD;generalize(rs.getD p dr)=rp at *;obtain⟨⟨yn,ys,yl,ya,yv⟩,ytd⟩:=rp;simp only at e0 e1 e2 e3 e4 e5 hN wT;have R8:=wT.symm;clear wT;subst R8;generalize VE:rs.length=n at *;have HN:Hid _:=VE;clear VE;go_wp2_with fail;have E0:=Ig (C4 0);have E1:=Ig (C4 1);have E2:=Ig (C4 2);have E3:=Ig (C4 3);have E4:=Ig (C4 4);have F0:=Ig e0;have F1:=Ig e1;have F2:=Ig e2;have F3:=Ig e3;have F4:=Ig e4;have cN:∀d os,Calls AS 162 #[Ik #[Y nm,U O st,U O lf,U O ad,Ia sv],Ik #[Y nm,U O ys,U O yl,U O ya,Ia yv]] (Ij (Iv w4 d) os) λe fD=>e=AT (Im #[Ia false,U O 0])/\∃p:Regrown,fD=Ij (Iv w4 p.d) p.os:=λd os=>
  Calls.regrown_of ((hN _).mono (by rintro e w' ⟨rfl,hb⟩;exact⟨rfl,hb⟩))
 clear e0 e1 e2 e3 e4 e5 hN;refine IA (by kernel_rfl) (by kernel_rfl) ?_;repeat(quiet_step (exact cN _ _))
 refine bE λdq gT dR=>?_;clear cN E0 E1 E2 E3 E4 F0 F1 F2 F3 F4;have yc:Hid (cE w.heap.size (Ij (Iv w4 dq) gT) (J a3 n DX) rs):=(nD.out.below dR.out).base (by omega);have rD:Hid _:=gX.out.trans (dR.out.mono gX.out.size);clear nD dR;go_wp2_with fail;go_ret2;exact⟨_,rfl,yc.out,rD.out⟩
theorem DY(rs:List bK)(v:Value)(m:Mem)(w:World)(hv:mG w v rs)(hm:m.name.size<=Io)(h0:dV rs=0)(he:m.e=0)(p:Nat)(hp:p<rs.length)(wT:(rs.getD p dr).m.name=m.name)(R7:eH m (rs.getD p dr).m=true) :
 Calls AS 168 #[v,Ik #[Y m.name,U O m.state,U O m.aM,U O m.addr,Ia m.server]] w λe w'=>∃v',e=AT (Im #[v',U O 0])/\cE w.heap.size w' v' (rs.eraseIdx p++[⟨m,0⟩])/\Below w.heap.size w w':=by
 obtain⟨i0,fW,dd,gY,gG⟩:=I6 Tryz.vB;have HV:Hid (mG w v rs):=hv;have jN:=λ(w:World) (h:mG w v rs)=>gf rs v w h;rw[h0] at jN;have dN:=λw=>eS m w hm;rw[he] at dN;have HH:Hid (Maps.has (Dm (eX rs) rs.length) (kS m.name)=true):=(qp _ _ _).2 ⟨p,hp,by rw[dC];exact wT⟩;have fb:Hid ((Dm (eX rs) rs.length).atKey (kS m.name) (.lit (.int O 0))=.lit (.int O p)):=Hn _ _ _ _ p hp (by rw[dC];exact wT) (λi hi hk=>by rw[dC,<- wT];exact λe=>(fG h0).2.2.2 p i hi hk e.symm);have Bf:=(fG h0).1;have VC:Hid _:=(fG h0).2.1 p hp;have Ho:(rs.getD p dr).m.name.size<=Io:=by obtain⟨_,_,_,h,_⟩:=hv;exact h p
 have AQ:Hid _:=vD he VC.out wT.symm;clear h0 he hv VC;obtain⟨nm,st,lf,ad,sv⟩:=m;simp only at *;have rH:Below w.heap.size w (w.alloc (.cells #[Y nm,U O st,U O lf,U O ad,Ia sv] 50)):=(Ib _ _).alloc (Ic _) _;go_enter Tryz.func168,Tryz.ntmps168;go_wp2_with fail;refine(jN _ (HV.out.below rH)).mono ?_;rintro e w1 ⟨rfl,aB⟩;have c1:∀o,w1.cell? ⟨w.heap.size,o,be⟩=#[Y nm,U O st,U O lf,U O ad,Ia sv][o]?:=λo=>by
  rw[aB.cell (p:=⟨w.heap.size,o,be⟩) (by simp)];exact cR rfl
 have aY:Hid _:=rH.trans (aB.mono (by simp));have cX:w.heap.size<w1.heap.size:=by have:=aB.size;simp at this;omega
 clear aB rH jN;go_wp2_with fail;refine(dN _).mono ?_;rintro e w2 ⟨rfl,aI⟩;have c2:∀o,w2.cell? ⟨w.heap.size,o,be⟩=#[Y nm,U O st,U O lf,U O ad,Ia sv][o]?:=λo=>by
  rw[aI.cell (p:=⟨w.heap.size,o,be⟩) (by simp only;omega)];exact c1 o
 have bp:Hid _:=aY.out.trans (aI.mono aY.out.size);have ny:w.heap.size<w2.heap.size:=by have:=aI.size;omega
 clear aI c1 cX aY dN;go_wp2_with fail;refine(gh rs v _ (HV.out.below bp.out) (by omega)).mono ?_;rintro e w3 ⟨v3,rfl,kZ,bU⟩;have dY:Hid (cE _ _ _ _):=kZ;have c3:w3.cell? ⟨w.heap.size,0,be⟩=AI (Y nm):=by
  rw[bU.cell (p:=⟨w.heap.size,0,be⟩) (by simp only;omega)];exact c2 0
 have C3:Hid (∀o,w3.cell? ⟨w.heap.size,o,be⟩=#[Y nm,U O st,U O lf,U O ad,Ia sv][o]?):=λo=>by
  rw[bU.cell (p:=⟨w.heap.size,o,be⟩) (by simp only;omega)];exact c2 o
 have cF:Hid _:=bp.out.trans (bU.mono bp.out.size);have qb:w.heap.size<w3.heap.size:=by have:=bU.size;omega
 have R6:=bU.size;clear bU kZ c2;go_wp2_with fail;go_region_held3 (λw'=>w'.cell? ⟨w.heap.size,0,be⟩=AI (Y nm)) (first|assumption|go_keep) (first|(go_at_call 126;refine(o7 rs v _ ((HV.out.below cF.out).below (Ib _ _).drew) (by omega)).mono ?_;rintro e w4 ⟨rfl,hown,eP⟩;obtain⟨cq,jK,cH⟩:=o8 hown hm;rw[HH.out] at jK;rw[fb.out] at cH;have hcq:cq=p:=(by simp at cH;exact cH.symm);subst hcq;have qU:(Instr.lookup 125 (.map (AI w3.heap.size)) (Y nm) true).run AS w4=.ok (Im #[U O p,Ia true]) w4:=jK;clear jK cH hown;have fE:Hid (Below w3.heap.size w3 w4):=(Ib w3.heap.size w3).drew.trans eP;have hS:w4.cell? ⟨w.heap.size,0,be⟩=AI (Y nm):=((eP.cell (p:=⟨w.heap.size,0,be⟩) qb).trans c3);clear eP))
 obtain⟨a3,DX,yS⟩:=dY.out.slice;subst yS;have C4:∀o,w4.cell? ⟨w.heap.size,o,be⟩=#[Y nm,U O st,U O lf,U O ad,Ia sv][o]?:=λo=>by
  rw[fE.out.cell (p:=⟨w.heap.size,o,be⟩) qb];exact C3.out o
 have nD:Hid (cE _ _ _ _):=dY.out.below fE.out;have gX:Hid _:=cF.out.trans (fE.out.mono cF.out.size);have iY:w2.heap.size<=w4.heap.size:=by have:=fE.out.size;omega
 have VD:Hid (mG w4 v rs):=HV.out.below gX.out;clear dY C3 fE cF c3 qU HV;obtain⟨pa,ca,hvv,_,cO⟩:=VD.out;subst hvv;obtain⟨b,off,Hp,gE,hr⟩:∃b off,pa=AI ⟨b,off,be⟩/\b<w4.heap.size/\mH w4 b off rs:=by
  rcases cO with h|h
  .rw[h] at hp;simp at hp
  .exact h
 subst Hp;obtain⟨e0,e1,e2,e3,e4,e5⟩:=hr p hp;have hN:=λw=>nU ⟨nm,st,lf,ad,sv⟩ (rs.getD p dr).m w hm Ho;rw[AQ.out,R7] at hN;simp only[beq_self_eq_true,Bool.true_and] at hN;clear cO hr VD;generalize(rs.getD p dr)=rp at *;obtain⟨⟨yn,ys,yl,ya,yv⟩,ytd⟩:=rp;simp only at e0 e1 e2 e3 e4 e5 hN wT;have R8:=wT.symm;clear wT;subst R8;generalize VE:rs.length=n at *;have HN:Hid _:=VE;clear VE;go_wp2_with fail;have E0:=Ig (C4 0);have E1:=Ig (C4 1);have E2:=Ig (C4 2);have E3:=Ig (C4 3);have E4:=Ig (C4 4);have F0:=Ig e0;have F1:=Ig e1;have F2:=Ig e2;have F3:=Ig e3;have F4:=Ig e4;have cN:∀d os,Calls AS 162 #[Ik #[Y nm,U O st,U O lf,U O ad,Ia sv],Ik #[Y nm,U O ys,U O yl,U O ya,Ia yv]] (Ij (Iv w4 d) os) λe fD=>e=AT (Im #[Ia true,U O 0])/\∃p:Regrown,fD=Ij (Iv w4 p.d) p.os:=λd os=>
  Calls.regrown_of ((hN _).mono (by rintro e w' ⟨rfl,hb⟩;exact⟨rfl,hb⟩))
 clear e0 e1 e2 e3 e4 e5 hN;refine IA (by kernel_rfl) (by kernel_rfl) ?_;repeat(quiet_step (exact cN _ _))
 refine bE λdq gT dR=>?_;clear cN E0 E1 E2 E3 E4 F0 F1 F2 F3 F4;have LW:Hid _:=HN;obtain⟨g,c,R9,MC⟩:∃g c,a3=AI ⟨g,0,be⟩/\DX=c:=by
  rcases nD.out.2 with⟨_,h0⟩|⟨g,c,cur,h,_⟩
  .have:=HN.out;omega
  .simp only[IZ] at h
   exact⟨g,c,h.1,h.2.2⟩
 subst R9;subst MC;have yc:Hid (cE _ _ _ _):=nD.out.below dR.out;have rD:Hid _:=gX.out.trans (dR.out.mono gX.out.size);have C6:∀o,(Ij (Iv w4 dq) gT).cell? ⟨w.heap.size,o,be⟩=#[Y nm,U O st,U O lf,U O ad,Ia sv][o]?:=λo=>by
  rw[dR.out.cell (p:=⟨w.heap.size,o,be⟩) (by simp only;omega)];exact C4 o
 have Px:w2.heap.size<=(Ij (Iv w4 dq) gT).heap.size:=by have:=dR.out.size;omega
 clear nD dR C4;generalize Ij (Iv w4 dq) gT=w6 at *;go_wp2_with fail;refine(Bd rs n p g DX w2.heap.size _ HN.out yc.out hp (by omega)).mono ?_;rintro e w7 ⟨rfl,ho7,Gk⟩;have C7:∀o,w7.cell? ⟨w.heap.size,o,be⟩=#[Y nm,U O st,U O lf,U O ad,Ia sv][o]?:=λo=>by
  rw[Gk.cell (p:=⟨w.heap.size,o,be⟩) (by simp only;omega)];exact C6 o
 have DQ:Hid _:=rD.out.trans (Gk.mono (by omega));have hz7:w2.heap.size<=w7.heap.size:=by have:=Gk.size;omega
 have MD:Hid ((rs.eraseIdx p).length=n-1):=(show(rs.eraseIdx p).length=n-1 by rw[O9,if_pos (by rw[HN.out];exact hp),HN.out]);have HO8:Hid (∀ob,(w7.alloc ob).ownsRow w2.heap.size 111 6 (J (AI ⟨g,0,be⟩) (n-1) DX) (n-1) (eR (rs.eraseIdx p))):=λob=>by
  have h:=cE.below (ms:=rs.eraseIdx p) ho7 ((Ib _ _).alloc (Ic _) ob);have h2:(w7.alloc ob).ownsRow w2.heap.size 111 6 (J (AI ⟨g,0,be⟩) (n-1) DX) (rs.eraseIdx p).length (eR (rs.eraseIdx p)):=h;rw[MD.out] at h2;exact h2
 have LX:Hid (∀k,(Value.slice (AI ⟨g,0,be⟩) (n-1) DX).ownBlock=AI k->w.heap.size<=k):=λk hk=>by have:=(cE.lt (ms:=rs.eraseIdx p) ho7 k hk).1;omega
 have HSN:Hid (∀(w':World) (v':Value),w'.ownsRow w2.heap.size 111 6 v' (n-1+1) (eR (rs.eraseIdx p)++(bK.mk ⟨nm,st,lf,ad,sv⟩ 0).cs)->cE w.heap.size w' v' (rs.eraseIdx p++[⟨⟨nm,st,lf,ad,sv⟩,0⟩])):=λw' v' h=>(vE (by rw[MD.out];exact h)).base (by omega);have aj8:n-1<=19:=by omega
 clear Gk ho7 C6 rD yc MD;generalize hn1:n-1=n1 at *;clear hn1;go_wp2_with (at_builtin;refine wpList_append_own _ rfl _ _ 35 rfl w2.heap.size 111 i0 _ 6 56 Oc fW dd gY gG rfl (by omega) _ n1 (eR (rs.eraseIdx p)) rfl ?hown ⟨w7.heap.size,0,be⟩ 1 1 (bK.mk ⟨nm,st,lf,ad,sv⟩ 0).cs rfl rfl ?hnews (wU _) ?h63 ?hbytes ?hbase ?_)
 case hown=>exact HO8.out _
 case hnews=>(intro j u hj;rw[Addr.add_lit];exact(cR (by simp)).trans (by simpa[bK.cs] using hj))
 case h63=>(unfold Io;omega)
 case hbytes=>omega
 case hbase=>(simp;omega)
 intro v' w8 r1 r2 r3;have R1:Hid (cE _ _ _ _):=HSN.out w8 v' r1;have R2:Hid _:=(DQ.out.alloc DQ.out.size _).grown r2 (by have:=DQ.out.size;simp;omega) (λk hk=>LX.out k hk);clear r1 r2 r3;go_wp2_with fail;go_ret2;exact⟨v',rfl,R1.out,R2.out⟩
theorem jy(a b:ByteArray):(a.toList==b.toList)=decide (a=b):=by
 by_cases h:a=b
 .subst h;simp
 .have h2:¬ a.toList=b.toList:=λe=>h (qd (by rw[Lib.toList_data,Lib.toList_data] at e;exact e))
  simp[h,h2]
end Go.Proofs.YtfidhgjmifendaaGreatDoor
namespace Go.Proofs.YtfidhgjmifendaaGreatDoor
open Go.RowKit
theorem DZ(m:Int)(w:World)(h:within m 0 20=true) :
 Calls AS 45 #[U O m] w λe w'=>e=AT (Im #[U O (3*(Lib.bitLen m.toNat:Nat)),U O 0])/\w'=w:=by
 have hm:0<=m/\m<=20:=by simp[within] at h;omega
 have hl:(Lib.bitLen m.toNat:Int)<=64:=by have:=Lib.bitLen_le m.toNat 64 (by omega) (by omega);omega
 go_enter Tryz.func45,Tryz.ntmps45;go_wp2_with (first|(go_at_call 54;refine(cf _ _ _ _).mono ?_;rintro e w' ⟨rfl,rfl⟩;rw[h])|(go_at_call 71;refine(Tryz.bits_Len _ _ (by omega) (by omega)).mono ?_;rintro e w' ⟨rfl,rfl⟩));go_ret2;exact⟨rfl,rfl⟩
theorem Tryz.Sa:(Tryz.prog.info? 102).map (λi=>(i.zero,i.size,i.bytes))=AI (AI (Ik #[U O 0,Y ⟨#[]⟩]),2,24):=by kernel_rfl
def Gl:List Value:=[U O 0,Y ⟨#[]⟩]
theorem jO{g k:Nat}(hk:k≠g):∀(vs:List Value) (o:Nat) (w:World),(w.setCells g o vs).heap[k]?=w.heap[k]?
 |[],_,_=>rfl
 |v::r,o,w=>(jO hk r (o+1) _).trans (Below.heap_setCell w ⟨g,o,be⟩ v k hk)
theorem wV{rs:List Lt.fg}{p n:Nat}(hn:rs.length=n)(hp:p<n):(Au (Au (Lt.fl rs) (p*2) (Lt.fl (rs.drop (p+1)))) ((n-1)*2) Gl).take ((n-1)*2)=Lt.fl (rs.eraseIdx p):=by
 have hl:(Lt.fl rs).length=n*2:=by rw[Lt.cM,hn]
 have hd:(Lt.fl (rs.drop (p+1))).length=(n-(p+1))*2:=by rw[Lt.cM,JL,hn]
 refine oh (by rw[jn,jn,hl];omega) (by rw[Lt.cM,O9,if_pos (by omega),hn]) (λj hj=>?_);rw[kd _ _ _ _ (by omega),List.eraseIdx_eq_take_drop_succ,Lt.cD];have ht:(Lt.fl (rs.take p)).length=p*2:=by rw[Lt.cM,IB,hn];omega
 by_cases hjp:j<p*2
 .rw[kd _ _ _ _ (by omega),Js (by omega),<- Lt.eY,IM hjp]
 .rw[Jr (by omega),ht]
  have:=wS (Lt.fl (rs.drop (p+1))) (Lt.fl rs) (p*2) (j-p*2) (by rw[hd];omega) (by rw[hd,hl];omega);rw[show p*2+(j-p*2)=j by omega] at this;exact this
theorem Bg(w:World)(ty:I4)(b o c:Nat)(hc:∀j,j<2->(w.cell? ⟨b,o+j,be⟩).isSome=true)(hf:∀j,j<2->w.frozen? ⟨b,o+j,be⟩=false) : (Ot #[25] ty #[J (AI ⟨b,o,be⟩) 1 c]).run AS w=.ok (Im #[]) (w.setCells b o Gl):=by
 have VB:(O8 (Value.agg #[U O 0,Y ⟨#[]⟩]).cells 1).toList=Gl:=by kernel_rfl
 have oG:=run_storeCells_cells (P:=AS) b o Gl 0 w (λj hj=>by simpa using hc j (by simpa[Gl] using hj)) (λj hj=>by simpa using hf j (by simpa[Gl] using hj)) (by intro v hv;simp[Gl] at hv;rcases hv with rfl|rfl<;>rfl);simp only[Nat.add_zero] at oG;simp[Ot,QG O6,VB,oG]
theorem yT(rs:List Lt.fg)(n p g c base:Nat)(w:World)(hn:rs.length=n)(ho:Lt.Own base w (J (AI ⟨g,0,be⟩) n c) rs)(hp:p<n)(yQ:n<=1000) :
 Calls AS 142 #[J (AI ⟨g,0,be⟩) n c,U O p,U O (p+1)] w λe w'=>e=AT (J (AI ⟨g,0,be⟩) (n-1) c)/\Lt.Own base w' (J (AI ⟨g,0,be⟩) (n-1) c) (rs.eraseIdx p)/\Below base w w'/\∀k,k≠g->w'.heap[k]?=w.heap[k]?:=by
 obtain⟨i0,fW,dd,cX,ny⟩:=I6 Tryz.Sa;have HO:Hid (w.ownsRow base 102 2 (J (AI ⟨g,0,be⟩) n c) n (Lt.fl rs)):=by rw[<- hn];rw[<- hn] at ho;exact ho
 obtain⟨di,fK,dN⟩:base<=g/\n<=c/\c<=Io:=by
  rcases HO.out.2 with⟨hv,_⟩|⟨g',c',cur,hv,ey,hg,fK,dN,bZ,bf⟩
  .cases hv
  .simp only[IZ,It,JJ,and_true,true_and] at hv
   obtain⟨rfl,rfl⟩:=hv;exact⟨ey,fK,dN⟩
 unfold Io at dN;have R0:(0:Int)<=(p:Int)+1:=by omega
 have sX:(p:Int)+1<=(n:Int):=by omega
 have vC:((p:Int)+1).toNat=p+1:=by omega
 have hic:p<=c:=by omega
 have fS:∀k,k<n*2->w.cell? ⟨g,k,be⟩=(Lt.fl rs)[k]?:=λk hk=>by
  rcases HO.out.2 with⟨hv,_⟩|⟨g',c',cur,hv,ey,hg,_,_,bZ,bf⟩
  .cases hv
  .simp only[IZ,It,JJ,and_true,true_and] at hv
   obtain⟨rfl,rfl⟩:=hv;rw[ae hg,<- bf,IM hk,Array.getElem?_toList]
 have Hf:(Lt.fl rs).length=n*2:=by rw[Lt.cM,hn]
 have S1:Hid ((Lt.fl (rs.drop (p+1))).length=(n-(p+1))*2):=(show(Lt.fl (rs.drop (p+1))).length=_ by rw[Lt.cM,JL,hn]);obtain⟨A,hA,hnews⟩:∃A:Addr,(if c=p+1 then AI (⟨g,0,be⟩:Addr) else AI ⟨g,(p+1)*2,be⟩)=AI A/\Hid (∀j u,(Lt.fl (rs.drop (p+1)))[j]?=AI u->w.drew.cell? (A.add j)=AI u):=by
  by_cases h:c=p+1
  .refine⟨_,if_pos h,λj u hj=>?_⟩
   have:j<(Lt.fl (rs.drop (p+1))).length:=(Jm.1 hj).1
   rw[S1.out] at this;omega
  .refine⟨_,if_neg h,λj u hj=>?_⟩
   have hj1:=(Jm.1 hj).1;rw[S1.out] at hj1;rw[Addr.add_lit];show w.cell? _=_;rw[fS _ (by omega),<- hj,<- Lt.eZ,Uf]
 have S2:Hid (∀u∈Lt.fl (rs.drop (p+1)),u.oneCell'=true):=Lt.gJ _;have S3:Hid (∀j,j<(Lt.fl (rs.drop (p+1))).length->(w.drew.cell? ⟨g,0+p*2+j,be⟩).isSome=true/\w.drew.frozen? ⟨g,0+p*2+j,be⟩=false):=λj hj=>by
  rw[S1.out] at hj;refine⟨?_,I7 HO.out _⟩;show(w.cell? _).isSome=true;rw[fS _ (by omega),Ie (by omega)];rfl
 have HD:Hid ((w.drew.setCells g (p*2) (Lt.fl (rs.drop (p+1)))).ownsRow base 102 2 (J (AI ⟨g,0,be⟩) n c) n (Au (Lt.fl rs) (p*2) (Lt.fl (rs.drop (p+1))))):=gd _ _ _ _ (show w.drew.ownsRow base 102 2 (J (AI ⟨g,0,be⟩) n c) n (Lt.fl rs) from HO.out);have Hk:∀ty,(Ot #[25] ty #[J (AI ⟨g,(p+(n-(p+1)))*2,be⟩) (n-(p+(n-(p+1)))) (c-(p+(n-(p+1))))]).run AS (w.drew.setCells g (p*2) (Lt.fl (rs.drop (p+1))))=.ok (Im #[]) ((w.drew.setCells g (p*2) (Lt.fl (rs.drop (p+1)))).setCells g ((n-1)*2) Gl):=λty=>by
  rw[show p+(n-(p+1))=n-1 by omega,show n-(n-1)=1 by omega];exact Bg _ ty g _ _ (λj hj=>by rw[Ox HD.out _ (by omega),Ie (by rw[jn,Hf];omega)];rfl) (λj _=>I7 HD.out _)
 have HF:Hid (((w.drew.setCells g (p*2) (Lt.fl (rs.drop (p+1)))).setCells g ((n-1)*2) Gl).ownsRow base 102 2 (J (AI ⟨g,0,be⟩) (n-1) c) (n-1) (Lt.fl (rs.eraseIdx p))):=by
  have h:=mD (m:=n-1) (gd Gl _ ((n-1)*2) _ HD.out) (by omega);rw[wV hn hp] at h;exact h
 have HL:Hid ((rs.eraseIdx p).length=n-1):=(show(rs.eraseIdx p).length=n-1 by rw[O9,if_pos (by omega),hn]);have mF:Hid (Below base w ((w.drew.setCells g (p*2) (Lt.fl (rs.drop (p+1)))).setCells g ((n-1)*2) Gl)):=dU di _ _ _ _ (dU di _ _ _ _ (Ib _ _).drew);have HOT:Hid (∀k,k≠g->((w.drew.setCells g (p*2) (Lt.fl (rs.drop (p+1)))).setCells g ((n-1)*2) Gl).heap[k]?=w.heap[k]?):=λk hk=>(jO hk _ _ _).trans (jO hk _ _ _);have Be:Hid (p+(n-(p+1))=n-1):=(show p+(n-(p+1))=n-1 by omega);clear ho fS;go_enter Tryz.func142,Tryz.ntmps142;go_wp2_with fail;go_region_law (refine step_append_room rfl (.tmp 22) (.tmp 25) 25 rfl 102 i0 2 O6 fW cX g 0 p c (by simp[No,Om]) A (n-(p+1)) (c-(p+1)) (Lt.fl (rs.drop (p+1))) (by simp[No,Om]) S1.out hnews.out S2.out (by omega) S3.out ?_)
 go_wp2_with fail;go_ret;refine⟨?_,?_,mF.out,HOT.out⟩
 .have wT:=Be.out
  simp only[wT];rfl
 .show J2 _ _ _ _ _ (rs.eraseIdx p).length _
  rw[HL.out];exact HF.out
theorem ME{rs:List bK}{p:Nat}(hp:p<rs.length)(r:bK):Au (eR rs) (p*6) r.cs=eR (rs.set p r):=by
 apply List.ext_getElem?;intro k;by_cases hk:k<rs.length*6
 .have h2:=lI (rs.set p r) (k/6) (by rw[IT];omega) (k%6) (by omega)
  rw[show k/6*6+k%6=k by omega] at h2;rw[h2];by_cases hkp:k/6=p
  .rw[show(rs.set p r).getD (k/6) dr=r by rw[hkp];simp[Iq,Oh hp]]
   have h3:=wS r.cs (eR rs) (p*6) (k%6) (by rw[jo];omega) (by rw[jo,dX];omega);rw[show p*6+k%6=k by omega] at h3;exact h3
  .rw[show(rs.set p r).getD (k/6) dr=rs.getD (k/6) dr by simp[Iq,JP (Ne.symm hkp)]]
   rw[kd _ _ _ _ (by rw[jo];omega)];have h4:=lI rs (k/6) (by omega) (k%6) (by omega);rw[show k/6*6+k%6=k by omega] at h4;exact h4
 .rw[I0 (by rw[jn,dX];omega),I0 (by rw[dX,IT];omega)]
def ei(times:Int)(r:bK):Bool:=decide (r.told<times)
theorem vF(r:bK)(tb:Nat)(times:Int)(w:World)(ht:w.cell? ⟨tb,0,be⟩=AI (U O times)) :
 Calls AS 75 #[Ik #[Y r.m.name,U O r.m.state,U O r.m.aM,U O r.m.addr,Ia r.m.server,U O r.told],If (AI ⟨tb,0,be⟩)] w λe w'=>e=AT (Ia (!ei times r))/\w'=w.alloc (.cells #[Y r.m.name,U O r.m.state,U O r.m.aM,U O r.m.addr,Ia r.m.server,U O r.told] 111):=by
 have hb:=Iy w _ ht;have MF:∀ob,(w.alloc ob).cell? ⟨tb,0,be⟩=AI (U O times):=λob=>by
  rw[((Ib w.heap.size w).alloc (Ic _) ob).cell (p:=⟨tb,0,be⟩) hb];exact ht
 go_enter Tryz.func75,Tryz.ntmps75;go_wp2_with fail;go_ret;refine⟨aL ?_,rfl⟩;unfold ei;by_cases h:r.told<times
 .rw[decide_eq_true h];simp;omega
 .rw[decide_eq_false h];simp;omega
theorem uO(rs:List bK)(n b off c tb:Nat)(times:Int)(w:World)(hn:rs.length=n)(yQ:n<=1000)(hr:mH w b off rs)(hb:n≠0->b<w.heap.size)(ht:w.cell? ⟨tb,0,be⟩=AI (U O times)) :
 Calls AS 131 #[J (AI ⟨b,off,be⟩) n c,.func (.func 75) #[] #[If (AI ⟨tb,0,be⟩)]] w λe w'=>
  ((e=AT (U O (-1))/\∀j,j<n->ei times (rs.getD j dr)=true)\/(∃i:Nat,i<n/\e=AT (U O i)/\(∀j,j<i->ei times (rs.getD j dr)=true)/\ei times (rs.getD i dr)=false))/\Below w.heap.size w w':=by
 have HR:Hid (mH w b off rs):=hr;have HN:Hid _:=hn;have HT:Hid _:=ht;have Sb:=Iy w _ ht;have LY:Hid _:=hb;clear hr hn ht hb;go_enter Tryz.func131,Tryz.ntmps131;go_wp2_with fail;go_loopw [8] (λi wr=>∃k:Nat,k<=n/\i=U O k/\Hid (∀j,j<k->ei times (rs.getD j dr)=true)/\Hid (Below w.heap.size w wr)) (λi _=>n-(intOf i).toNat)
 case atStart=>exact⟨0,Nat.zero_le _,rfl,λj hj=>by omega,Ib _ _⟩
 case round=>
  obtain⟨k,hk,rfl,HZ,HB⟩:=hrel;by_cases aR:k<n
  .obtain⟨c0,c1,c2,c3,c4,c5⟩:=HR.out.below HB.out (LY.out (by omega)) k (by rw[HN.out];exact aR)
   have MF:wr.cell? ⟨tb,0,be⟩=AI (U O times):=by rw[HB.out.cell (p:=⟨tb,0,be⟩) Sb];exact HT.out
   have ly:Hid (ei times (rs.getD k dr)=true->∀j,j<k+1->ei times (rs.getD j dr)=true):=λh j hj=>by
    by_cases e:j=k
    .subst e;exact h
    .exact HZ.out j (by omega)
   have hF:=λw h=>vF (rs.getD k dr) tb times w h;rcases hkp:ei times (rs.getD k dr) with _|_
   .rw[hkp] at hF
    have HKP:Hid _:=hkp;clear hkp ly;generalize hrk:rs.getD k dr=rk at *;have HRK:Hid _:=hrk;clear hrk;obtain⟨⟨nm,st,lf,ad,sv⟩,td⟩:=rk;simp only at c0 c1 c2 c3 c4 c5 hF;go_wp2_with fail;refine(hF _ MF).mono ?_;rintro e w1 ⟨rfl,rfl⟩;go_wp2_with fail;go_ret;exact⟨.inr ⟨k,aR,rfl,HZ.out,by rw[HRK.out];exact HKP.out⟩,HB.out.alloc HB.out.size _⟩
   .rw[hkp] at hF
    have pZ:Hid _:=ly.out hkp;clear hkp ly HZ;generalize(rs.getD k dr)=rk at *;obtain⟨⟨nm,st,lf,ad,sv⟩,td⟩:=rk;simp only at c0 c1 c2 c3 c4 c5 hF;go_wp2_with fail;refine(hF _ MF).mono ?_;rintro e w1 ⟨rfl,rfl⟩;go_wp2_with fail;go_roundw
    case rel=>exact⟨k+1,by omega,by go_num,pZ,HB.out.alloc HB.out.size _⟩
    case measure=>simp[intOf];omega
  .have pZ:Hid (∀j,j<n->ei times (rs.getD j dr)=true):=λj hj=>HZ.out j (by omega)
   clear HZ;go_wp2_with fail;go_ret;exact⟨.inl ⟨rfl,pZ.out⟩,HB.out⟩
def Gm(m:Nat):List Value:=(O8 #[Y ⟨#[]⟩,U O 0,U O 0,U O 0,Ia false,U O 0] m).toList
theorem CR(m:Nat):(Gm m).length=m*6:=by simp[Gm,O8]
theorem MG(m:Nat):∀v∈Gm m,v.oneCell'=true:=by
 intro v hv;simp only[Gm,O8,Array.toList_map,List.mem_map] at hv;obtain⟨i,_,rfl⟩:=hv;have h:i%6<6:=Nat.mod_lt _ (by decide);show Value.oneCell' (#[Y ⟨#[]⟩,U O 0,U O 0,U O 0,Ia false,U O 0][i%6]!)=true;generalize i%6=k at h
 match k,h with
 |0,_=>rfl
 |1,_=>rfl
 |2,_=>rfl
 |3,_=>rfl
 |4,_=>rfl
 |5,_=>rfl
theorem sZ(w:World)(ty:I4)(b o m c:Nat)(hm:0<m)(hc:∀j,j<m*6->(w.cell? ⟨b,o+j,be⟩).isSome=true)(hf:∀j,j<m*6->w.frozen? ⟨b,o+j,be⟩=false) : (Ot #[35] ty #[J (AI ⟨b,o,be⟩) m c]).run AS w=.ok (Im #[]) (w.setCells b o (Gm m)):=by
 have oG:=run_storeCells_cells (P:=AS) b o (Gm m) 0 w (λj hj=>by simpa using hc j (by rw[CR] at hj;exact hj)) (λj hj=>by simpa using hf j (by rw[CR] at hj;exact hj)) (MG m);simp only[Nat.add_zero] at oG;have VB:(O8 (Value.agg #[Y ⟨#[]⟩,U O 0,U O 0,U O 0,Ia false,U O 0]).cells m).toList=Gm m:=rfl;obtain⟨k,rfl⟩:∃k,m=k+1:=⟨m-1,by omega⟩;simp[Ot,QG Oc,VB,oG]
theorem Bh{times:Int}{r:bK}(h:ei times r=true):[r].filter (ei times)=[r]:=by simp[h]
theorem vG{times:Int}{r:bK}(h:ei times r=false):[r].filter (ei times)=[]:=by simp[h]
structure CS(rs cur:List bK)(times:Int)(i j:Nat):Prop where
 len:cur.length=rs.length
 head:cur.take i=(rs.take j).filter (ei times)
 tail:cur.drop j=rs.drop j
theorem CS.fa{rs cur:List bK}{times:Int}{i j:Nat}(h:CS rs cur times i j)(jG:i<j)(hj:j<rs.length)(hk:ei times (rs.getD j dr)=true):CS rs (cur.set i (rs.getD j dr)) times (i+1) (j+1):=by
 have hs:rs.take (j+1)=rs.take j++[rs.getD j dr]:=by rw[II hj];simp[Iq,Ie hj]
 have hi:i<cur.length:=by rw[h.len];omega
 refine⟨by rw[IT];exact h.len,?_,?_⟩
 .rw[hs,Qq,<- h.head,II (by rw[IT];exact hi),List.getElem_set_self,List.take_set,List.set_eq_of_length_le (by rw[IB];omega),Bh hk]
 .rw[List.drop_set_of_lt (by omega)]
  have:=congrArg (List.drop 1) h.tail
  rwa [List.drop_drop,List.drop_drop] at this
theorem CS.skip{rs cur:List bK}{times:Int}{i j:Nat}(h:CS rs cur times i j)(hj:j<rs.length)(hk:ei times (rs.getD j dr)=false):CS rs cur times i (j+1):=by
 have hs:rs.take (j+1)=rs.take j++[rs.getD j dr]:=by rw[II hj];simp[Iq,Ie hj]
 refine⟨h.len,?_,?_⟩
 .rw[hs,Qq,<- h.head,vG hk,JF]
 .have:=congrArg (List.drop 1) h.tail
  rwa [List.drop_drop,List.drop_drop] at this
theorem CS.get{rs cur:List bK}{times:Int}{i j:Nat}(h:CS rs cur times i j):cur.getD j dr=rs.getD j dr:=by
 have:=congrArg (λl:List bK=>l[0]?.getD dr) h.tail;simpa[Iq,Uf] using this
theorem filter_all{times:Int}{rs:List bK}(h:∀j,j<rs.length->ei times (rs.getD j dr)=true):rs.filter (ei times)=rs:=by
 rw[List.filter_eq_self];intro r hr;obtain⟨j,hj,rfl⟩:=List.getElem_of_mem hr;have:=h j hj
 rwa [show rs.getD j dr=rs[j] by simp[Iq,Ie hj]] at this
theorem CS.start{rs:List bK}{times:Int}{i:Nat}(hi:i<rs.length)(h1:∀j,j<i->ei times (rs.getD j dr)=true)(h2:ei times (rs.getD i dr)=false):CS rs rs times i (i+1):=by
 have hs:rs.take (i+1)=rs.take i++[rs.getD i dr]:=by rw[II hi];simp[Iq,Ie hi]
 refine⟨rfl,?_,rfl⟩;rw[hs,Qq,filter_all (rs:=rs.take i) (λj hj=>by
  have hji:j<i:=by rw[IB] at hj;omega
  have:=h1 j hji
  rwa [show(rs.take i).getD j dr=rs.getD j dr by simp[Iq,IM hji]]),vG h2,JF]
def qX(g:Nat)(w w':World):Prop:=w.heap.size<=w'.heap.size/\∀k,k<w.heap.size->k≠g->w'.heap[k]?=w.heap[k]?
theorem qX.trans{g:Nat}{a b c:World}(h:qX g a b)(k:qX g b c):qX g a c:=⟨Nat.le_trans h.1 k.1,λj hj hg=>(k.2 j (Nat.lt_of_lt_of_le hj h.1) hg).trans (h.2 j hj hg)⟩
theorem qX.of{g:Nat}{w w':World}(h:Below w.heap.size w w'):qX g w w':=⟨h.size,λk hk _=>h.block k hk⟩
theorem qX.setCell{g:Nat}{w w':World}(h:qX g w w')(o:Nat)(v:Value):qX g w (w'.setCell ⟨g,o,be⟩ v):=by
 refine⟨by simpa using h.1,λk hk hg=>?_⟩;have e:(w'.setCell ⟨g,o,be⟩ v).heap[k]?=w'.heap[k]?:=by
  simp only[World.setCell,Array.getElem?_modify];rw[if_neg (Ne.symm hg)]
 rw[e];exact h.2 k hk hg
theorem qX.setCells{g:Nat}:∀(vs:List Value) (o:Nat) (w w':World),qX g w w'->qX g w (w'.setCells g o vs)
 |[],_,_,_,h=>h
 |v::r,o,w,_,h=>qX.setCells r (o+1) w _ (h.setCell o v)
theorem s9(rs:List bK)(n g c tb base:Nat)(times:Int)(w:World)(hn:rs.length=n)(yQ:n<=1000)(ho:cE base w (J (AI ⟨g,0,be⟩) n c) rs)(hbase:base<=w.heap.size)(Sb:tb<base)(ht:w.cell? ⟨tb,0,be⟩=AI (U O times)) :
 Calls AS 74 #[J (AI ⟨g,0,be⟩) n c,.func (.func 75) #[] #[If (AI ⟨tb,0,be⟩)]] w λe w'=>∃m,e=AT (J (AI ⟨g,0,be⟩) m c)/\cE base w' (J (AI ⟨g,0,be⟩) m c) (rs.filter (ei times))/\Below base w w'/\qX g w w':=by
 have HO:Hid (cE _ _ _ _):=ho;have HN:Hid _:=hn;have HT:Hid _:=ht;obtain⟨di,hgh⟩:=HO.out.lt g rfl;obtain⟨fK,dN⟩:n<=c/\c<=Io:=by
  rcases HO.out.2 with⟨hv,_⟩|⟨g',c',cur,hv,ey,hg,fK,dN,bZ,bf⟩
  .cases hv
  .simp only[IZ,It,JJ,and_true] at hv
   obtain⟨rfl,rfl,rfl⟩:=hv;exact⟨by omega,dN⟩
 unfold Io at dN;clear ho hn ht;go_enter Tryz.func74,Tryz.ntmps74;go_wp2_with fail;refine(uO rs n g 0 c tb times _ HN.out yQ (o9 HO.out) (λ_=>hgh) HT.out).mono ?_;rintro e w1 ⟨⟨rfl,kp⟩|⟨i0,fW,rfl,yd,ye⟩,aB⟩
 .have HF:Hid _:=filter_all (λj hj=>kp j (by rw[HN.out] at hj;exact hj))
  have lz:Hid (cE _ _ _ _):=HO.out.below aB;have aY:Hid (Below base w w1):=aB.mono hbase;have Pz:Hid (qX g w w1):=qX.of aB;clear kp aB;go_wp2_with fail;go_ret;exact⟨n,rfl,by rw[HF.out];exact lz.out,aY.out,Pz.out⟩
 .have lz:Hid (cE base w1 (J (AI ⟨g,0,be⟩) n c) rs):=HO.out.below aB
  have aY:Hid (Below base w w1):=aB.mono hbase;have VF:Hid (CS rs rs times i0 (i0+1)):=CS.start (by rw[HN.out];exact fW) yd ye;have Pz:Hid (qX g w w1):=qX.of aB;clear yd ye aB;go_wp2_with fail;go_loopw [5,6] (λx y wr=>∃(i j:Nat) (cur:List bK),i<j/\j<=n/\x=U O i/\y=U O j/\Hid (CS rs cur times i j)/\Hid (cE base wr (J (AI ⟨g,0,be⟩) n c) cur)/\Hid (Below base w wr)/\Hid (qX g w wr)) (λ_ y _=>n-(intOf y).toNat)
  case atStart=>exact⟨i0,i0+1,rs,by omega,by omega,rfl,by go_num,VF,lz,aY,Pz⟩
  case round=>
   clear lz aY VF Pz;obtain⟨i,j,cur,jG,hj,rfl,rfl,HC,Bi,HB,Pz⟩:=hrel;have cC:base<=wr.heap.size:=by have:=HB.out.size;omega
   have wF:g<wr.heap.size:=(Bi.out.lt g rfl).2;have oZ:cur.length=n:=by rw[HC.out.len,HN.out]
   by_cases aR:j<n
   .obtain⟨c0,c1,c2,c3,c4,c5⟩:=o9 Bi.out j (by rw[oZ];exact aR)
    rw[HC.out.get] at c0 c1 c2 c3 c4 c5;have MF:∀ob,(wr.alloc ob).cell? ⟨tb,0,be⟩=AI (U O times):=λob=>by
     rw[((Ib wr.heap.size wr).alloc (Ic _) ob).cell (p:=⟨tb,0,be⟩) (by simp only;omega),HB.out.cell (p:=⟨tb,0,be⟩) Sb];exact HT.out
    have hF:=λw h=>vF (rs.getD j dr) tb times w h;simp only[ID] at c0 c1 c2 c3 c4 c5;rcases hkp:ei times (rs.getD j dr) with _|_
    .have TW:Hid (CS rs cur times i (j+1)):=HC.out.skip (by rw[HN.out];exact aR) hkp
     rw[hkp] at hF;clear hkp HC;generalize(rs.getD j dr)=rk at *;obtain⟨⟨nm,st,lf,ad,sv⟩,td⟩:=rk;simp only at c0 c1 c2 c3 c4 c5 hF;go_wp2_with fail;refine(hF _ (MF _)).mono ?_;rintro e w2 ⟨rfl,rfl⟩;have aI:Below wr.heap.size wr ((wr.alloc (.cells #[Y nm,U O st,U O lf,U O ad,Ia sv,U O td] 111)).alloc (.cells #[Y nm,U O st,U O lf,U O ad,Ia sv,U O td] 111)):=((Ib _ _).alloc (Ic _) _).alloc (by simp) _;have gZ:=Bi.out.below aI;have dY:Hid (cE _ _ _ _):=gZ;have cF:Hid _:=HB.out.trans (aI.mono cC);have rF:Hid (qX _ _ _):=Pz.out.trans (qX.of aI);clear aI gZ;go_wp2_with fail;refine⟨⟨_,_,_,_,_,_,_,_,_,_,_,_,_,_,_,_,_,_,_,_,_,_,_,⟨i,j+1,cur,by omega,by omega,rfl,by go_num,TW,dY,cF,rF⟩,rfl⟩,?_⟩;simp[intOf];omega
    .have TW:Hid _:=HC.out.fa jG (by rw[HN.out];exact aR) hkp
     rw[hkp] at hF;have qT:∀o,wr.frozen? ⟨g,o,be⟩=false:=λo=>I7 (n:=n) (xs:=eR cur) (by have h:=Bi.out;have h2:wr.ownsRow base 111 6 (J (AI ⟨g,0,be⟩) n c) cur.length (eR cur):=h;rw[oZ] at h2;exact h2) o;obtain⟨d0,d1,d2,d3,d4,d5⟩:=o9 Bi.out i (by rw[oZ];omega);simp only[ID] at d0 d1 d2 d3 d4 d5;clear hkp HC;generalize(rs.getD j dr)=rk at *;obtain⟨⟨nm,st,lf,ad,sv⟩,td⟩:=rk;simp only at c0 c1 c2 c3 c4 c5 hF;have hOS:(wr.setCells g (i*6) (bK.mk ⟨nm,st,lf,ad,sv⟩ td).cs).ownsRow base 111 6 (J (AI ⟨g,0,be⟩) n c) n (eR (cur.set i ⟨⟨nm,st,lf,ad,sv⟩,td⟩)):=by
      have h2:wr.ownsRow base 111 6 (J (AI ⟨g,0,be⟩) n c) cur.length (eR cur):=Bi.out;rw[oZ] at h2;have h3:=gd (bK.mk ⟨nm,st,lf,ad,sv⟩ td).cs _ (i*6) _ h2
      rwa [ME (by rw[oZ];omega)] at h3
     have HOS:Hid (cE base (wr.setCells g (i*6) (bK.mk ⟨nm,st,lf,ad,sv⟩ td).cs) (J (AI ⟨g,0,be⟩) n c) (cur.set i ⟨⟨nm,st,lf,ad,sv⟩,td⟩)):=(show J2 _ _ _ _ _ (cur.set i ⟨⟨nm,st,lf,ad,sv⟩,td⟩).length _ by rw[IT,oZ];exact hOS);have HFS:Hid (qX g w (wr.setCells g (i*6) (bK.mk ⟨nm,st,lf,ad,sv⟩ td).cs)):=qX.setCells _ _ _ _ Pz.out;have HBS:Hid (Below base w (wr.setCells g (i*6) (bK.mk ⟨nm,st,lf,ad,sv⟩ td).cs)):=dU di _ _ _ _ HB.out;clear hOS;go_wp2_with fail;refine(hF _ (MF _)).mono ?_;rintro e w2 ⟨rfl,rfl⟩;go_wp2_with fail;have hbz:Below (wr.setCells g (i*6) (bK.mk ⟨nm,st,lf,ad,sv⟩ td).cs).heap.size (wr.setCells g (i*6) (bK.mk ⟨nm,st,lf,ad,sv⟩ td).cs) (((wr.setCells g (i*6) (bK.mk ⟨nm,st,lf,ad,sv⟩ td).cs).alloc (.cells #[Y nm,U O st,U O lf,U O ad,Ia sv,U O td] 111)).alloc (.cells #[Y nm,U O st,U O lf,U O ad,Ia sv,U O td] 111)):=((Ib _ _).alloc (Ic _) _).alloc (by simp) _;refine⟨⟨_,_,_,_,_,_,_,_,_,_,_,_,_,_,_,_,_,_,_,_,_,_,_,⟨i+1,j+1,cur.set i ⟨⟨nm,st,lf,ad,sv⟩,td⟩,by omega,by omega,by go_num,by go_num,TW,HOS.out.below hbz,HBS.out.trans (hbz.mono (by have:=HBS.out.size;omega)),HFS.out.trans (qX.of hbz)⟩,rfl⟩,?_⟩;simp[intOf];omega
   .have Cz:j=n:=by omega
    subst Cz;have HR:Hid (cur.take i=rs.filter (ei times)):=by
     have h:=HC.out.head;rw[show rs.take j=rs by rw[<- HN.out];exact List.take_length] at h;exact h
    have hOW:wr.ownsRow base 111 6 (J (AI ⟨g,0,be⟩) j c) j (eR cur):=by
     have h2:wr.ownsRow base 111 6 (J (AI ⟨g,0,be⟩) j c) cur.length (eR cur):=Bi.out;rw[oZ] at h2;exact h2
    have Hk:∀ty,(Ot #[35] ty #[J (AI ⟨g,i*6,be⟩) (j-i) (c-i)]).run AS wr=.ok (Im #[]) (wr.setCells g (i*6) (Gm (j-i))):=λty=>
     sZ _ ty g _ _ _ (by omega) (λk hk=>by rw[Ox hOW _ (by omega),Ie (by rw[dX,oZ];omega)];rfl) (λk _=>I7 hOW _)
    have HF:Hid ((wr.setCells g (i*6) (Gm (j-i))).ownsRow base 111 6 (J (AI ⟨g,0,be⟩) i c) i (eR (cur.take i))):=by
     have h:=mD (m:=i) (gd (Gm (j-i)) _ (i*6) _ hOW) (by omega);rw[oh (ys:=eR (cur.take i)) (by rw[jn,dX,oZ];omega) (by rw[dX,IB];omega) (λk hk=>by
      rw[kd _ _ _ _ (by omega),<- sW,IM hk])] at h
     exact h
    have LX:Hid ((cur.take i).length=i):=(show(cur.take i).length=i by rw[IB];omega);have HBF:Hid (Below base w (wr.setCells g (i*6) (Gm (j-i)))):=dU di _ _ _ _ HB.out;have HFF:Hid (qX g w (wr.setCells g (i*6) (Gm (j-i)))):=qX.setCells _ _ _ _ Pz.out;have hic:i<=c:=by omega
    have akd:¬ c=i:=by omega
    clear hOW Bi HB HC;go_wp2_with fail;go_ret;refine⟨i,rfl,?_,HBF.out,HFF.out⟩;rw[<- HR.out];show J2 _ _ _ _ _ (cur.take i).length _;rw[LX.out];exact HF.out
end Go.Proofs.YtfidhgjmifendaaGreatDoor
