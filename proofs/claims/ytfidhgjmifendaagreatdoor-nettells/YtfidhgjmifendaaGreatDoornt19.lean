import Derived.Test.YtfidhgjmifendaaGreatDoornt18
import Derived.Test.YtfidhgjmifendaaGreatDoornt10
set_option maxHeartbeats 3200000
set_option maxRecDepth 1000000
open List renaming length_set→IS,length_cons→Iy,length_take→IA,getElem?_take_of_lt→IL,getElem?_eq_none→IZ,length_drop→JN,length_eraseIdx→Qd,getElem?_append_left→Js,getElem?_append_right→Jr,getElem?_eq_some_iff→Jm,getElem?_drop→Uc,getElem?_eq_getElem→If
open Go.Value renaming slice→J,string→Y,int→U,bool→Ia,tuple→Ik,agg→Ij
open Option renaming some→AI,none→be
open Go renaming TypeId→I4,run_underlying→QF,info_parts→I6,maxLen→Il,cell_regrown→Is,redrawn→Iz,wp_region_quiet_below→IJ,heap_alloc_new→Ih,bodyPost_ret→IK
open Go.World.ownsRow renaming stored→IG,frozenAt→I7,cellAt→Oz
open Go.Value.slice renaming injEq→I1
open Option.some renaming injEq→It
open Go.Addr.mk renaming injEq→JL
open Go.IntKind renaming i64→O
open Go.Builtin renaming clear_→Ov,zeroCells→Qb
open Go.Proofs.Tryz renaming prog→AS,underlying35→Ob,underlying25→Qa
open Go.Ending renaming returned→By
open Go.RowKit.Below renaming refl→Ib
open Go.Act renaming eval→M2,put→Oo
open Nat renaming le_refl→Ic
open Go.Sort renaming grow→Io
namespace Go.Proofs.YtfidhgjmifendaaGreatDoor
open Go.RowKit
def Ay:List Value->Nat->List Value->List Value
 |xs,_,[]=>xs
 |xs,o,v::r=>Ay (xs.set o v) (o+1) r
theorem ju:∀(vs xs:List Value) (o:Nat),(Ay xs o vs).length=xs.length
 |[],_,_=>rfl
 |v::r,xs,o=>by rw[Ay,ju r,IS]
theorem ki:∀(vs xs:List Value) (o k:Nat),k<o\/o+vs.length<=k->(Ay xs o vs)[k]?=xs[k]?
 |[],_,_,_,_=>rfl
 |v::r,xs,o,k,h=>by
  simp only[Iy] at h;rw[Ay,ki r _ _ k (by omega),List.getElem?_set_ne (by omega)]
theorem wU:∀(vs xs:List Value) (o j:Nat),j<vs.length->o+vs.length<=xs.length->(Ay xs o vs)[o+j]?=vs[j]?
 |[],_,_,_,h,_=>by simp at h
 |v::r,xs,o,0,_,h2=>by
  simp only[Iy] at h2;rw[Ay,ki r _ _ _ (by omega)];simp[List.getElem?_set_self (show o<xs.length by omega)]
 |v::r,xs,o,j+1,h,h2=>by
  simp only[Iy] at h h2;rw[Ay,show o+(j+1)=(o+1)+j by omega,wU r _ _ j (by omega) (by rw[IS];omega)];simp
theorem fV{base g n cap:Nat}{e:I4}{size:Nat}:∀(vs xs:List Value) (o:Nat) (w:World),w.ownsRow base e size (J (AI ⟨g,0,be⟩) n cap) n xs->(w.setCells g o vs).ownsRow base e size (J (AI ⟨g,0,be⟩) n cap) n (Ay xs o vs)
 |[],_,_,_,h=>h
 |v::r,_,o,_,h=>fV r _ _ _ (IG h o v).1
theorem dV{base g:Nat}(hg:base<=g):∀(vs:List Value) (o:Nat) (w0 w:World),Below base w0 w->Below base w0 (w.setCells g o vs)
 |[],_,_,_,h=>h
 |v::r,o,w0,_,h=>dV hg r _ w0 _ (h.setCell (p:=⟨g,o,be⟩) hg v)
theorem mI{w:World}{base g n m cap:Nat}{e:I4}{size:Nat}{xs:List Value}(h:w.ownsRow base e size (J (AI ⟨g,0,be⟩) n cap) n xs)(hm:m<=n):w.ownsRow base e size (J (AI ⟨g,0,be⟩) m cap) m (xs.take (m*size)):=by
 obtain⟨h1,h2⟩:=h;have hle:m*size<=n*size:=Nat.mul_le_mul_right _ hm;refine⟨by rw[IA,h1];omega,?_⟩;rcases h2 with⟨hv,_⟩|⟨g',c',cur,hv,ev,hg,fG,dO,b9,bf⟩
 .cases hv
 .simp only[I1,It,JL,and_true,true_and] at hv
  obtain⟨rfl,rfl⟩:=hv;refine .inr ⟨g,cap,cur,rfl,ev,hg,by omega,dO,b9,?_⟩;rw[<- bf,List.take_take,Nat.min_eq_left hle]
def zR:List Value:=[Y ⟨#[]⟩,U O 0,U O 0,U O 0,Ia false,U O 0]
theorem oo{xs ys:List Value}{k:Nat}(hl:k<=xs.length)(hy:ys.length=k)(h:∀j,j<k->xs[j]?=ys[j]?):xs.take k=ys:=by
 apply List.ext_getElem?;intro j;by_cases hj:j<k
 .rw[IL hj,h j hj]
 .rw[IZ (by rw[IA];omega),IZ (by omega)]
theorem yY{rs:List bL}{p n:Nat}(hn:rs.length=n)(hp:p<n):(Ay (Ay (eQ rs) (p*6) (eQ (rs.drop (p+1)))) ((n-1)*6) zR).take ((n-1)*6)=eQ (rs.eraseIdx p):=by
 have hl:(eQ rs).length=n*6:=by rw[dX,hn]
 have hd:(eQ (rs.drop (p+1))).length=(n-(p+1))*6:=by rw[dX,JN,hn]
 refine oo (by rw[ju,ju,hl];omega) (by rw[dX,Qd,if_pos (by omega),hn]) (λj hj=>?_);rw[ki _ _ _ _ (by omega),List.eraseIdx_eq_take_drop_succ,sU];have ht:(eQ (rs.take p)).length=p*6:=by rw[dX,IA,hn];omega
 by_cases hjp:j<p*6
 .rw[ki _ _ _ _ (by omega),Js (by omega),<- sV,IL hjp]
 .rw[Jr (by omega),ht]
  have:=wU (eQ (rs.drop (p+1))) (eQ rs) (p*6) (j-p*6) (by rw[hd];omega) (by rw[hd,hl];omega);rw[show p*6+(j-p*6)=j by omega] at this;exact this
theorem uO(w:World)(ty:I4)(b o c:Nat)(hc:∀j,j<6->(w.cell? ⟨b,o+j,be⟩).isSome=true)(hf:∀j,j<6->w.frozen? ⟨b,o+j,be⟩=false) : (Ov #[35] ty #[J (AI ⟨b,o,be⟩) 1 c]).run AS w=.ok (Ik #[]) (w.setCells b o zR):=by
 have Vz:(Qb (Value.agg #[Y ⟨#[]⟩,U O 0,U O 0,U O 0,Ia false,U O 0]).cells 1).toList=zR:=by kernel_rfl
 have oM:=run_storeCells_cells (P:=AS) b o zR 0 w (λj hj=>by simpa using hc j (by simpa[zR] using hj)) (λj hj=>by simpa using hf j (by simpa[zR] using hj)) (by intro v hv;simp[zR] at hv;rcases hv with rfl|rfl|rfl|rfl<;>rfl);simp only[Nat.add_zero] at oM;simp[Ov,QF Ob,Vz,oM]
theorem A5(rs:List bL)(n p g c base:Nat)(w:World)(hn:rs.length=n)(ho:cH base w (J (AI ⟨g,0,be⟩) n c) rs)(hp:p<n)(yZ:n<=1000) :
 Calls AS 210 #[J (AI ⟨g,0,be⟩) n c,U O p,U O (p+1)] w λe w'=>e=By (J (AI ⟨g,0,be⟩) (n-1) c)/\cH base w' (J (AI ⟨g,0,be⟩) (n-1) c) (rs.eraseIdx p)/\Below base w w':=by
 obtain⟨i0,fL,dh,cZ,nF⟩:=I6 Tryz.vF;have HO:Hid (w.ownsRow base 111 6 (J (AI ⟨g,0,be⟩) n c) n (eQ rs)):=by rw[<- hn];rw[<- hn] at ho;exact ho
 obtain⟨dn,fG,dO⟩:base<=g/\n<=c/\c<=Il:=by
  rcases HO.out.2 with⟨hv,_⟩|⟨g',c',cur,hv,ev,hg,fG,dO,b9,bf⟩
  .cases hv
  .simp only[I1,It,JL,and_true,true_and] at hv
   obtain⟨rfl,rfl⟩:=hv;exact⟨ev,fG,dO⟩
 unfold Il at dO;have RA:(0:Int)<=(p:Int)+1:=by omega
 have uP:(p:Int)+1<=(n:Int):=by omega
 have vG:((p:Int)+1).toNat=p+1:=by omega
 have hic:p<=c:=by omega
 have fM:∀k,k<n*6->w.cell? ⟨g,k,be⟩=(eQ rs)[k]?:=λk hk=>by
  rcases HO.out.2 with⟨hv,_⟩|⟨g',c',cur,hv,ev,hg,_,_,b9,bf⟩
  .cases hv
  .simp only[I1,It,JL,and_true,true_and] at hv
   obtain⟨rfl,rfl⟩:=hv;rw[ae hg,<- bf,IL hk,Array.getElem?_toList]
 have GV:(eQ rs).length=n*6:=by rw[dX,hn]
 have S1:Hid ((eQ (rs.drop (p+1))).length=(n-(p+1))*6):=(show(eQ (rs.drop (p+1))).length=_ by rw[dX,JN,hn]);obtain⟨A,hA,hnews⟩:∃A:Addr,(if c=p+1 then AI (⟨g,0,be⟩:Addr) else AI ⟨g,(p+1)*6,be⟩)=AI A/\Hid (∀j u,(eQ (rs.drop (p+1)))[j]?=AI u->w.drew.cell? (A.add j)=AI u):=by
  by_cases h:c=p+1
  .refine⟨_,if_pos h,λj u hj=>?_⟩
   have:j<(eQ (rs.drop (p+1))).length:=(Jm.1 hj).1
   rw[S1.out] at this;omega
  .refine⟨_,if_neg h,λj u hj=>?_⟩
   have hj1:=(Jm.1 hj).1;rw[S1.out] at hj1;rw[Addr.add_lit];show w.cell? _=_;rw[fM _ (by omega),<- hj,<- zc,Uc]
 have S2:Hid (∀u∈eQ (rs.drop (p+1)),u.oneCell'=true):=CQ _;have S3:Hid (∀j,j<(eQ (rs.drop (p+1))).length->(w.drew.cell? ⟨g,0+p*6+j,be⟩).isSome=true/\w.drew.frozen? ⟨g,0+p*6+j,be⟩=false):=λj hj=>by
  rw[S1.out] at hj;refine⟨?_,I7 HO.out _⟩;show(w.cell? _).isSome=true;rw[fM _ (by omega),If (by omega)];rfl
 have HD:Hid ((w.drew.setCells g (p*6) (eQ (rs.drop (p+1)))).ownsRow base 111 6 (J (AI ⟨g,0,be⟩) n c) n (Ay (eQ rs) (p*6) (eQ (rs.drop (p+1))))):=fV _ _ _ _ (show w.drew.ownsRow base 111 6 (J (AI ⟨g,0,be⟩) n c) n (eQ rs) from HO.out);have GW:∀ty,(Ov #[35] ty #[J (AI ⟨g,(p+(n-(p+1)))*6,be⟩) (n-(p+(n-(p+1)))) (c-(p+(n-(p+1))))]).run AS (w.drew.setCells g (p*6) (eQ (rs.drop (p+1))))=.ok (Ik #[]) ((w.drew.setCells g (p*6) (eQ (rs.drop (p+1)))).setCells g ((n-1)*6) zR):=λty=>by
  rw[show p+(n-(p+1))=n-1 by omega,show n-(n-1)=1 by omega];exact uO _ ty g _ _ (λj hj=>by rw[Oz HD.out _ (by omega),If (by rw[ju,GV];omega)];rfl) (λj _=>I7 HD.out _)
 have HF:Hid (((w.drew.setCells g (p*6) (eQ (rs.drop (p+1)))).setCells g ((n-1)*6) zR).ownsRow base 111 6 (J (AI ⟨g,0,be⟩) (n-1) c) (n-1) (eQ (rs.eraseIdx p))):=by
  have h:=mI (m:=n-1) (fV zR _ ((n-1)*6) _ HD.out) (by omega);rw[yY hn hp] at h;exact h
 have HL:Hid ((rs.eraseIdx p).length=n-1):=(show(rs.eraseIdx p).length=n-1 by rw[Qd,if_pos (by omega),hn]);have HBL:Hid (Below base w ((w.drew.setCells g (p*6) (eQ (rs.drop (p+1)))).setCells g ((n-1)*6) zR)):=dV dn _ _ _ _ (dV dn _ _ _ _ (Ib _ _).drew);have A6:Hid (p+(n-(p+1))=n-1):=(show p+(n-(p+1))=n-1 by omega);clear ho fM;go_enter Tryz.func210,Tryz.ntmps210;go_wp2_with fail;go_region_law (refine step_append_room rfl (.tmp 22) (.tmp 25) 35 rfl 111 i0 6 Ob fL cZ g 0 p c (by simp[M2,Oo]) A (n-(p+1)) (c-(p+1)) (eQ (rs.drop (p+1))) (by simp[M2,Oo]) S1.out hnews.out S2.out (by omega) S3.out ?_)
 go_wp2_with fail;go_ret;refine⟨?_,?_,HBL.out⟩
 .have wV:=A6.out
  simp only[wV];rfl
 .show World.ownsRow _ _ _ _ _ (rs.eraseIdx p).length _
  rw[HL.out];exact HF.out
end Go.Proofs.YtfidhgjmifendaaGreatDoor
namespace Go.Proofs.YtfidhgjmifendaaGreatDoor
open Go.RowKit Go.WideMaps Go.Maps
theorem fD{rs:List bL}(h:dW rs=0):rs.length<=20/\(∀j,j<rs.length->(rs.getD j dr).m.e=0)/\gQ rs/\dJ rs:=by
 unfold dW at h;by_cases h1:20<rs.length
 .rw[if_pos h1] at h;omega
 rw[if_neg h1] at h;by_cases h2:aR (gR rs)=0
 .rw[if_pos h2] at h
  by_cases h3:gQ rs
  .rw[if_pos h3] at h
   by_cases h4:dJ rs
   .refine⟨by omega,λj hj=>?_,h3,h4⟩
    have:=sW h2 j (by rw[kP];exact hj)
    rwa [kQ] at this
   .rw[if_neg h4] at h;omega
  .rw[if_neg h3] at h;omega
 .rw[if_neg h2] at h;exact absurd h h2
theorem vH{a b:Mem}(ha:a.e=0)(hb:b.e=0)(hn:a.name=b.name):bP a b=0:=by
 have h:aO [a] [b]=0:=by rw[aO,jL,jL];simp[ha,hb]
 rw[bP,if_pos h,if_pos hn]
theorem GX(rs:List bL)(v:Value)(m:Mem)(w:World)(hv:mJ w v rs)(hm:m.name.size<=Il)(h0:dW rs=0)(he:m.e=0)(RB:CR rs m.name)(hl:rs.length=20) :
 Calls AS 168 #[v,Ij #[Y m.name,U O m.state,U O m.aI,U O m.addr,Ia m.server]] w λe w'=>e=By (Ik #[J be 0 0,U O 2])/\Below w.heap.size w w':=by
 obtain⟨i0,fL,dh,gW,gG⟩:=I6 Tryz.vF;have HV:Hid (mJ w v rs):=hv;have jQ:=λ(w:World) (h:mJ w v rs)=>fW rs v w h;rw[h0] at jQ;have dO:=λw=>eR m w hm;rw[he] at dO;have HH:Hid _:=CS RB;clear h0 he hv;obtain⟨nm,st,lf,ad,sv⟩:=m;simp only at *;have rO:Below w.heap.size w (w.alloc (.cells #[Y nm,U O st,U O lf,U O ad,Ia sv] 50)):=(Ib _ _).alloc (Ic _) _;go_enter Tryz.func168,Tryz.ntmps168;go_wp2_with fail;refine(jQ _ (HV.out.below rO)).mono ?_;rintro e w1 ⟨rfl,aB⟩;have c1:∀o,w1.cell? ⟨w.heap.size,o,be⟩=#[Y nm,U O st,U O lf,U O ad,Ia sv][o]?:=λo=>by
  rw[aB.cell (p:=⟨w.heap.size,o,be⟩) (by simp)];exact cT rfl
 have aV:Hid _:=rO.trans (aB.mono (by simp));have cZ:w.heap.size<w1.heap.size:=by have:=aB.size;simp at this;omega
 clear aB rO jQ;go_wp2_with fail;refine(dO _).mono ?_;rintro e w2 ⟨rfl,aJ⟩;have c2:∀o,w2.cell? ⟨w.heap.size,o,be⟩=#[Y nm,U O st,U O lf,U O ad,Ia sv][o]?:=λo=>by
  rw[aJ.cell (p:=⟨w.heap.size,o,be⟩) (by simp only;omega)];exact c1 o
 have bp:Hid _:=aV.out.trans (aJ.mono aV.out.size);have nF:w.heap.size<w2.heap.size:=by have:=aJ.size;omega
 clear aJ c1 cZ aV dO;go_wp2_with fail;refine(fX rs v _ (HV.out.below bp.out) (by omega)).mono ?_;rintro e w3 ⟨v3,rfl,lh,bV⟩;have dY:Hid (cH _ _ _ _):=lh;have c3:w3.cell? ⟨w.heap.size,0,be⟩=AI (Y nm):=by
  rw[bV.cell (p:=⟨w.heap.size,0,be⟩) (by simp only;omega)];exact c2 0
 have C3:Hid (∀o,w3.cell? ⟨w.heap.size,o,be⟩=#[Y nm,U O st,U O lf,U O ad,Ia sv][o]?):=λo=>by
  rw[bV.cell (p:=⟨w.heap.size,o,be⟩) (by simp only;omega)];exact c2 o
 have cj:Hid _:=bp.out.trans (bV.mono bp.out.size);have qi:w.heap.size<w3.heap.size:=by have:=bV.size;omega
 have RC:=bV.size;clear bV lh c2;go_wp2_with fail;go_region_held3 (λw'=>w'.cell? ⟨w.heap.size,0,be⟩=AI (Y nm)) (first|assumption|go_keep) (first|(go_at_call 126;refine(pd rs v _ ((HV.out.below cj.out).below (Ib _ _).drew) (by omega)).mono ?_;rintro e w4 ⟨rfl,hown,eO⟩;obtain⟨cq,jM,cv⟩:=pj hown hm;rw[HH.out] at jM;have rh:(Instr.lookup 125 (.map (AI w3.heap.size)) (Y nm) true).run AS w4=.ok (Ik #[U O cq,Ia false]) w4:=jM;clear jM cv hown;have eP:Hid (Below w3.heap.size w3 w4):=(Ib w3.heap.size w3).drew.trans eO;have hS:w4.cell? ⟨w.heap.size,0,be⟩=AI (Y nm):=((eO.cell (p:=⟨w.heap.size,0,be⟩) qi).trans c3);clear eO))
 obtain⟨a3,DU,zd⟩:=dY.out.slice;subst zd;have gE:Hid _:=cj.out.trans (eP.out.mono cj.out.size);clear dY C3 eP cj c3 rh;rw[hl];go_wp2_with fail;go_ret2;exact⟨rfl,gE.out⟩
theorem Me(rs:List bL)(v:Value)(m:Mem)(w:World)(hv:mJ w v rs)(hm:m.name.size<=Il)(h0:dW rs=0)(he:m.e=0)(p:Nat)(hp:p<rs.length)(wV:(rs.getD p dr).m.name=m.name)(RD:eB m (rs.getD p dr).m=false) :
 Calls AS 168 #[v,Ij #[Y m.name,U O m.state,U O m.aI,U O m.addr,Ia m.server]] w λe w'=>∃v',e=By (Ik #[v',U O 0])/\cH w.heap.size w' v' rs/\Below w.heap.size w w':=by
 obtain⟨i0,fL,dh,gW,gG⟩:=I6 Tryz.vF;have HV:Hid (mJ w v rs):=hv;have jQ:=λ(w:World) (h:mJ w v rs)=>fW rs v w h;rw[h0] at jQ;have dO:=λw=>eR m w hm;rw[he] at dO;have HH:Hid (Maps.has (Dm (eX rs) rs.length) (kS m.name)=true):=(qA _ _ _).2 ⟨p,hp,by rw[dD];exact wV⟩;have fS:Hid ((Dm (eX rs) rs.length).atKey (kS m.name) (.lit (.int O 0))=.lit (.int O p)):=GY _ _ _ _ p hp (by rw[dD];exact wV) (λi hi hk=>by rw[dD,<- wV];exact λe=>(fD h0).2.2.2 p i hi hk e.symm);have A7:=(fD h0).1;have VA:Hid _:=(fD h0).2.1 p hp;have GZ:(rs.getD p dr).m.name.size<=Il:=by obtain⟨_,_,_,h,_⟩:=hv;exact h p
 have AN:Hid _:=vH he VA.out wV.symm;clear h0 he hv VA;obtain⟨nm,st,lf,ad,sv⟩:=m;simp only at *;have rO:Below w.heap.size w (w.alloc (.cells #[Y nm,U O st,U O lf,U O ad,Ia sv] 50)):=(Ib _ _).alloc (Ic _) _;go_enter Tryz.func168,Tryz.ntmps168;go_wp2_with fail;refine(jQ _ (HV.out.below rO)).mono ?_;rintro e w1 ⟨rfl,aB⟩;have c1:∀o,w1.cell? ⟨w.heap.size,o,be⟩=#[Y nm,U O st,U O lf,U O ad,Ia sv][o]?:=λo=>by
  rw[aB.cell (p:=⟨w.heap.size,o,be⟩) (by simp)];exact cT rfl
 have aV:Hid _:=rO.trans (aB.mono (by simp));have cZ:w.heap.size<w1.heap.size:=by have:=aB.size;simp at this;omega
 clear aB rO jQ;go_wp2_with fail;refine(dO _).mono ?_;rintro e w2 ⟨rfl,aJ⟩;have c2:∀o,w2.cell? ⟨w.heap.size,o,be⟩=#[Y nm,U O st,U O lf,U O ad,Ia sv][o]?:=λo=>by
  rw[aJ.cell (p:=⟨w.heap.size,o,be⟩) (by simp only;omega)];exact c1 o
 have bp:Hid _:=aV.out.trans (aJ.mono aV.out.size);have nF:w.heap.size<w2.heap.size:=by have:=aJ.size;omega
 clear aJ c1 cZ aV dO;go_wp2_with fail;refine(fX rs v _ (HV.out.below bp.out) (by omega)).mono ?_;rintro e w3 ⟨v3,rfl,lh,bV⟩;have dY:Hid (cH _ _ _ _):=lh;have c3:w3.cell? ⟨w.heap.size,0,be⟩=AI (Y nm):=by
  rw[bV.cell (p:=⟨w.heap.size,0,be⟩) (by simp only;omega)];exact c2 0
 have C3:Hid (∀o,w3.cell? ⟨w.heap.size,o,be⟩=#[Y nm,U O st,U O lf,U O ad,Ia sv][o]?):=λo=>by
  rw[bV.cell (p:=⟨w.heap.size,o,be⟩) (by simp only;omega)];exact c2 o
 have cj:Hid _:=bp.out.trans (bV.mono bp.out.size);have qi:w.heap.size<w3.heap.size:=by have:=bV.size;omega
 have RC:=bV.size;clear bV lh c2;go_wp2_with fail;go_region_held3 (λw'=>w'.cell? ⟨w.heap.size,0,be⟩=AI (Y nm)) (first|assumption|go_keep) (first|(go_at_call 126;refine(pd rs v _ ((HV.out.below cj.out).below (Ib _ _).drew) (by omega)).mono ?_;rintro e w4 ⟨rfl,hown,eO⟩;obtain⟨cq,jM,cv⟩:=pj hown hm;rw[HH.out] at jM;rw[fS.out] at cv;have hcq:cq=p:=(by simp at cv;exact cv.symm);subst hcq;have rh:(Instr.lookup 125 (.map (AI w3.heap.size)) (Y nm) true).run AS w4=.ok (Ik #[U O p,Ia true]) w4:=jM;clear jM cv hown;have eP:Hid (Below w3.heap.size w3 w4):=(Ib w3.heap.size w3).drew.trans eO;have hS:w4.cell? ⟨w.heap.size,0,be⟩=AI (Y nm):=((eO.cell (p:=⟨w.heap.size,0,be⟩) qi).trans c3);clear eO))
 obtain⟨a3,DU,zd⟩:=dY.out.slice;subst zd;have C4:∀o,w4.cell? ⟨w.heap.size,o,be⟩=#[Y nm,U O st,U O lf,U O ad,Ia sv][o]?:=λo=>by
  rw[eP.out.cell (p:=⟨w.heap.size,o,be⟩) qi];exact C3.out o
 have nH:Hid (cH _ _ _ _):=dY.out.below eP.out;have gE:Hid _:=cj.out.trans (eP.out.mono cj.out.size);have jc:w2.heap.size<=w4.heap.size:=by have:=eP.out.size;omega
 have VB:Hid (mJ w4 v rs):=HV.out.below gE.out;clear dY C3 eP cj c3 rh HV;obtain⟨pa,ca,hvv,_,cQ⟩:=VB.out;subst hvv;obtain⟨b,off,Mf,kK,hr⟩:∃b off,pa=AI ⟨b,off,be⟩/\b<w4.heap.size/\mK w4 b off rs:=by
  rcases cQ with h|h
  .rw[h] at hp;simp at hp
  .exact h
 subst Mf;obtain⟨e0,e1,e2,e3,e4,e5⟩:=hr p hp;have hN:=λw=>om ⟨nm,st,lf,ad,sv⟩ (rs.getD p dr).m w hm GZ;rw[AN.out,RD] at hN;simp only[beq_self_eq_true,Bool.true_and] at hN;clear cQ hr VB;generalize(rs.getD p dr)=rp at *;obtain⟨⟨yn,ys,yl,ya,yv⟩,ytd⟩:=rp;simp only at e0 e1 e2 e3 e4 e5 hN wV;have RE:=wV.symm;clear wV;subst RE;generalize VC:rs.length=n at *;have HN:Hid _:=VC;clear VC;go_wp2_with fail;have E0:=Is (C4 0);have E1:=Is (C4 1);have E2:=Is (C4 2);have E3:=Is (C4 3);have E4:=Is (C4 4);have F0:=Is e0;have F1:=Is e1;have F2:=Is e2;have F3:=Is e3;have F4:=Is e4;have cN:∀d os,Calls AS 162 #[Ij #[Y nm,U O st,U O lf,U O ad,Ia sv],Ij #[Y nm,U O ys,U O yl,U O ya,Ia yv]] (Io (Iz w4 d) os) λe gD=>e=By (Ik #[Ia false,U O 0])/\∃p:Regrown,gD=Io (Iz w4 p.d) p.os:=λd os=>
  Calls.regrown_of ((hN _).mono (by rintro e w' ⟨rfl,hb⟩;exact⟨rfl,hb⟩))
 clear e0 e1 e2 e3 e4 e5 hN;refine IJ (by kernel_rfl) (by kernel_rfl) ?_;repeat(quiet_step (exact cN _ _))
 refine bN λdq kj ed=>?_;clear cN E0 E1 E2 E3 E4 F0 F1 F2 F3 F4;have yo:Hid (cH w.heap.size (Io (Iz w4 dq) kj) (J a3 n DU) rs):=(nH.out.below ed.out).base (by omega);have rK:Hid _:=gE.out.trans (ed.out.mono gE.out.size);clear nH ed;go_wp2_with fail;go_ret2;exact⟨_,rfl,yo.out,rK.out⟩
theorem DV(rs:List bL)(v:Value)(m:Mem)(w:World)(hv:mJ w v rs)(hm:m.name.size<=Il)(h0:dW rs=0)(he:m.e=0)(p:Nat)(hp:p<rs.length)(wV:(rs.getD p dr).m.name=m.name)(RD:eB m (rs.getD p dr).m=true) :
 Calls AS 168 #[v,Ij #[Y m.name,U O m.state,U O m.aI,U O m.addr,Ia m.server]] w λe w'=>∃v',e=By (Ik #[v',U O 0])/\cH w.heap.size w' v' (rs.eraseIdx p++[⟨m,0⟩])/\Below w.heap.size w w':=by
 obtain⟨i0,fL,dh,gW,gG⟩:=I6 Tryz.vF;have HV:Hid (mJ w v rs):=hv;have jQ:=λ(w:World) (h:mJ w v rs)=>fW rs v w h;rw[h0] at jQ;have dO:=λw=>eR m w hm;rw[he] at dO;have HH:Hid (Maps.has (Dm (eX rs) rs.length) (kS m.name)=true):=(qA _ _ _).2 ⟨p,hp,by rw[dD];exact wV⟩;have fS:Hid ((Dm (eX rs) rs.length).atKey (kS m.name) (.lit (.int O 0))=.lit (.int O p)):=GY _ _ _ _ p hp (by rw[dD];exact wV) (λi hi hk=>by rw[dD,<- wV];exact λe=>(fD h0).2.2.2 p i hi hk e.symm);have A7:=(fD h0).1;have VA:Hid _:=(fD h0).2.1 p hp;have GZ:(rs.getD p dr).m.name.size<=Il:=by obtain⟨_,_,_,h,_⟩:=hv;exact h p
 have AN:Hid _:=vH he VA.out wV.symm;clear h0 he hv VA;obtain⟨nm,st,lf,ad,sv⟩:=m;simp only at *;have rO:Below w.heap.size w (w.alloc (.cells #[Y nm,U O st,U O lf,U O ad,Ia sv] 50)):=(Ib _ _).alloc (Ic _) _;go_enter Tryz.func168,Tryz.ntmps168;go_wp2_with fail;refine(jQ _ (HV.out.below rO)).mono ?_;rintro e w1 ⟨rfl,aB⟩;have c1:∀o,w1.cell? ⟨w.heap.size,o,be⟩=#[Y nm,U O st,U O lf,U O ad,Ia sv][o]?:=λo=>by
  rw[aB.cell (p:=⟨w.heap.size,o,be⟩) (by simp)];exact cT rfl
 have aV:Hid _:=rO.trans (aB.mono (by simp));have cZ:w.heap.size<w1.heap.size:=by have:=aB.size;simp at this;omega
 clear aB rO jQ;go_wp2_with fail;refine(dO _).mono ?_;rintro e w2 ⟨rfl,aJ⟩;have c2:∀o,w2.cell? ⟨w.heap.size,o,be⟩=#[Y nm,U O st,U O lf,U O ad,Ia sv][o]?:=λo=>by
  rw[aJ.cell (p:=⟨w.heap.size,o,be⟩) (by simp only;omega)];exact c1 o
 have bp:Hid _:=aV.out.trans (aJ.mono aV.out.size);have nF:w.heap.size<w2.heap.size:=by have:=aJ.size;omega
 clear aJ c1 cZ aV dO;go_wp2_with fail;refine(fX rs v _ (HV.out.below bp.out) (by omega)).mono ?_;rintro e w3 ⟨v3,rfl,lh,bV⟩;have dY:Hid (cH _ _ _ _):=lh;have c3:w3.cell? ⟨w.heap.size,0,be⟩=AI (Y nm):=by
  rw[bV.cell (p:=⟨w.heap.size,0,be⟩) (by simp only;omega)];exact c2 0
 have C3:Hid (∀o,w3.cell? ⟨w.heap.size,o,be⟩=#[Y nm,U O st,U O lf,U O ad,Ia sv][o]?):=λo=>by
  rw[bV.cell (p:=⟨w.heap.size,o,be⟩) (by simp only;omega)];exact c2 o
 have cj:Hid _:=bp.out.trans (bV.mono bp.out.size);have qi:w.heap.size<w3.heap.size:=by have:=bV.size;omega
 have RC:=bV.size;clear bV lh c2;go_wp2_with fail;go_region_held3 (λw'=>w'.cell? ⟨w.heap.size,0,be⟩=AI (Y nm)) (first|assumption|go_keep) (first|(go_at_call 126;refine(pd rs v _ ((HV.out.below cj.out).below (Ib _ _).drew) (by omega)).mono ?_;rintro e w4 ⟨rfl,hown,eO⟩;obtain⟨cq,jM,cv⟩:=pj hown hm;rw[HH.out] at jM;rw[fS.out] at cv;have hcq:cq=p:=(by simp at cv;exact cv.symm);subst hcq;have rh:(Instr.lookup 125 (.map (AI w3.heap.size)) (Y nm) true).run AS w4=.ok (Ik #[U O p,Ia true]) w4:=jM;clear jM cv hown;have eP:Hid (Below w3.heap.size w3 w4):=(Ib w3.heap.size w3).drew.trans eO;have hS:w4.cell? ⟨w.heap.size,0,be⟩=AI (Y nm):=((eO.cell (p:=⟨w.heap.size,0,be⟩) qi).trans c3);clear eO))
 obtain⟨a3,DU,zd⟩:=dY.out.slice;subst zd;have C4:∀o,w4.cell? ⟨w.heap.size,o,be⟩=#[Y nm,U O st,U O lf,U O ad,Ia sv][o]?:=λo=>by
  rw[eP.out.cell (p:=⟨w.heap.size,o,be⟩) qi];exact C3.out o
 have nH:Hid (cH _ _ _ _):=dY.out.below eP.out;have gE:Hid _:=cj.out.trans (eP.out.mono cj.out.size);have jc:w2.heap.size<=w4.heap.size:=by have:=eP.out.size;omega
 have VB:Hid (mJ w4 v rs):=HV.out.below gE.out;clear dY C3 eP cj c3 rh HV;obtain⟨pa,ca,hvv,_,cQ⟩:=VB.out;subst hvv;obtain⟨b,off,Mf,kK,hr⟩:∃b off,pa=AI ⟨b,off,be⟩/\b<w4.heap.size/\mK w4 b off rs:=by
  rcases cQ with h|h
  .rw[h] at hp;simp at hp
  .exact h
 subst Mf;obtain⟨e0,e1,e2,e3,e4,e5⟩:=hr p hp;have hN:=λw=>om ⟨nm,st,lf,ad,sv⟩ (rs.getD p dr).m w hm GZ;rw[AN.out,RD] at hN;simp only[beq_self_eq_true,Bool.true_and] at hN;clear cQ hr VB;generalize(rs.getD p dr)=rp at *;obtain⟨⟨yn,ys,yl,ya,yv⟩,ytd⟩:=rp;simp only at e0 e1 e2 e3 e4 e5 hN wV;have RE:=wV.symm;clear wV;subst RE;generalize VC:rs.length=n at *;have HN:Hid _:=VC;clear VC;go_wp2_with fail;have E0:=Is (C4 0);have E1:=Is (C4 1);have E2:=Is (C4 2);have E3:=Is (C4 3);have E4:=Is (C4 4);have F0:=Is e0;have F1:=Is e1;have F2:=Is e2;have F3:=Is e3;have F4:=Is e4;have cN:∀d os,Calls AS 162 #[Ij #[Y nm,U O st,U O lf,U O ad,Ia sv],Ij #[Y nm,U O ys,U O yl,U O ya,Ia yv]] (Io (Iz w4 d) os) λe gD=>e=By (Ik #[Ia true,U O 0])/\∃p:Regrown,gD=Io (Iz w4 p.d) p.os:=λd os=>
  Calls.regrown_of ((hN _).mono (by rintro e w' ⟨rfl,hb⟩;exact⟨rfl,hb⟩))
 clear e0 e1 e2 e3 e4 e5 hN;refine IJ (by kernel_rfl) (by kernel_rfl) ?_;repeat(quiet_step (exact cN _ _))
 refine bN λdq kj ed=>?_;clear cN E0 E1 E2 E3 E4 F0 F1 F2 F3 F4;have LF:Hid _:=HN;obtain⟨g,c,RF,Mg⟩:∃g c,a3=AI ⟨g,0,be⟩/\DU=c:=by
  rcases nH.out.2 with⟨_,h0⟩|⟨g,c,cur,h,_⟩
  .have:=HN.out;omega
  .simp only[I1] at h
   exact⟨g,c,h.1,h.2.2⟩
 subst RF;subst Mg;have yo:Hid (cH _ _ _ _):=nH.out.below ed.out;have rK:Hid _:=gE.out.trans (ed.out.mono gE.out.size);have C6:∀o,(Io (Iz w4 dq) kj).cell? ⟨w.heap.size,o,be⟩=#[Y nm,U O st,U O lf,U O ad,Ia sv][o]?:=λo=>by
  rw[ed.out.cell (p:=⟨w.heap.size,o,be⟩) (by simp only;omega)];exact C4 o
 have Po:w2.heap.size<=(Io (Iz w4 dq) kj).heap.size:=by have:=ed.out.size;omega
 clear nH ed C4;generalize Io (Iz w4 dq) kj=w6 at *;go_wp2_with fail;refine(A5 rs n p g DU w2.heap.size _ HN.out yo.out hp (by omega)).mono ?_;rintro e w7 ⟨rfl,ho7,Gc⟩;have C7:∀o,w7.cell? ⟨w.heap.size,o,be⟩=#[Y nm,U O st,U O lf,U O ad,Ia sv][o]?:=λo=>by
  rw[Gc.cell (p:=⟨w.heap.size,o,be⟩) (by simp only;omega)];exact C6 o
 have DW:Hid _:=rK.out.trans (Gc.mono (by omega));have hz7:w2.heap.size<=w7.heap.size:=by have:=Gc.size;omega
 have Mh:Hid ((rs.eraseIdx p).length=n-1):=(show(rs.eraseIdx p).length=n-1 by rw[Qd,if_pos (by rw[HN.out];exact hp),HN.out]);have HO8:Hid (∀ob,(w7.alloc ob).ownsRow w2.heap.size 111 6 (J (AI ⟨g,0,be⟩) (n-1) DU) (n-1) (eQ (rs.eraseIdx p))):=λob=>by
  have h:=cH.below (ms:=rs.eraseIdx p) ho7 ((Ib _ _).alloc (Ic _) ob);have h2:(w7.alloc ob).ownsRow w2.heap.size 111 6 (J (AI ⟨g,0,be⟩) (n-1) DU) (rs.eraseIdx p).length (eQ (rs.eraseIdx p)):=h;rw[Mh.out] at h2;exact h2
 have LG:Hid (∀k,(Value.slice (AI ⟨g,0,be⟩) (n-1) DU).ownBlock=AI k->w.heap.size<=k):=λk hk=>by have:=(cH.lt (ms:=rs.eraseIdx p) ho7 k hk).1;omega
 have HSN:Hid (∀(w':World) (v':Value),w'.ownsRow w2.heap.size 111 6 v' (n-1+1) (eQ (rs.eraseIdx p)++(bL.mk ⟨nm,st,lf,ad,sv⟩ 0).cs)->cH w.heap.size w' v' (rs.eraseIdx p++[⟨⟨nm,st,lf,ad,sv⟩,0⟩])):=λw' v' h=>(vI (by rw[Mh.out];exact h)).base (by omega);have ajk:n-1<=19:=by omega
 clear Gc ho7 C6 rK yo Mh;generalize hn1:n-1=n1 at *;clear hn1;go_wp2_with (at_builtin;refine wpList_append_own _ rfl _ _ 35 rfl w2.heap.size 111 i0 _ 6 56 Ob fL dh gW gG rfl (by omega) _ n1 (eQ (rs.eraseIdx p)) rfl ?hown ⟨w7.heap.size,0,be⟩ 1 1 (bL.mk ⟨nm,st,lf,ad,sv⟩ 0).cs rfl rfl ?hnews (wW _) ?h63 ?hbytes ?hbase ?_)
 case hown=>exact HO8.out _
 case hnews=>(intro j u hj;rw[Addr.add_lit];exact(cT (by simp)).trans (by simpa[bL.cs] using hj))
 case h63=>(unfold Il;omega)
 case hbytes=>omega
 case hbase=>(simp;omega)
 intro v' w8 r1 r2 r3;have R1:Hid (cH _ _ _ _):=HSN.out w8 v' r1;have R2:Hid _:=(DW.out.alloc DW.out.size _).grown r2 (by have:=DW.out.size;simp;omega) (λk hk=>LG.out k hk);clear r1 r2 r3;go_wp2_with fail;go_ret2;exact⟨v',rfl,R1.out,R2.out⟩
theorem jA(a b:ByteArray):(a.toList==b.toList)=decide (a=b):=by
 by_cases h:a=b
 .subst h;simp
 .have h2:¬ a.toList=b.toList:=λe=>h (ky (by rw[Lib.toList_data,Lib.toList_data] at e;exact e))
  simp[h,h2]
end Go.Proofs.YtfidhgjmifendaaGreatDoor
namespace Go.Proofs.YtfidhgjmifendaaGreatDoor
namespace Gw
open Go.RowKit
theorem jR(a b:List bK)(va vb:Value)(pb cap:Nat)(w:World)(ha:Sl w va a)(hb:Sl w vb b)(hpb:pb<w.heap.size)(hc0:w.cell? ⟨pb,0,be⟩=AI va)(hc1:w.cell? ⟨pb,1,be⟩=AI vb) :
 Calls AS 110 #[J (AI ⟨pb,0,be⟩) 2 cap] w λe w'=>∃v',e=By (Ik #[v',U O (aE a b)])/\Below w.heap.size w w' /\
  (aE a b≠0->v'=J be 0 0)/\(aE a b=0->Own w.heap.size w' v' (av a b)):=by
 by_cases h0:aO a b=0
 .refine(kR a b va vb pb cap w ha hb hpb hc0 hc1 h0).mono ?_
  rintro e w' ⟨v',rfl,h1,h2,h3⟩;have hE:aE a b=if 6<(av a b).length then 2 else 0:=if_pos h0;refine⟨v',rfl,h1,λaM=>h2 ?_,λhz=>h3 ?_⟩
  .rw[hE] at aM;split at aM
   .assumption
   .exact absurd rfl aM
  .rw[hE] at hz;split at hz
   .cases hz
   .omega
 .refine(mL a b va vb pb cap w ha hb hpb hc0 hc1 h0).mono ?_
  rintro e w' ⟨rfl,h1⟩;have hE:aE a b=aO a b:=if_neg h0;exact⟨_,rfl,h1,λ_=>rfl,λhz=>absurd (hE▸hz) h0⟩
theorem qB(a b:List bK)(va vb:Value)(w:World)(ha:Sl w va a)(hb:Sl w vb b) :
 Calls AS 65 #[va,vb] w λe w'=>∃v',e=By (Ik #[v',U O (aE a b)])/\Below w.heap.size w w' /\
  (aE a b≠0->v'=J be 0 0)/\(aE a b=0->Own w.heap.size w' v' (av a b)):=by
 have HA:=ha;have HB:=hb;obtain⟨pa,ca,rfl,_,_⟩:=ha;obtain⟨pv,cb,rfl,_,_⟩:=hb;have bM:Below w.heap.size w (w.alloc (.cells #[J pa a.length ca,J pv b.length cb] 37)):=(Ib _ _).alloc (Ic _) _;have Gd:Hid (Sl _ _ _):=HA.below bM;have Ge:Hid (Sl _ _ _):=HB.below bM;clear HA HB;generalize a.length=na at *;generalize b.length=nb at *;go_enter Tryz.func65,Tryz.ntmps65;go_wp2_with fail;refine(jR a b (J pa na ca) (J pv nb cb) w.heap.size 2 _ Gd.out Ge.out (by simp) (ae (Ih w _) 0) (ae (Ih w _) 1)).mono ?_;rintro e w2 ⟨v',rfl,h1,h2,h3⟩;have H2:Hid _:=h2;have H3:Hid _:=h3;clear h2 h3;go_wp2_with fail;go_ret2;exact⟨v',rfl,bM.trans (h1.mono (by simp)),H2.out,λh=>(H3.out h).mono (by simp)⟩
theorem oq{a b:List bK}(h:bj a≠0):aE a b=bj a:=by
 have:aO a b=bj a:=if_neg h
 rw[aE,this,if_neg h]
theorem lH{a b:List bK}(h:bj a=0)(h2:bj b≠0):aE a b=bj b:=by
 have:aO a b=bj b:=if_pos h
 rw[aE,this,if_neg h2]
theorem ik{a b:List bK}(h:bj a=0)(h2:bj b=0):aE a b=if 6<(av a b).length then 2 else 0:=by
 have:aO a b=0:=(if_pos h).trans h2
 rw[aE,if_pos this]
section
open Go.ChangeShapes Go.WideShapes Go.ChangeAt
variable {H:Type} {enc:TypeId × Value→H} {w:World} {base:Nat} {spare:Nat→Bool} {held:Bool}
end
end Gw
namespace Sv
open Go.RowKit
theorem jR(a b:List aT)(va vb:Value)(pb cap:Nat)(w:World)(ha:Sl w va a)(hb:Sl w vb b)(hpb:pb<w.heap.size)(hc0:w.cell? ⟨pb,0,be⟩=AI va)(hc1:w.cell? ⟨pb,1,be⟩=AI vb) :
 Calls AS 109 #[J (AI ⟨pb,0,be⟩) 2 cap] w λe w'=>∃v',e=By (Ik #[v',U O (aE a b)])/\Below w.heap.size w w' /\
  (aE a b≠0->v'=J be 0 0)/\(aE a b=0->Own w.heap.size w' v' (av a b)):=by
 by_cases h0:aO a b=0
 .refine(kR a b va vb pb cap w ha hb hpb hc0 hc1 h0).mono ?_
  rintro e w' ⟨v',rfl,h1,h2,h3⟩;have hE:aE a b=if 40<(av a b).length then 2 else 0:=if_pos h0;refine⟨v',rfl,h1,λaM=>h2 ?_,λhz=>h3 ?_⟩
  .rw[hE] at aM;split at aM
   .assumption
   .exact absurd rfl aM
  .rw[hE] at hz;split at hz
   .cases hz
   .omega
 .refine(mL a b va vb pb cap w ha hb hpb hc0 hc1 h0).mono ?_
  rintro e w' ⟨rfl,h1⟩;have hE:aE a b=aO a b:=if_neg h0;exact⟨_,rfl,h1,λ_=>rfl,λhz=>absurd (hE▸hz) h0⟩
theorem qB(a b:List aT)(va vb:Value)(w:World)(ha:Sl w va a)(hb:Sl w vb b) :
 Calls AS 64 #[va,vb] w λe w'=>∃v',e=By (Ik #[v',U O (aE a b)])/\Below w.heap.size w w' /\
  (aE a b≠0->v'=J be 0 0)/\(aE a b=0->Own w.heap.size w' v' (av a b)):=by
 have HA:=ha;have HB:=hb;obtain⟨pa,ca,rfl,_,_⟩:=ha;obtain⟨pv,cb,rfl,_,_⟩:=hb;have bM:Below w.heap.size w (w.alloc (.cells #[J pa a.length ca,J pv b.length cb] 36)):=(Ib _ _).alloc (Ic _) _;have Gd:Hid (Sl _ _ _):=HA.below bM;have Ge:Hid (Sl _ _ _):=HB.below bM;clear HA HB;generalize a.length=na at *;generalize b.length=nb at *;go_enter Tryz.func64,Tryz.ntmps64;go_wp2_with fail;refine(jR a b (J pa na ca) (J pv nb cb) w.heap.size 2 _ Gd.out Ge.out (by simp) (ae (Ih w _) 0) (ae (Ih w _) 1)).mono ?_;rintro e w2 ⟨v',rfl,h1,h2,h3⟩;have H2:Hid _:=h2;have H3:Hid _:=h3;clear h2 h3;go_wp2_with fail;go_ret2;exact⟨v',rfl,bM.trans (h1.mono (by simp)),H2.out,λh=>(H3.out h).mono (by simp)⟩
theorem oq{a b:List aT}(h:bj a≠0):aE a b=bj a:=by
 have:aO a b=bj a:=if_neg h
 rw[aE,this,if_neg h]
theorem lH{a b:List aT}(h:bj a=0)(h2:bj b≠0):aE a b=bj b:=by
 have:aO a b=bj b:=if_pos h
 rw[aE,this,if_neg h2]
theorem ik{a b:List aT}(h:bj a=0)(h2:bj b=0):aE a b=if 40<(av a b).length then 2 else 0:=by
 have:aO a b=0:=(if_pos h).trans h2
 rw[aE,if_pos this]
def mg(x y:aT):Bool:=x.node.toList==y.node.toList&&(x.bu.toList==y.bu.toList&&(x.name.toList==y.name.toList&&(x.tag.toList==y.tag.toList&&(x.addr==y.addr&&(x.port==y.port&&(x.aj==y.aj&&(x.version==y.version&&(x.gone==y.gone))))))))
theorem nv(x y:aT):mg x y=true↔x=y:=by
 obtain⟨x_node,x_idn,x_name,x_tag,x_addr,x_port,x_passing,x_version,x_gone⟩:=x;obtain⟨y_node,y_idn,y_name,y_tag,y_addr,y_port,y_passing,y_version,y_gone⟩:=y;simp only[mg,Bool.and_eq_true,beq_iff_eq,aT.mk.injEq,Lib.toList_data];constructor
 .rintro⟨h0,h1,h2,h3,h4,h5,h6,h7,h8⟩;exact⟨ky h0,ky h1,ky h2,ky h3,h4,h5,h6,h7,h8⟩
 .rintro⟨h0,h1,h2,h3,h4,h5,h6,h7,h8⟩;exact⟨by rw[h0],by rw[h1],by rw[h2],by rw[h3],h4,h5,h6,h7,h8⟩
theorem VD(m1 m2:aT)(w:World):(Op.equalIn 10000 46 (Ij #[Y m1.node,Y m1.bu,Y m1.name,Y m1.tag,U O m1.addr,U O m1.port,Ia m1.aj,U O m1.version,Ia m1.gone]) (Ij #[Y m2.node,Y m2.bu,Y m2.name,Y m2.tag,U O m2.addr,U O m2.port,Ia m2.aj,U O m2.version,Ia m2.gone])).run AS w=.ok (mg m1 m2) w:=by
 have u3:=Tryz.underlying3;have u9:=Tryz.underlying9;have a3:=Tryz.isAgg3;have z3:=Tryz.sizeOf3;have a9:=Tryz.isAgg9;have z9:=Tryz.sizeOf9;have u4:=Tryz.underlying4;have a4:=Tryz.isAgg4;have z4:=Tryz.sizeOf4;have hS:Tryz.prog.underlying 46=AI (.struct (Tryz.prog.fieldsOf 46)):=by kernel_rfl
 have hp:Tryz.prog.stoodInHeld 46=false:=by kernel_rfl
 rw[show(10000:Nat)=9999+1 from rfl,run_equalIn_agg w 9999 46 _ _ hS hp];simp only[Program.fieldsOf,Tryz.underlying46];go_simp;unfold mg;by_cases h0:m1.node.toList=m2.node.toList
 case neg=>simp[h0]
 by_cases h1:m1.bu.toList=m2.bu.toList
 case neg=>simp[h0,h1]
 by_cases h2:m1.name.toList=m2.name.toList
 case neg=>simp[h0,h1,h2]
 by_cases h3:m1.tag.toList=m2.tag.toList
 case neg=>simp[h0,h1,h2,h3]
 by_cases h4:m1.addr=m2.addr
 case neg=>simp[h0,h1,h2,h3,h4]
 by_cases h5:m1.port=m2.port
 case neg=>simp[h0,h1,h2,h3,h4,h5]
 by_cases h6:m1.aj=m2.aj
 case neg=>simp[h0,h1,h2,h3,h4,h5,h6]
 by_cases h7:m1.version=m2.version
 case neg=>simp[h0,h1,h2,h3,h4,h5,h6,h7]
 by_cases h8:m1.gone=m2.gone
 case neg=>simp[h0,h1,h2,h3,h4,h5,h6,h7,h8]
 simp[h0,h1,h2,h3,h4,h5,h6,h7,h8]
theorem acK(m1 m2:aT)(w:World):Sem.run AS (binOp .neq 46 (Ij #[Y m1.node,Y m1.bu,Y m1.name,Y m1.tag,U O m1.addr,U O m1.port,Ia m1.aj,U O m1.version,Ia m1.gone]) (Ij #[Y m2.node,Y m2.bu,Y m2.name,Y m2.tag,U O m2.addr,U O m2.port,Ia m2.aj,U O m2.version,Ia m2.gone])) w=.ok (Ia (!mg m1 m2)) w:=by
 rw[run_neq_struct,VD];rfl
section
open Go.ChangeShapes Go.WideShapes Go.ChangeAt
variable {H:Type} {enc:TypeId × Value→H} {w:World} {base:Nat} {spare:Nat→Bool} {held:Bool}
end
end Sv
namespace Wh
open Go.RowKit
end Wh
end Go.Proofs.YtfidhgjmifendaaGreatDoor
namespace Go.Proofs.YtfidhgjmifendaaGreatDoor
open Go.RowKit
def RG(w:World)(p:Pk)(A:Array Value):Prop:=∃vm vs vg vw,A=#[Y p.cU,Ia p.whole,vm,vs,vg,vw]/\Sl w vm p.ms/\Sv.Sl w vs p.sv/\Gw.Sl w vg p.gw/\Wh.Sl w vw p.wh
theorem Tryz.RH:(Tryz.prog.info? 102).map (λi=>(i.zero,i.size,i.bytes))=AI (AI (Ij #[U O 0,Y ⟨#[]⟩]),2,24):=by kernel_rfl
def Gf:List Value:=[U O 0,Y ⟨#[]⟩]
theorem jS{g k:Nat}(hk:k≠g):∀(vs:List Value) (o:Nat) (w:World),(w.setCells g o vs).heap[k]?=w.heap[k]?
 |[],_,_=>rfl
 |v::r,o,w=>(jS hk r (o+1) _).trans (Below.heap_setCell w ⟨g,o,be⟩ v k hk)
theorem wX{rs:List Lt.fb}{p n:Nat}(hn:rs.length=n)(hp:p<n):(Ay (Ay (Lt.fl rs) (p*2) (Lt.fl (rs.drop (p+1)))) ((n-1)*2) Gf).take ((n-1)*2)=Lt.fl (rs.eraseIdx p):=by
 have hl:(Lt.fl rs).length=n*2:=by rw[Lt.cP,hn]
 have hd:(Lt.fl (rs.drop (p+1))).length=(n-(p+1))*2:=by rw[Lt.cP,JN,hn]
 refine oo (by rw[ju,ju,hl];omega) (by rw[Lt.cP,Qd,if_pos (by omega),hn]) (λj hj=>?_);rw[ki _ _ _ _ (by omega),List.eraseIdx_eq_take_drop_succ,Lt.cG];have ht:(Lt.fl (rs.take p)).length=p*2:=by rw[Lt.cP,IA,hn];omega
 by_cases hjp:j<p*2
 .rw[ki _ _ _ _ (by omega),Js (by omega),<- Lt.eY,IL hjp]
 .rw[Jr (by omega),ht]
  have:=wU (Lt.fl (rs.drop (p+1))) (Lt.fl rs) (p*2) (j-p*2) (by rw[hd];omega) (by rw[hd,hl];omega);rw[show p*2+(j-p*2)=j by omega] at this;exact this
theorem A8(w:World)(ty:I4)(b o c:Nat)(hc:∀j,j<2->(w.cell? ⟨b,o+j,be⟩).isSome=true)(hf:∀j,j<2->w.frozen? ⟨b,o+j,be⟩=false) : (Ov #[25] ty #[J (AI ⟨b,o,be⟩) 1 c]).run AS w=.ok (Ik #[]) (w.setCells b o Gf):=by
 have Vz:(Qb (Value.agg #[U O 0,Y ⟨#[]⟩]).cells 1).toList=Gf:=by kernel_rfl
 have oM:=run_storeCells_cells (P:=AS) b o Gf 0 w (λj hj=>by simpa using hc j (by simpa[Gf] using hj)) (λj hj=>by simpa using hf j (by simpa[Gf] using hj)) (by intro v hv;simp[Gf] at hv;rcases hv with rfl|rfl<;>rfl);simp only[Nat.add_zero] at oM;simp[Ov,QF Qa,Vz,oM]
theorem ze(rs:List Lt.fb)(n p g c base:Nat)(w:World)(hn:rs.length=n)(ho:Lt.Own base w (J (AI ⟨g,0,be⟩) n c) rs)(hp:p<n)(yZ:n<=1000) :
 Calls AS 142 #[J (AI ⟨g,0,be⟩) n c,U O p,U O (p+1)] w λe w'=>e=By (J (AI ⟨g,0,be⟩) (n-1) c)/\Lt.Own base w' (J (AI ⟨g,0,be⟩) (n-1) c) (rs.eraseIdx p)/\Below base w w'/\∀k,k≠g->w'.heap[k]?=w.heap[k]?:=by
 obtain⟨i0,fL,dh,cZ,nF⟩:=I6 Tryz.RH;have HO:Hid (w.ownsRow base 102 2 (J (AI ⟨g,0,be⟩) n c) n (Lt.fl rs)):=by rw[<- hn];rw[<- hn] at ho;exact ho
 obtain⟨dn,fG,dO⟩:base<=g/\n<=c/\c<=Il:=by
  rcases HO.out.2 with⟨hv,_⟩|⟨g',c',cur,hv,ev,hg,fG,dO,b9,bf⟩
  .cases hv
  .simp only[I1,It,JL,and_true,true_and] at hv
   obtain⟨rfl,rfl⟩:=hv;exact⟨ev,fG,dO⟩
 unfold Il at dO;have RA:(0:Int)<=(p:Int)+1:=by omega
 have uP:(p:Int)+1<=(n:Int):=by omega
 have vG:((p:Int)+1).toNat=p+1:=by omega
 have hic:p<=c:=by omega
 have fM:∀k,k<n*2->w.cell? ⟨g,k,be⟩=(Lt.fl rs)[k]?:=λk hk=>by
  rcases HO.out.2 with⟨hv,_⟩|⟨g',c',cur,hv,ev,hg,_,_,b9,bf⟩
  .cases hv
  .simp only[I1,It,JL,and_true,true_and] at hv
   obtain⟨rfl,rfl⟩:=hv;rw[ae hg,<- bf,IL hk,Array.getElem?_toList]
 have GV:(Lt.fl rs).length=n*2:=by rw[Lt.cP,hn]
 have S1:Hid ((Lt.fl (rs.drop (p+1))).length=(n-(p+1))*2):=(show(Lt.fl (rs.drop (p+1))).length=_ by rw[Lt.cP,JN,hn]);obtain⟨A,hA,hnews⟩:∃A:Addr,(if c=p+1 then AI (⟨g,0,be⟩:Addr) else AI ⟨g,(p+1)*2,be⟩)=AI A/\Hid (∀j u,(Lt.fl (rs.drop (p+1)))[j]?=AI u->w.drew.cell? (A.add j)=AI u):=by
  by_cases h:c=p+1
  .refine⟨_,if_pos h,λj u hj=>?_⟩
   have:j<(Lt.fl (rs.drop (p+1))).length:=(Jm.1 hj).1
   rw[S1.out] at this;omega
  .refine⟨_,if_neg h,λj u hj=>?_⟩
   have hj1:=(Jm.1 hj).1;rw[S1.out] at hj1;rw[Addr.add_lit];show w.cell? _=_;rw[fM _ (by omega),<- hj,<- Lt.eZ,Uc]
 have S2:Hid (∀u∈Lt.fl (rs.drop (p+1)),u.oneCell'=true):=Lt.gJ _;have S3:Hid (∀j,j<(Lt.fl (rs.drop (p+1))).length->(w.drew.cell? ⟨g,0+p*2+j,be⟩).isSome=true/\w.drew.frozen? ⟨g,0+p*2+j,be⟩=false):=λj hj=>by
  rw[S1.out] at hj;refine⟨?_,I7 HO.out _⟩;show(w.cell? _).isSome=true;rw[fM _ (by omega),If (by omega)];rfl
 have HD:Hid ((w.drew.setCells g (p*2) (Lt.fl (rs.drop (p+1)))).ownsRow base 102 2 (J (AI ⟨g,0,be⟩) n c) n (Ay (Lt.fl rs) (p*2) (Lt.fl (rs.drop (p+1))))):=fV _ _ _ _ (show w.drew.ownsRow base 102 2 (J (AI ⟨g,0,be⟩) n c) n (Lt.fl rs) from HO.out);have GW:∀ty,(Ov #[25] ty #[J (AI ⟨g,(p+(n-(p+1)))*2,be⟩) (n-(p+(n-(p+1)))) (c-(p+(n-(p+1))))]).run AS (w.drew.setCells g (p*2) (Lt.fl (rs.drop (p+1))))=.ok (Ik #[]) ((w.drew.setCells g (p*2) (Lt.fl (rs.drop (p+1)))).setCells g ((n-1)*2) Gf):=λty=>by
  rw[show p+(n-(p+1))=n-1 by omega,show n-(n-1)=1 by omega];exact A8 _ ty g _ _ (λj hj=>by rw[Oz HD.out _ (by omega),If (by rw[ju,GV];omega)];rfl) (λj _=>I7 HD.out _)
 have HF:Hid (((w.drew.setCells g (p*2) (Lt.fl (rs.drop (p+1)))).setCells g ((n-1)*2) Gf).ownsRow base 102 2 (J (AI ⟨g,0,be⟩) (n-1) c) (n-1) (Lt.fl (rs.eraseIdx p))):=by
  have h:=mI (m:=n-1) (fV Gf _ ((n-1)*2) _ HD.out) (by omega);rw[wX hn hp] at h;exact h
 have HL:Hid ((rs.eraseIdx p).length=n-1):=(show(rs.eraseIdx p).length=n-1 by rw[Qd,if_pos (by omega),hn]);have HBL:Hid (Below base w ((w.drew.setCells g (p*2) (Lt.fl (rs.drop (p+1)))).setCells g ((n-1)*2) Gf)):=dV dn _ _ _ _ (dV dn _ _ _ _ (Ib _ _).drew);have HOT:Hid (∀k,k≠g->((w.drew.setCells g (p*2) (Lt.fl (rs.drop (p+1)))).setCells g ((n-1)*2) Gf).heap[k]?=w.heap[k]?):=λk hk=>(jS hk _ _ _).trans (jS hk _ _ _);have A6:Hid (p+(n-(p+1))=n-1):=(show p+(n-(p+1))=n-1 by omega);clear ho fM;go_enter Tryz.func142,Tryz.ntmps142;go_wp2_with fail;go_region_law (refine step_append_room rfl (.tmp 22) (.tmp 25) 25 rfl 102 i0 2 Qa fL cZ g 0 p c (by simp[M2,Oo]) A (n-(p+1)) (c-(p+1)) (Lt.fl (rs.drop (p+1))) (by simp[M2,Oo]) S1.out hnews.out S2.out (by omega) S3.out ?_)
 go_wp2_with fail;go_ret;refine⟨?_,?_,HBL.out,HOT.out⟩
 .have wV:=A6.out
  simp only[wV];rfl
 .show World.ownsRow _ _ _ _ _ (rs.eraseIdx p).length _
  rw[HL.out];exact HF.out
end Go.Proofs.YtfidhgjmifendaaGreatDoor
namespace Go.Proofs.YtfidhgjmifendaaGreatDoor
namespace Sv
open Go.RowKit
def et(ms:List aT)(p:Nat)(f:Bool):aT:=if f=true then ms.getD p dm else dm
theorem nx(ms:List aT)(v:Value)(node bu:ByteArray)(w:World)(h:Sl w v ms)(hn:ms.length<=40)(hr:bn ms) :
 aF 239 #[v,Y node,Y bu] w λe w'=>∃(p:Nat) (f:Bool),e=By (Ik #[Ij #[Y (et ms p f).node,Y (et ms p f).bu,Y (et ms p f).name,Y (et ms p f).tag,U O (et ms p f).addr,U O (et ms p f).port,Ia (et ms p f).aj,U O (et ms p f).version,Ia (et ms p f).gone],Ia f])/\Below w.heap.size w w'/\At ms ⟨node,bu,⟨#[]⟩,⟨#[]⟩,0,0,false,0,false⟩ p f:=by
 obtain⟨W0,bJ,bM,eE,dG⟩:=bW w #[Y ⟨#[]⟩,Y ⟨#[]⟩,Y ⟨#[]⟩,Y ⟨#[]⟩,U O 0,U O 0,Ia false,U O 0,Ia false] 46;have HV:Hid (Sl W0 v ms):=h.below bM;have HF:Hid (aF 213 #[v,Ij #[Y node,Y bu,Y ⟨#[]⟩,Y ⟨#[]⟩,U O 0,U O 0,Ia false,U O 0,Ia false],.func (.func 157) #[] #[]] W0 λe w'=>∃(p:Nat) (f:Bool),e=By (Ik #[U O p,Ia f])/\Below W0.heap.size W0 w'/\At ms ⟨node,bu,⟨#[]⟩,⟨#[]⟩,0,0,false,0,false⟩ p f):=
  ff ms v ⟨node,bu,⟨#[]⟩,⟨#[]⟩,0,0,false,0,false⟩ W0 HV.out (by omega) hr
 have sJ:Hid _:=bJ;clear bJ h hr;go_enter Tryz.func239,Tryz.ntmps239;go_wp2_with fail;rw[<- sJ.out];refine HF.out.mono ?_;rintro e w1 ⟨p,f,rfl,aB,cv⟩;have fS:Hid _:=cv;have VE:Hid (Sl w1 v ms):=HV.out.below aB;have fg:=aB.size;have aV:Hid _:=bM.trans (aB.mono (by omega));have cK:=(aB.block w.heap.size (by omega)).trans dG;have t0:w1.cell? ⟨w.heap.size,0,be⟩=AI (Y ⟨#[]⟩):=ae cK 0;have t1:w1.cell? ⟨w.heap.size,1,be⟩=AI (Y ⟨#[]⟩):=ae cK 1;have t2:w1.cell? ⟨w.heap.size,2,be⟩=AI (Y ⟨#[]⟩):=ae cK 2;have t3:w1.cell? ⟨w.heap.size,3,be⟩=AI (Y ⟨#[]⟩):=ae cK 3;have t4:w1.cell? ⟨w.heap.size,4,be⟩=AI (U O 0):=ae cK 4;have t5:w1.cell? ⟨w.heap.size,5,be⟩=AI (U O 0):=ae cK 5;have t6:w1.cell? ⟨w.heap.size,6,be⟩=AI (Ia false):=ae cK 6;have t7:w1.cell? ⟨w.heap.size,7,be⟩=AI (U O 0):=ae cK 7;have t8:w1.cell? ⟨w.heap.size,8,be⟩=AI (Ia false):=ae cK 8;have rf:∀o,w1.frozen? ⟨w.heap.size,o,be⟩=false:=λo=>by simp[World.frozen?,cK]
 have aW:w.heap.size<w1.heap.size:=by omega
 clear cv HF HV dG cK bM aB sJ eE fg;cases f
 .go_wp2_with fail
  exact IK (v:=Ik #[Ij #[Y ⟨#[]⟩,Y ⟨#[]⟩,Y ⟨#[]⟩,Y ⟨#[]⟩,U O 0,U O 0,Ia false,U O 0,Ia false],Ia false]) (by simp[results,Tryz.results239,go_sem,t0,t1,t2,t3,t4,t5,t6,t7,t8]) rfl ⟨p,false,rfl,(((((((((aV.out.setCell (p:=⟨w.heap.size,0,be⟩) (Ic _) _).setCell (p:=⟨w.heap.size,1,be⟩) (Ic _) _).setCell (p:=⟨w.heap.size,2,be⟩) (Ic _) _).setCell (p:=⟨w.heap.size,3,be⟩) (Ic _) _).setCell (p:=⟨w.heap.size,4,be⟩) (Ic _) _).setCell (p:=⟨w.heap.size,5,be⟩) (Ic _) _).setCell (p:=⟨w.heap.size,6,be⟩) (Ic _) _).setCell (p:=⟨w.heap.size,7,be⟩) (Ic _) _).setCell (p:=⟨w.heap.size,8,be⟩) (Ic _) _),fS.out⟩
 .have hp:=(fS.out.is.1 rfl).1
  obtain⟨a,cap,rfl,_,VF⟩:=VE.out;obtain⟨b,off,DX,AW,cQ⟩:∃b off,a=AI ⟨b,off,be⟩/\b<w1.heap.size/\Row w1 b off ms:=by
   rcases VF with h|h
   .rw[h] at hp;simp at hp
   .exact h
  subst DX;obtain⟨c0,c1,c2,c3,c4,c5,c6,c7,c8⟩:=cQ p hp;clear cQ VF VE;generalize hm:ms.getD p dm=m at *;have HM:Hid (et ms p true=m):=by show et ms p true=m;rw[et,if_pos rfl,hm]
  clear hm;go_wp2_with fail;exact IK (v:=Ik #[Ij #[Y m.node,Y m.bu,Y m.name,Y m.tag,U O m.addr,U O m.port,Ia m.aj,U O m.version,Ia m.gone],Ia true]) (by simp[results,Tryz.results239,go_sem,t0,t1,t2,t3,t4,t5,t6,t7,t8]) rfl ⟨p,true,by rw[HM.out],(((((((((aV.out.setCell (p:=⟨w.heap.size,0,be⟩) (Ic _) _).setCell (p:=⟨w.heap.size,1,be⟩) (Ic _) _).setCell (p:=⟨w.heap.size,2,be⟩) (Ic _) _).setCell (p:=⟨w.heap.size,3,be⟩) (Ic _) _).setCell (p:=⟨w.heap.size,4,be⟩) (Ic _) _).setCell (p:=⟨w.heap.size,5,be⟩) (Ic _) _).setCell (p:=⟨w.heap.size,6,be⟩) (Ic _) _).setCell (p:=⟨w.heap.size,7,be⟩) (Ic _) _).setCell (p:=⟨w.heap.size,8,be⟩) (Ic _) _),fS.out⟩
end Sv
end Go.Proofs.YtfidhgjmifendaaGreatDoor
