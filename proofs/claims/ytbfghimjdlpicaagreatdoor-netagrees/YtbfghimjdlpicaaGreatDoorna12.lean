import Derived.Test.YtbfghimjdlpicaaGreatDoorna5
import Derived.Test.YtbfghimjdlpicaaGreatDoorna11
set_option maxHeartbeats 6400000
set_option maxRecDepth 1000000
open List renaming length_set→IS,length_cons→Iy,getElem?_set_ne→JY,getElem?_set_self→Oo,length_take→IE,getElem?_take_of_lt→IP,getElem?_eq_none→I3,length_drop→JU,length_eraseIdx→Qm,getElem?_eq_some_iff→Jt,getElem?_drop→Up,getElem?_eq_getElem→Ic,getD→Ir,take_succ_eq_append_getElem→IB,filter_append→Qy,append_nil→JO
open Go.Value renaming slice→J,string→Y,int→U,bool→Ia,tuple→Ip,agg→Ik,pointer→If
open Option renaming some→AI,none→be
open Go renaming TypeId→Ja,run_underlying→QQ,info_parts→I9,maxLen→Io,cell_regrown→Ih,redrawn→Im,wp_region_quiet_below→IA
open Go.World.ownsRow renaming stored→IM,frozenAt→Jc,cellAt→OH
open Go.Value.slice renaming injEq→I2
open Option.some renaming injEq→Iu
open Go.Addr.mk renaming injEq→JT
open Go.IntKind renaming i64→O
open Go.Builtin renaming clear_→OE,zeroCells→Qh
open Go.Proofs.Tryz renaming prog→AS,underlying46→Oj
open Go.Ending renaming returned→AT
open Go.RowKit.Below renaming refl→Ib
open Go.World renaming ownsRow→M2,block_lt_of_cell?→Iw
open Nat renaming le_refl→Ie,zero_add→ID
open Go.Sort renaming grow→Ig
namespace Go.Proofs.YtbfghimjdlpicaaGreatDoor
open Go.RowKit
def Cl:List Value->Nat->List Value->List Value
 |xs,_,[]=>xs
 |xs,o,v::r=>Cl (xs.set o v) (o+1) r
theorem ko:∀(vs xs:List Value) (o:Nat),(Cl xs o vs).length=xs.length
 |[],_,_=>rfl
 |v::r,xs,o=>by rw[Cl,ko r,IS]
theorem lF:∀(vs xs:List Value) (o k:Nat),k<o\/o+vs.length<=k->(Cl xs o vs)[k]?=xs[k]?
 |[],_,_,_,_=>rfl
 |v::r,xs,o,k,h=>by
  simp only[Iy] at h;rw[Cl,lF r _ _ k (by omega),JY (by omega)]
theorem yT:∀(vs xs:List Value) (o j:Nat),j<vs.length->o+vs.length<=xs.length->(Cl xs o vs)[o+j]?=vs[j]?
 |[],_,_,_,h,_=>by simp at h
 |v::r,xs,o,0,_,h2=>by
  simp only[Iy] at h2;rw[Cl,lF r _ _ _ (by omega)];simp[Oo (show o<xs.length by omega)]
 |v::r,xs,o,j+1,h,h2=>by
  simp only[Iy] at h h2;rw[Cl,show o+(j+1)=(o+1)+j by omega,yT r _ _ j (by omega) (by rw[IS];omega)];simp
theorem hJ{base g n cap:Nat}{e:Ja}{size:Nat}:∀(vs xs:List Value) (o:Nat) (w:World),w.ownsRow base e size (J (AI ⟨g,0,be⟩) n cap) n xs->(w.setCells g o vs).ownsRow base e size (J (AI ⟨g,0,be⟩) n cap) n (Cl xs o vs)
 |[],_,_,_,h=>h
 |v::r,_,o,_,h=>hJ r _ _ _ (IM h o v).1
theorem eA{base g:Nat}(hg:base<=g):∀(vs:List Value) (o:Nat) (w0 w:World),Below base w0 w->Below base w0 (w.setCells g o vs)
 |[],_,_,_,h=>h
 |v::r,o,w0,_,h=>eA hg r _ w0 _ (h.setCell (p:=⟨g,o,be⟩) hg v)
theorem oh{w:World}{base g n m cap:Nat}{e:Ja}{size:Nat}{xs:List Value}(h:w.ownsRow base e size (J (AI ⟨g,0,be⟩) n cap) n xs)(hm:m<=n):w.ownsRow base e size (J (AI ⟨g,0,be⟩) m cap) m (xs.take (m*size)):=by
 obtain⟨h1,h2⟩:=h;have hle:m*size<=n*size:=Nat.mul_le_mul_right _ hm;refine⟨by rw[IE,h1];omega,?_⟩;rcases h2 with⟨hv,_⟩|⟨g',c',cur,hv,eX,hg,gK,et,cE,bo⟩
 .cases hv
 .simp only[I2,Iu,JT,and_true,true_and] at hv
  obtain⟨rfl,rfl⟩:=hv;refine .inr ⟨g,cap,cur,rfl,eX,hg,by omega,et,cE,?_⟩;rw[<- bo,List.take_take,Nat.min_eq_left hle]
def zR:List Value:=[Y ⟨#[]⟩,U O 0,U O 0,U O 0,Ia false,U O 0]
theorem qi{xs ys:List Value}{k:Nat}(hl:k<=xs.length)(hy:ys.length=k)(h:∀j,j<k->xs[j]?=ys[j]?):xs.take k=ys:=by
 apply List.ext_getElem?;intro j;by_cases hj:j<k
 .rw[IP hj,h j hj]
 .rw[I3 (by rw[IE];omega),I3 (by omega)]
theorem AZ{rs:List bU}{p n:Nat}(hn:rs.length=n)(hp:p<n):(Cl (Cl (fD rs) (p*6) (fD (rs.drop (p+1)))) ((n-1)*6) zR).take ((n-1)*6)=fD (rs.eraseIdx p):=by
 have hl:(fD rs).length=n*6:=by rw[eD,hn]
 have hd:(fD (rs.drop (p+1))).length=(n-(p+1))*6:=by rw[eD,JU,hn]
 refine qi (by rw[ko,ko,hl];omega) (by rw[eD,Qm,if_pos (by omega),hn]) (λj hj=>?_);rw[lF _ _ _ _ (by omega),List.eraseIdx_eq_take_drop_succ,uL];have ht:(fD (rs.take p)).length=p*6:=by rw[eD,IE,hn];omega
 by_cases hjp:j<p*6
 .rw[lF _ _ _ _ (by omega),List.getElem?_append_left (by omega),<- uM,IP hjp]
 .rw[List.getElem?_append_right (by omega),ht]
  have:=yT (fD (rs.drop (p+1))) (fD rs) (p*6) (j-p*6) (by rw[hd];omega) (by rw[hd,hl];omega);rw[show p*6+(j-p*6)=j by omega] at this;exact this
theorem wZ(w:World)(ty:Ja)(b o c:Nat)(hc:∀j,j<6->(w.cell? ⟨b,o+j,be⟩).isSome=true)(hf:∀j,j<6->w.frozen? ⟨b,o+j,be⟩=false) : (OE #[46] ty #[J (AI ⟨b,o,be⟩) 1 c]).run AS w=.ok (Ip #[]) (w.setCells b o zR):=by
 have hzc:(Qh (Value.agg #[Y ⟨#[]⟩,U O 0,U O 0,U O 0,Ia false,U O 0]).cells 1).toList=zR:=by kernel_rfl
 have pK:=run_storeCells_cells (P:=AS) b o zR 0 w (λj hj=>by simpa using hc j (by simpa[zR] using hj)) (λj hj=>by simpa using hf j (by simpa[zR] using hj)) (by intro v hv;simp[zR] at hv;rcases hv with rfl|rfl|rfl|rfl<;>rfl);simp only[Nat.add_zero] at pK;simp[OE,QQ Oj,hzc,pK]
theorem CH(rs:List bU)(n p g c base:Nat)(w:World)(hn:rs.length=n)(ho:cV base w (J (AI ⟨g,0,be⟩) n c) rs)(hp:p<n)(xM:n<=1000) :
 Calls AS 195 #[J (AI ⟨g,0,be⟩) n c,U O p,U O (p+1)] w λe w'=>e=AT (J (AI ⟨g,0,be⟩) (n-1) c)/\cV base w' (J (AI ⟨g,0,be⟩) (n-1) c) (rs.eraseIdx p)/\Below base w w':=by
 obtain⟨i0,fH,dt,dD,pA⟩:=I9 Tryz.xN;have HO:Hid (w.ownsRow base 111 6 (J (AI ⟨g,0,be⟩) n c) n (fD rs)):=by rw[<- hn];rw[<- hn] at ho;exact ho
 obtain⟨dv,gK,et⟩:base<=g/\n<=c/\c<=Io:=by
  rcases HO.out.2 with⟨hv,_⟩|⟨g',c',cur,hv,eX,hg,gK,et,cE,bo⟩
  .cases hv
  .simp only[I2,Iu,JT,and_true,true_and] at hv
   obtain⟨rfl,rfl⟩:=hv;exact⟨eX,gK,et⟩
 unfold Io at et;have V6:(0:Int)<=(p:Int)+1:=by omega
 have ru:(p:Int)+1<=(n:Int):=by omega
 have qW:((p:Int)+1).toNat=p+1:=by omega
 have hic:p<=c:=by omega
 have gO:∀k,k<n*6->w.cell? ⟨g,k,be⟩=(fD rs)[k]?:=λk hk=>by
  rcases HO.out.2 with⟨hv,_⟩|⟨g',c',cur,hv,eX,hg,_,_,cE,bo⟩
  .cases hv
  .simp only[I2,Iu,JT,and_true,true_and] at hv
   obtain⟨rfl,rfl⟩:=hv;rw[ae hg,<- bo,IP hk,Array.getElem?_toList]
 have Mm:(fD rs).length=n*6:=by rw[eD,hn]
 have S1:Hid ((fD (rs.drop (p+1))).length=(n-(p+1))*6):=(show(fD (rs.drop (p+1))).length=_ by rw[eD,JU,hn]);obtain⟨A,hA,hnews⟩:∃A:Addr,(if c=p+1 then AI (⟨g,0,be⟩:Addr) else AI ⟨g,(p+1)*6,be⟩)=AI A/\Hid (∀j u,(fD (rs.drop (p+1)))[j]?=AI u->w.drew.cell? (A.add j)=AI u):=by
  by_cases h:c=p+1
  .refine⟨_,if_pos h,λj u hj=>?_⟩
   have:j<(fD (rs.drop (p+1))).length:=(Jt.1 hj).1
   rw[S1.out] at this;omega
  .refine⟨_,if_neg h,λj u hj=>?_⟩
   have hj1:=(Jt.1 hj).1;rw[S1.out] at hj1;rw[Addr.add_lit];show w.cell? _=_;rw[gO _ (by omega),<- hj,<- A3,Up]
 have S2:Hid (∀u∈fD (rs.drop (p+1)),u.oneCell'=true):=EO _;have S3:Hid (∀j,j<(fD (rs.drop (p+1))).length->(w.drew.cell? ⟨g,0+p*6+j,be⟩).isSome=true/\w.drew.frozen? ⟨g,0+p*6+j,be⟩=false):=λj hj=>by
  rw[S1.out] at hj;refine⟨?_,Jc HO.out _⟩;show(w.cell? _).isSome=true;rw[gO _ (by omega),Ic (by omega)];rfl
 have HD:Hid ((w.drew.setCells g (p*6) (fD (rs.drop (p+1)))).ownsRow base 111 6 (J (AI ⟨g,0,be⟩) n c) n (Cl (fD rs) (p*6) (fD (rs.drop (p+1))))):=hJ _ _ _ _ (show w.drew.ownsRow base 111 6 (J (AI ⟨g,0,be⟩) n c) n (fD rs) from HO.out);have Mn:∀ty,(OE #[46] ty #[J (AI ⟨g,(p+(n-(p+1)))*6,be⟩) (n-(p+(n-(p+1)))) (c-(p+(n-(p+1))))]).run AS (w.drew.setCells g (p*6) (fD (rs.drop (p+1))))=.ok (Ip #[]) ((w.drew.setCells g (p*6) (fD (rs.drop (p+1)))).setCells g ((n-1)*6) zR):=λty=>by
  rw[show p+(n-(p+1))=n-1 by omega,show n-(n-1)=1 by omega];exact wZ _ ty g _ _ (λj hj=>by rw[OH HD.out _ (by omega),Ic (by rw[ko,Mm];omega)];rfl) (λj _=>Jc HD.out _)
 have HF:Hid (((w.drew.setCells g (p*6) (fD (rs.drop (p+1)))).setCells g ((n-1)*6) zR).ownsRow base 111 6 (J (AI ⟨g,0,be⟩) (n-1) c) (n-1) (fD (rs.eraseIdx p))):=by
  have h:=oh (m:=n-1) (hJ zR _ ((n-1)*6) _ HD.out) (by omega);rw[AZ hn hp] at h;exact h
 have HL:Hid ((rs.eraseIdx p).length=n-1):=(show(rs.eraseIdx p).length=n-1 by rw[Qm,if_pos (by omega),hn]);have HBL:Hid (Below base w ((w.drew.setCells g (p*6) (fD (rs.drop (p+1)))).setCells g ((n-1)*6) zR)):=eA dv _ _ _ _ (eA dv _ _ _ _ (Ib _ _).drew);have CI:Hid (p+(n-(p+1))=n-1):=(show p+(n-(p+1))=n-1 by omega);clear ho gO;go_enter Tryz.func195,Tryz.ntmps195;go_wp2_with fail;go_region_law (refine step_append_room rfl (.tmp 22) (.tmp 25) 46 rfl 111 i0 6 Oj fH dD g 0 p c (by simp[Act.eval,Act.put]) A (n-(p+1)) (c-(p+1)) (fD (rs.drop (p+1))) (by simp[Act.eval,Act.put]) S1.out hnews.out S2.out (by omega) S3.out ?_)
 go_wp2_with fail;go_ret;refine⟨?_,?_,HBL.out⟩
 .have xa:=CI.out
  simp only[xa];rfl
 .show M2 _ _ _ _ _ (rs.eraseIdx p).length _
  rw[HL.out];exact HF.out
end Go.Proofs.YtbfghimjdlpicaaGreatDoor
namespace Go.Proofs.YtbfghimjdlpicaaGreatDoor
open Go.RowKit Go.WideMaps Go.Maps
theorem fI{rs:List bU}(h:eB rs=0):rs.length<=20/\(∀j,j<rs.length->(rs.getD j dr).m.e=0)/\iM rs/\dY rs:=by
 unfold eB at h;by_cases h1:20<rs.length
 .rw[if_pos h1] at h;omega
 rw[if_neg h1] at h;by_cases h2:ba (iv rs)=0
 .rw[if_pos h2] at h
  by_cases h3:iM rs
  .rw[if_pos h3] at h
   by_cases h4:dY rs
   .refine⟨by omega,λj hj=>?_,h3,h4⟩
    have:=uN h2 j (by rw[kB];exact hj)
    rwa [mf] at this
   .rw[if_neg h4] at h;omega
  .rw[if_neg h3] at h;omega
 .rw[if_neg h2] at h;exact absurd h h2
theorem xO{a b:Mem}(ha:a.e=0)(hb:b.e=0)(hn:a.name=b.name):bF a b=0:=by
 have h:aY [a] [b]=0:=by rw[aY,kN,kN];simp[ha,hb]
 rw[bF,if_pos h,if_pos hn]
theorem Mo(rs:List bU)(v:Value)(m:Mem)(w:World)(hv:oj w v rs)(hm:m.name.size<=Io)(h0:eB rs=0)(he:m.e=0)(EP:ER rs m.name)(hl:rs.length=20) :
 Calls AS 154 #[v,Ik #[Y m.name,U O m.state,U O m.aI,U O m.addr,Ia m.server]] w λe w'=>e=AT (Ip #[J be 0 0,U O 2])/\Below w.heap.size w w':=by
 obtain⟨i0,fH,dt,gJ,gB⟩:=I9 Tryz.xN;have HV:Hid (oj w v rs):=hv;have kQ:=λ(w:World) (h:oj w v rs)=>hU rs v w h;rw[h0] at kQ;have et:=λw=>fE m w hm;rw[he] at et;have HH:Hid _:=ET EP;clear h0 he hv;obtain⟨nm,st,lf,ad,sv⟩:=m;simp only at *;have tK:Below w.heap.size w (w.alloc (.cells #[Y nm,U O st,U O lf,U O ad,Ia sv] 52)):=(Ib _ _).alloc (Ie _) _;go_enter Tryz.func154,Tryz.ntmps154;go_wp2_with fail;refine(kQ _ (HV.out.below tK)).mono ?_;rintro e w1 ⟨rfl,aC⟩;have c1:∀o,w1.cell? ⟨w.heap.size,o,be⟩=#[Y nm,U O st,U O lf,U O ad,Ia sv][o]?:=λo=>by
  rw[aC.cell (p:=⟨w.heap.size,o,be⟩) (by simp)];exact dh rfl
 have aZ:Hid _:=tK.trans (aC.mono (by simp));have dD:w.heap.size<w1.heap.size:=by have:=aC.size;simp at this;omega
 clear aC tK kQ;go_wp2_with fail;refine(et _).mono ?_;rintro e w2 ⟨rfl,aL⟩;have c2:∀o,w2.cell? ⟨w.heap.size,o,be⟩=#[Y nm,U O st,U O lf,U O ad,Ia sv][o]?:=λo=>by
  rw[aL.cell (p:=⟨w.heap.size,o,be⟩) (by simp only;omega)];exact c1 o
 have bA:Hid _:=aZ.out.trans (aL.mono aZ.out.size);have pA:w.heap.size<w2.heap.size:=by have:=aL.size;omega
 clear aL c1 dD aZ et;go_wp2_with fail;refine(hY rs v _ (HV.out.below bA.out) (by omega)).mono ?_;rintro e w3 ⟨v3,rfl,lA,bY⟩;have eG:Hid (cV _ _ _ _):=lA;have c3:w3.cell? ⟨w.heap.size,0,be⟩=AI (Y nm):=by
  rw[bY.cell (p:=⟨w.heap.size,0,be⟩) (by simp only;omega)];exact c2 0
 have C3:Hid (∀o,w3.cell? ⟨w.heap.size,o,be⟩=#[Y nm,U O st,U O lf,U O ad,Ia sv][o]?):=λo=>by
  rw[bY.cell (p:=⟨w.heap.size,o,be⟩) (by simp only;omega)];exact c2 o
 have cF:Hid _:=bA.out.trans (bY.mono bA.out.size);have su:w.heap.size<w3.heap.size:=by have:=bY.size;omega
 have V7:=bY.size;clear bY lA c2;go_wp2_with fail;go_region_held3 (λw'=>w'.cell? ⟨w.heap.size,0,be⟩=AI (Y nm)) (first|assumption|go_keep) (first|(go_at_call 140;refine(rv rs v _ ((HV.out.below cF.out).below (Ib _ _).drew) (by omega)).mono ?_;rintro e w4 ⟨rfl,hown,eV⟩;obtain⟨cq,kO,cA⟩:=ry hown hm;rw[HH.out] at kO;have mI:(Instr.lookup 166 (.map (AI w3.heap.size)) (Y nm) true).run AS w4=.ok (Ip #[U O cq,Ia false]) w4:=kO;clear kO cA hown;have gC:Hid (Below w3.heap.size w3 w4):=(Ib w3.heap.size w3).drew.trans eV;have hS:w4.cell? ⟨w.heap.size,0,be⟩=AI (Y nm):=((eV.cell (p:=⟨w.heap.size,0,be⟩) su).trans c3);clear eV))
 obtain⟨a3,Gt,A4⟩:=eG.out.slice;subst A4;have jd:Hid _:=cF.out.trans (gC.out.mono cF.out.size);clear eG C3 gC cF c3 mI;rw[hl];go_wp2_with fail;go_ret2;exact⟨rfl,jd.out⟩
theorem RI(rs:List bU)(v:Value)(m:Mem)(w:World)(hv:oj w v rs)(hm:m.name.size<=Io)(h0:eB rs=0)(he:m.e=0)(p:Nat)(hp:p<rs.length)(xa:(rs.getD p dr).m.name=m.name)(V8:dn m (rs.getD p dr).m=false) :
 Calls AS 154 #[v,Ik #[Y m.name,U O m.state,U O m.aI,U O m.addr,Ia m.server]] w λe w'=>∃v',e=AT (Ip #[v',U O 0])/\cV w.heap.size w' v' rs/\Below w.heap.size w w':=by
 obtain⟨i0,fH,dt,gJ,gB⟩:=I9 Tryz.xN;have HV:Hid (oj w v rs):=hv;have kQ:=λ(w:World) (h:oj w v rs)=>hU rs v w h;rw[h0] at kQ;have et:=λw=>fE m w hm;rw[he] at et;have HH:Hid (Maps.has (Dm (fM rs) rs.length) (kS m.name)=true):=(sC _ _ _).2 ⟨p,hp,by rw[dU];exact xa⟩;have fm:Hid ((Dm (fM rs) rs.length).atKey (kS m.name) (.lit (.int O 0))=.lit (.int O p)):=Mp _ _ _ _ p hp (by rw[dU];exact xa) (λi hi hk=>by rw[dU,<- xa];exact λe=>(fI h0).2.2.2 p i hi hk e.symm);have CJ:=(fI h0).1;have HEP:Hid _:=(fI h0).2.1 p hp;have Mq:(rs.getD p dr).m.name.size<=Io:=by obtain⟨_,_,_,h,_⟩:=hv;exact h p
 have CK:Hid _:=xO he HEP.out xa.symm;clear h0 he hv HEP;obtain⟨nm,st,lf,ad,sv⟩:=m;simp only at *;have tK:Below w.heap.size w (w.alloc (.cells #[Y nm,U O st,U O lf,U O ad,Ia sv] 52)):=(Ib _ _).alloc (Ie _) _;go_enter Tryz.func154,Tryz.ntmps154;go_wp2_with fail;refine(kQ _ (HV.out.below tK)).mono ?_;rintro e w1 ⟨rfl,aC⟩;have c1:∀o,w1.cell? ⟨w.heap.size,o,be⟩=#[Y nm,U O st,U O lf,U O ad,Ia sv][o]?:=λo=>by
  rw[aC.cell (p:=⟨w.heap.size,o,be⟩) (by simp)];exact dh rfl
 have aZ:Hid _:=tK.trans (aC.mono (by simp));have dD:w.heap.size<w1.heap.size:=by have:=aC.size;simp at this;omega
 clear aC tK kQ;go_wp2_with fail;refine(et _).mono ?_;rintro e w2 ⟨rfl,aL⟩;have c2:∀o,w2.cell? ⟨w.heap.size,o,be⟩=#[Y nm,U O st,U O lf,U O ad,Ia sv][o]?:=λo=>by
  rw[aL.cell (p:=⟨w.heap.size,o,be⟩) (by simp only;omega)];exact c1 o
 have bA:Hid _:=aZ.out.trans (aL.mono aZ.out.size);have pA:w.heap.size<w2.heap.size:=by have:=aL.size;omega
 clear aL c1 dD aZ et;go_wp2_with fail;refine(hY rs v _ (HV.out.below bA.out) (by omega)).mono ?_;rintro e w3 ⟨v3,rfl,lA,bY⟩;have eG:Hid (cV _ _ _ _):=lA;have c3:w3.cell? ⟨w.heap.size,0,be⟩=AI (Y nm):=by
  rw[bY.cell (p:=⟨w.heap.size,0,be⟩) (by simp only;omega)];exact c2 0
 have C3:Hid (∀o,w3.cell? ⟨w.heap.size,o,be⟩=#[Y nm,U O st,U O lf,U O ad,Ia sv][o]?):=λo=>by
  rw[bY.cell (p:=⟨w.heap.size,o,be⟩) (by simp only;omega)];exact c2 o
 have cF:Hid _:=bA.out.trans (bY.mono bA.out.size);have su:w.heap.size<w3.heap.size:=by have:=bY.size;omega
 have V7:=bY.size;clear bY lA c2;go_wp2_with fail;go_region_held3 (λw'=>w'.cell? ⟨w.heap.size,0,be⟩=AI (Y nm)) (first|assumption|go_keep) (first|(go_at_call 140;refine(rv rs v _ ((HV.out.below cF.out).below (Ib _ _).drew) (by omega)).mono ?_;rintro e w4 ⟨rfl,hown,eV⟩;obtain⟨cq,kO,cA⟩:=ry hown hm;rw[HH.out] at kO;rw[fm.out] at cA;have hcq:cq=p:=(by simp at cA;exact cA.symm);subst hcq;have mI:(Instr.lookup 166 (.map (AI w3.heap.size)) (Y nm) true).run AS w4=.ok (Ip #[U O p,Ia true]) w4:=kO;clear kO cA hown;have gC:Hid (Below w3.heap.size w3 w4):=(Ib w3.heap.size w3).drew.trans eV;have hS:w4.cell? ⟨w.heap.size,0,be⟩=AI (Y nm):=((eV.cell (p:=⟨w.heap.size,0,be⟩) su).trans c3);clear eV))
 obtain⟨a3,Gt,A4⟩:=eG.out.slice;subst A4;have C4:∀o,w4.cell? ⟨w.heap.size,o,be⟩=#[Y nm,U O st,U O lf,U O ad,Ia sv][o]?:=λo=>by
  rw[gC.out.cell (p:=⟨w.heap.size,o,be⟩) su];exact C3.out o
 have pB:Hid (cV _ _ _ _):=eG.out.below gC.out;have jd:Hid _:=cF.out.trans (gC.out.mono cF.out.size);have jV:w2.heap.size<=w4.heap.size:=by have:=gC.out.size;omega
 have HV4:Hid (oj w4 v rs):=HV.out.below jd.out;clear eG C3 gC cF c3 mI HV;obtain⟨pa,ca,hvv,_,cL⟩:=HV4.out;subst hvv;obtain⟨b,off,V9,lH,hr⟩:∃b off,pa=AI ⟨b,off,be⟩/\b<w4.heap.size/\om w4 b off rs:=by
  rcases cL with h|h
  .rw[h] at hp;simp at hp
  .exact h
 subst V9;obtain⟨e0,e1,e2,e3,e4,e5⟩:=hr p hp;have hN:=λw=>qg ⟨nm,st,lf,ad,sv⟩ (rs.getD p dr).m w hm Mq;rw[CK.out,V8] at hN;simp only[beq_self_eq_true,Bool.true_and] at hN;clear cL hr HV4;generalize(rs.getD p dr)=rp at *;obtain⟨⟨yn,ys,yl,ya,yv⟩,ytd⟩:=rp;simp only at e0 e1 e2 e3 e4 e5 hN xa;have Wb:=xa.symm;clear xa;subst Wb;generalize hN':rs.length=n at *;have HN:Hid _:=hN';clear hN';go_wp2_with fail;have E0:=Ih (C4 0);have E1:=Ih (C4 1);have E2:=Ih (C4 2);have E3:=Ih (C4 3);have E4:=Ih (C4 4);have F0:=Ih e0;have F1:=Ih e1;have F2:=Ih e2;have F3:=Ih e3;have F4:=Ih e4;have cN:∀d os,Calls AS 149 #[Ik #[Y nm,U O st,U O lf,U O ad,Ia sv],Ik #[Y nm,U O ys,U O yl,U O ya,Ia yv]] (Ig (Im w4 d) os) λe fR=>e=AT (Ip #[Ia false,U O 0])/\∃p:Regrown,fR=Ig (Im w4 p.d) p.os:=λd os=>
  Calls.regrown_of ((hN _).mono (by rintro e w' ⟨rfl,hb⟩;exact⟨rfl,hb⟩))
 clear e0 e1 e2 e3 e4 e5 hN;refine IA (by kernel_rfl) (by kernel_rfl) ?_;repeat(quiet_step (exact cN _ _))
 refine bu λdq gW dF=>?_;clear cN E0 E1 E2 E3 E4 F0 F1 F2 F3 F4;have Ar:Hid (cV w.heap.size (Ig (Im w4 dq) gW) (J a3 n Gt) rs):=(pB.out.below dF.out).base (by omega);have tL:Hid _:=jd.out.trans (dF.out.mono jd.out.size);clear pB dF;go_wp2_with fail;go_ret2;exact⟨_,rfl,Ar.out,tL.out⟩
theorem Gu(rs:List bU)(v:Value)(m:Mem)(w:World)(hv:oj w v rs)(hm:m.name.size<=Io)(h0:eB rs=0)(he:m.e=0)(p:Nat)(hp:p<rs.length)(xa:(rs.getD p dr).m.name=m.name)(V8:dn m (rs.getD p dr).m=true) :
 Calls AS 154 #[v,Ik #[Y m.name,U O m.state,U O m.aI,U O m.addr,Ia m.server]] w λe w'=>∃v',e=AT (Ip #[v',U O 0])/\cV w.heap.size w' v' (rs.eraseIdx p++[⟨m,0⟩])/\Below w.heap.size w w':=by
 obtain⟨i0,fH,dt,gJ,gB⟩:=I9 Tryz.xN;have HV:Hid (oj w v rs):=hv;have kQ:=λ(w:World) (h:oj w v rs)=>hU rs v w h;rw[h0] at kQ;have et:=λw=>fE m w hm;rw[he] at et;have HH:Hid (Maps.has (Dm (fM rs) rs.length) (kS m.name)=true):=(sC _ _ _).2 ⟨p,hp,by rw[dU];exact xa⟩;have fm:Hid ((Dm (fM rs) rs.length).atKey (kS m.name) (.lit (.int O 0))=.lit (.int O p)):=Mp _ _ _ _ p hp (by rw[dU];exact xa) (λi hi hk=>by rw[dU,<- xa];exact λe=>(fI h0).2.2.2 p i hi hk e.symm);have CJ:=(fI h0).1;have HEP:Hid _:=(fI h0).2.1 p hp;have Mq:(rs.getD p dr).m.name.size<=Io:=by obtain⟨_,_,_,h,_⟩:=hv;exact h p
 have CK:Hid _:=xO he HEP.out xa.symm;clear h0 he hv HEP;obtain⟨nm,st,lf,ad,sv⟩:=m;simp only at *;have tK:Below w.heap.size w (w.alloc (.cells #[Y nm,U O st,U O lf,U O ad,Ia sv] 52)):=(Ib _ _).alloc (Ie _) _;go_enter Tryz.func154,Tryz.ntmps154;go_wp2_with fail;refine(kQ _ (HV.out.below tK)).mono ?_;rintro e w1 ⟨rfl,aC⟩;have c1:∀o,w1.cell? ⟨w.heap.size,o,be⟩=#[Y nm,U O st,U O lf,U O ad,Ia sv][o]?:=λo=>by
  rw[aC.cell (p:=⟨w.heap.size,o,be⟩) (by simp)];exact dh rfl
 have aZ:Hid _:=tK.trans (aC.mono (by simp));have dD:w.heap.size<w1.heap.size:=by have:=aC.size;simp at this;omega
 clear aC tK kQ;go_wp2_with fail;refine(et _).mono ?_;rintro e w2 ⟨rfl,aL⟩;have c2:∀o,w2.cell? ⟨w.heap.size,o,be⟩=#[Y nm,U O st,U O lf,U O ad,Ia sv][o]?:=λo=>by
  rw[aL.cell (p:=⟨w.heap.size,o,be⟩) (by simp only;omega)];exact c1 o
 have bA:Hid _:=aZ.out.trans (aL.mono aZ.out.size);have pA:w.heap.size<w2.heap.size:=by have:=aL.size;omega
 clear aL c1 dD aZ et;go_wp2_with fail;refine(hY rs v _ (HV.out.below bA.out) (by omega)).mono ?_;rintro e w3 ⟨v3,rfl,lA,bY⟩;have eG:Hid (cV _ _ _ _):=lA;have c3:w3.cell? ⟨w.heap.size,0,be⟩=AI (Y nm):=by
  rw[bY.cell (p:=⟨w.heap.size,0,be⟩) (by simp only;omega)];exact c2 0
 have C3:Hid (∀o,w3.cell? ⟨w.heap.size,o,be⟩=#[Y nm,U O st,U O lf,U O ad,Ia sv][o]?):=λo=>by
  rw[bY.cell (p:=⟨w.heap.size,o,be⟩) (by simp only;omega)];exact c2 o
 have cF:Hid _:=bA.out.trans (bY.mono bA.out.size);have su:w.heap.size<w3.heap.size:=by have:=bY.size;omega
 have V7:=bY.size;clear bY lA c2;go_wp2_with fail;go_region_held3 (λw'=>w'.cell? ⟨w.heap.size,0,be⟩=AI (Y nm)) (first|assumption|go_keep) (first|(go_at_call 140;refine(rv rs v _ ((HV.out.below cF.out).below (Ib _ _).drew) (by omega)).mono ?_;rintro e w4 ⟨rfl,hown,eV⟩;obtain⟨cq,kO,cA⟩:=ry hown hm;rw[HH.out] at kO;rw[fm.out] at cA;have hcq:cq=p:=(by simp at cA;exact cA.symm);subst hcq;have mI:(Instr.lookup 166 (.map (AI w3.heap.size)) (Y nm) true).run AS w4=.ok (Ip #[U O p,Ia true]) w4:=kO;clear kO cA hown;have gC:Hid (Below w3.heap.size w3 w4):=(Ib w3.heap.size w3).drew.trans eV;have hS:w4.cell? ⟨w.heap.size,0,be⟩=AI (Y nm):=((eV.cell (p:=⟨w.heap.size,0,be⟩) su).trans c3);clear eV))
 obtain⟨a3,Gt,A4⟩:=eG.out.slice;subst A4;have C4:∀o,w4.cell? ⟨w.heap.size,o,be⟩=#[Y nm,U O st,U O lf,U O ad,Ia sv][o]?:=λo=>by
  rw[gC.out.cell (p:=⟨w.heap.size,o,be⟩) su];exact C3.out o
 have pB:Hid (cV _ _ _ _):=eG.out.below gC.out;have jd:Hid _:=cF.out.trans (gC.out.mono cF.out.size);have jV:w2.heap.size<=w4.heap.size:=by have:=gC.out.size;omega
 have HV4:Hid (oj w4 v rs):=HV.out.below jd.out;clear eG C3 gC cF c3 mI HV;obtain⟨pa,ca,hvv,_,cL⟩:=HV4.out;subst hvv;obtain⟨b,off,V9,lH,hr⟩:∃b off,pa=AI ⟨b,off,be⟩/\b<w4.heap.size/\om w4 b off rs:=by
  rcases cL with h|h
  .rw[h] at hp;simp at hp
  .exact h
 subst V9;obtain⟨e0,e1,e2,e3,e4,e5⟩:=hr p hp;have hN:=λw=>qg ⟨nm,st,lf,ad,sv⟩ (rs.getD p dr).m w hm Mq;rw[CK.out,V8] at hN;simp only[beq_self_eq_true,Bool.true_and] at hN;clear cL hr HV4;generalize(rs.getD p dr)=rp at *;obtain⟨⟨yn,ys,yl,ya,yv⟩,ytd⟩:=rp;simp only at e0 e1 e2 e3 e4 e5 hN xa;have Wb:=xa.symm;clear xa;subst Wb;generalize hN':rs.length=n at *;have HN:Hid _:=hN';clear hN';go_wp2_with fail;have E0:=Ih (C4 0);have E1:=Ih (C4 1);have E2:=Ih (C4 2);have E3:=Ih (C4 3);have E4:=Ih (C4 4);have F0:=Ih e0;have F1:=Ih e1;have F2:=Ih e2;have F3:=Ih e3;have F4:=Ih e4;have cN:∀d os,Calls AS 149 #[Ik #[Y nm,U O st,U O lf,U O ad,Ia sv],Ik #[Y nm,U O ys,U O yl,U O ya,Ia yv]] (Ig (Im w4 d) os) λe fR=>e=AT (Ip #[Ia true,U O 0])/\∃p:Regrown,fR=Ig (Im w4 p.d) p.os:=λd os=>
  Calls.regrown_of ((hN _).mono (by rintro e w' ⟨rfl,hb⟩;exact⟨rfl,hb⟩))
 clear e0 e1 e2 e3 e4 e5 hN;refine IA (by kernel_rfl) (by kernel_rfl) ?_;repeat(quiet_step (exact cN _ _))
 refine bu λdq gW dF=>?_;clear cN E0 E1 E2 E3 E4 F0 F1 F2 F3 F4;have Gv:Hid _:=HN;obtain⟨g,c,Wc,RJ⟩:∃g c,a3=AI ⟨g,0,be⟩/\Gt=c:=by
  rcases pB.out.2 with⟨_,h0⟩|⟨g,c,cur,h,_⟩
  .have:=HN.out;omega
  .simp only[I2] at h
   exact⟨g,c,h.1,h.2.2⟩
 subst Wc;subst RJ;have Ar:Hid (cV _ _ _ _):=pB.out.below dF.out;have tL:Hid _:=jd.out.trans (dF.out.mono jd.out.size);have C6:∀o,(Ig (Im w4 dq) gW).cell? ⟨w.heap.size,o,be⟩=#[Y nm,U O st,U O lf,U O ad,Ia sv][o]?:=λo=>by
  rw[dF.out.cell (p:=⟨w.heap.size,o,be⟩) (by simp only;omega)];exact C4 o
 have T1:w2.heap.size<=(Ig (Im w4 dq) gW).heap.size:=by have:=dF.out.size;omega
 clear pB dF C4;generalize Ig (Im w4 dq) gW=w6 at *;go_wp2_with fail;refine(CH rs n p g Gt w2.heap.size _ HN.out Ar.out hp (by omega)).mono ?_;rintro e w7 ⟨rfl,ho7,Lw⟩;have C7:∀o,w7.cell? ⟨w.heap.size,o,be⟩=#[Y nm,U O st,U O lf,U O ad,Ia sv][o]?:=λo=>by
  rw[Lw.cell (p:=⟨w.heap.size,o,be⟩) (by simp only;omega)];exact C6 o
 have Gx:Hid _:=tL.out.trans (Lw.mono (by omega));have hz7:w2.heap.size<=w7.heap.size:=by have:=Lw.size;omega
 have RM:Hid ((rs.eraseIdx p).length=n-1):=(show(rs.eraseIdx p).length=n-1 by rw[Qm,if_pos (by rw[HN.out];exact hp),HN.out]);have HO8:Hid (∀ob,(w7.alloc ob).ownsRow w2.heap.size 111 6 (J (AI ⟨g,0,be⟩) (n-1) Gt) (n-1) (fD (rs.eraseIdx p))):=λob=>by
  have h:=cV.below (ms:=rs.eraseIdx p) ho7 ((Ib _ _).alloc (Ie _) ob);have h2:(w7.alloc ob).ownsRow w2.heap.size 111 6 (J (AI ⟨g,0,be⟩) (n-1) Gt) (rs.eraseIdx p).length (fD (rs.eraseIdx p)):=h;rw[RM.out] at h2;exact h2
 have Gy:Hid (∀k,(Value.slice (AI ⟨g,0,be⟩) (n-1) Gt).ownBlock=AI k->w.heap.size<=k):=λk hk=>by have:=(cV.lt (ms:=rs.eraseIdx p) ho7 k hk).1;omega
 have HSN:Hid (∀(w':World) (v':Value),w'.ownsRow w2.heap.size 111 6 v' (n-1+1) (fD (rs.eraseIdx p)++(bU.mk ⟨nm,st,lf,ad,sv⟩ 0).cs)->cV w.heap.size w' v' (rs.eraseIdx p++[⟨⟨nm,st,lf,ad,sv⟩,0⟩])):=λw' v' h=>(xP (by rw[RM.out];exact h)).base (by omega);have anr:n-1<=19:=by omega
 clear Lw ho7 C6 tL Ar RM;generalize hn1:n-1=n1 at *;clear hn1;go_wp2_with (at_builtin;refine wpList_append_own _ rfl _ _ 46 rfl w2.heap.size 111 i0 _ 6 56 Oj fH dt gJ gB rfl (by omega) _ n1 (fD (rs.eraseIdx p)) rfl ?hown ⟨w7.heap.size,0,be⟩ 1 1 (bU.mk ⟨nm,st,lf,ad,sv⟩ 0).cs rfl rfl ?hnews (yU _) ?h63 ?hbytes ?hbase ?_)
 case hown=>exact HO8.out _
 case hnews=>(intro j u hj;rw[Addr.add_lit];exact(dh (by simp)).trans (by simpa[bU.cs] using hj))
 case h63=>(unfold Io;omega)
 case hbytes=>omega
 case hbase=>(simp;omega)
 intro v' w8 r1 r2 r3;have R1:Hid (cV _ _ _ _):=HSN.out w8 v' r1;have R2:Hid _:=(Gx.out.alloc Gx.out.size _).grown r2 (by have:=Gx.out.size;simp;omega) (λk hk=>Gy.out k hk);clear r1 r2 r3;go_wp2_with fail;go_ret2;exact⟨v',rfl,R1.out,R2.out⟩
end Go.Proofs.YtbfghimjdlpicaaGreatDoor
namespace Go.Proofs.YtbfghimjdlpicaaGreatDoor
open Go.RowKit
theorem RN{rs:List bU}{p:Nat}(hp:p<rs.length)(r:bU):Cl (fD rs) (p*6) r.cs=fD (rs.set p r):=by
 apply List.ext_getElem?;intro k;by_cases hk:k<rs.length*6
 .have h2:=mV (rs.set p r) (k/6) (by rw[IS];omega) (k%6) (by omega)
  rw[show k/6*6+k%6=k by omega] at h2;rw[h2];by_cases oo:k/6=p
  .rw[show(rs.set p r).getD (k/6) dr=r by rw[oo];simp[Ir,Oo hp]]
   have h3:=yT r.cs (fD rs) (p*6) (k%6) (by rw[kp];omega) (by rw[kp,eD];omega);rw[show p*6+k%6=k by omega] at h3;exact h3
  .rw[show(rs.set p r).getD (k/6) dr=rs.getD (k/6) dr by simp[Ir,JY (Ne.symm oo)]]
   rw[lF _ _ _ _ (by rw[kp];omega)];have h4:=mV rs (k/6) (by omega) (k%6) (by omega);rw[show k/6*6+k%6=k by omega] at h4;exact h4
 .rw[I3 (by rw[ko,eD];omega),I3 (by rw[eD,IS];omega)]
def eM(times:Int)(r:bU):Bool:=decide (r.told<times)
theorem xQ(r:bU)(tb:Nat)(times:Int)(w:World)(ht:w.cell? ⟨tb,0,be⟩=AI (U O times)) :
 Calls AS 118 #[Ik #[Y r.m.name,U O r.m.state,U O r.m.aI,U O r.m.addr,Ia r.m.server,U O r.told],If (AI ⟨tb,0,be⟩)] w λe w'=>e=AT (Ia (!eM times r))/\w'=w.alloc (.cells #[Y r.m.name,U O r.m.state,U O r.m.aI,U O r.m.addr,Ia r.m.server,U O r.told] 111):=by
 have hb:=Iw w _ ht;have RO:∀ob,(w.alloc ob).cell? ⟨tb,0,be⟩=AI (U O times):=λob=>by
  rw[((Ib w.heap.size w).alloc (Ie _) ob).cell (p:=⟨tb,0,be⟩) hb];exact ht
 go_enter Tryz.func118,Tryz.ntmps118;go_wp2_with fail;go_ret;refine⟨aW ?_,rfl⟩;unfold eM;by_cases h:r.told<times
 .rw[decide_eq_true h];simp;omega
 .rw[decide_eq_false h];simp;omega
theorem xb(rs:List bU)(n b off c tb:Nat)(times:Int)(w:World)(hn:rs.length=n)(xM:n<=1000)(hr:om w b off rs)(hb:n≠0->b<w.heap.size)(ht:w.cell? ⟨tb,0,be⟩=AI (U O times)) :
 Calls AS 148 #[J (AI ⟨b,off,be⟩) n c,.func (.func 118) #[] #[If (AI ⟨tb,0,be⟩)]] w λe w'=>
  ((e=AT (U O (-1))/\∀j,j<n->eM times (rs.getD j dr)=true)\/(∃i:Nat,i<n/\e=AT (U O i)/\(∀j,j<i->eM times (rs.getD j dr)=true)/\eM times (rs.getD i dr)=false))/\Below w.heap.size w w':=by
 have HR:Hid (om w b off rs):=hr;have HN:Hid _:=hn;have HT:Hid _:=ht;have Wd:=Iw w _ ht;have P8:Hid _:=hb;clear hr hn ht hb;go_enter Tryz.func148,Tryz.ntmps148;go_wp2_with fail;go_loopw [8] (λi wr=>∃k:Nat,k<=n/\i=U O k/\Hid (∀j,j<k->eM times (rs.getD j dr)=true)/\Hid (Below w.heap.size w wr)) (λi _=>n-(intOf i).toNat)
 case atStart=>exact⟨0,Nat.zero_le _,rfl,λj hj=>by omega,Ib _ _⟩
 case round=>
  obtain⟨k,hk,rfl,HZ,HB⟩:=hrel;by_cases aX:k<n
  .obtain⟨c0,c1,c2,c3,c4,c5⟩:=HR.out.below HB.out (P8.out (by omega)) k (by rw[HN.out];exact aX)
   have RO:wr.cell? ⟨tb,0,be⟩=AI (U O times):=by rw[HB.out.cell (p:=⟨tb,0,be⟩) Wd];exact HT.out
   have ma:Hid (eM times (rs.getD k dr)=true->∀j,j<k+1->eM times (rs.getD j dr)=true):=λh j hj=>by
    by_cases e:j=k
    .subst e;exact h
    .exact HZ.out j (by omega)
   have hF:=λw h=>xQ (rs.getD k dr) tb times w h;rcases oo:eM times (rs.getD k dr) with _|_
   .rw[oo] at hF
    have HKP:Hid _:=oo;clear oo ma;generalize hrk:rs.getD k dr=rk at *;have HRK:Hid _:=hrk;clear hrk;obtain⟨⟨nm,st,lf,ad,sv⟩,td⟩:=rk;simp only at c0 c1 c2 c3 c4 c5 hF;go_wp2_with fail;refine(hF _ RO).mono ?_;rintro e w1 ⟨rfl,rfl⟩;go_wp2_with fail;go_ret;exact⟨.inr ⟨k,aX,rfl,HZ.out,by rw[HRK.out];exact HKP.out⟩,HB.out.alloc HB.out.size _⟩
   .rw[oo] at hF
    have qV:Hid _:=ma.out oo;clear oo ma HZ;generalize(rs.getD k dr)=rk at *;obtain⟨⟨nm,st,lf,ad,sv⟩,td⟩:=rk;simp only at c0 c1 c2 c3 c4 c5 hF;go_wp2_with fail;refine(hF _ RO).mono ?_;rintro e w1 ⟨rfl,rfl⟩;go_wp2_with fail;go_roundw
    case rel=>exact⟨k+1,by omega,by go_num,qV,HB.out.alloc HB.out.size _⟩
    case measure=>simp[intOf];omega
  .have qV:Hid (∀j,j<n->eM times (rs.getD j dr)=true):=λj hj=>HZ.out j (by omega)
   clear HZ;go_wp2_with fail;go_ret;exact⟨.inl ⟨rfl,qV.out⟩,HB.out⟩
def Lx(m:Nat):List Value:=(Qh #[Y ⟨#[]⟩,U O 0,U O 0,U O 0,Ia false,U O 0] m).toList
theorem EU(m:Nat):(Lx m).length=m*6:=by simp[Lx,Qh]
theorem RP(m:Nat):∀v∈Lx m,v.oneCell'=true:=by
 intro v hv;simp only[Lx,Qh,Array.toList_map,List.mem_map] at hv;obtain⟨i,_,rfl⟩:=hv;have h:i%6<6:=Nat.mod_lt _ (by decide);show Value.oneCell' (#[Y ⟨#[]⟩,U O 0,U O 0,U O 0,Ia false,U O 0][i%6]!)=true;generalize i%6=k at h
 match k,h with
 |0,_=>rfl
 |1,_=>rfl
 |2,_=>rfl
 |3,_=>rfl
 |4,_=>rfl
 |5,_=>rfl
theorem uO(w:World)(ty:Ja)(b o m c:Nat)(hm:0<m)(hc:∀j,j<m*6->(w.cell? ⟨b,o+j,be⟩).isSome=true)(hf:∀j,j<m*6->w.frozen? ⟨b,o+j,be⟩=false) : (OE #[46] ty #[J (AI ⟨b,o,be⟩) m c]).run AS w=.ok (Ip #[]) (w.setCells b o (Lx m)):=by
 have pK:=run_storeCells_cells (P:=AS) b o (Lx m) 0 w (λj hj=>by simpa using hc j (by rw[EU] at hj;exact hj)) (λj hj=>by simpa using hf j (by rw[EU] at hj;exact hj)) (RP m);simp only[Nat.add_zero] at pK;have hzc:(Qh (Value.agg #[Y ⟨#[]⟩,U O 0,U O 0,U O 0,Ia false,U O 0]).cells m).toList=Lx m:=rfl;obtain⟨k,rfl⟩:∃k,m=k+1:=⟨m-1,by omega⟩;simp[OE,QQ Oj,hzc,pK]
theorem CL{times:Int}{r:bU}(h:eM times r=true):[r].filter (eM times)=[r]:=by simp[h]
theorem xR{times:Int}{r:bU}(h:eM times r=false):[r].filter (eM times)=[]:=by simp[h]
structure EV(rs cur:List bU)(times:Int)(i j:Nat):Prop where
 len:cur.length=rs.length
 head:cur.take i=(rs.take j).filter (eM times)
 tail:cur.drop j=rs.drop j
theorem EV.fN{rs cur:List bU}{times:Int}{i j:Nat}(h:EV rs cur times i j)(jS:i<j)(hj:j<rs.length)(hk:eM times (rs.getD j dr)=true):EV rs (cur.set i (rs.getD j dr)) times (i+1) (j+1):=by
 have hs:rs.take (j+1)=rs.take j++[rs.getD j dr]:=by rw[IB hj];simp[Ir,Ic hj]
 have hi:i<cur.length:=by rw[h.len];omega
 refine⟨by rw[IS];exact h.len,?_,?_⟩
 .rw[hs,Qy,<- h.head,IB (by rw[IS];exact hi),List.getElem_set_self,List.take_set,List.set_eq_of_length_le (by rw[IE];omega),CL hk]
 .rw[List.drop_set_of_lt (by omega)]
  have:=congrArg (List.drop 1) h.tail
  rwa [List.drop_drop,List.drop_drop] at this
theorem EV.skip{rs cur:List bU}{times:Int}{i j:Nat}(h:EV rs cur times i j)(hj:j<rs.length)(hk:eM times (rs.getD j dr)=false):EV rs cur times i (j+1):=by
 have hs:rs.take (j+1)=rs.take j++[rs.getD j dr]:=by rw[IB hj];simp[Ir,Ic hj]
 refine⟨h.len,?_,?_⟩
 .rw[hs,Qy,<- h.head,xR hk,JO]
 .have:=congrArg (List.drop 1) h.tail
  rwa [List.drop_drop,List.drop_drop] at this
theorem EV.get{rs cur:List bU}{times:Int}{i j:Nat}(h:EV rs cur times i j):cur.getD j dr=rs.getD j dr:=by
 have:=congrArg (λl:List bU=>l[0]?.getD dr) h.tail;simpa[Ir,Up] using this
theorem filter_all{times:Int}{rs:List bU}(h:∀j,j<rs.length->eM times (rs.getD j dr)=true):rs.filter (eM times)=rs:=by
 rw[List.filter_eq_self];intro r hr;obtain⟨j,hj,rfl⟩:=List.getElem_of_mem hr;have:=h j hj
 rwa [show rs.getD j dr=rs[j] by simp[Ir,Ic hj]] at this
theorem EV.start{rs:List bU}{times:Int}{i:Nat}(hi:i<rs.length)(h1:∀j,j<i->eM times (rs.getD j dr)=true)(h2:eM times (rs.getD i dr)=false):EV rs rs times i (i+1):=by
 have hs:rs.take (i+1)=rs.take i++[rs.getD i dr]:=by rw[IB hi];simp[Ir,Ic hi]
 refine⟨rfl,?_,rfl⟩;rw[hs,Qy,filter_all (rs:=rs.take i) (λj hj=>by
  have hji:j<i:=by rw[IE] at hj;omega
  have:=h1 j hji
  rwa [show(rs.take i).getD j dr=rs.getD j dr by simp[Ir,IP hji]]),xR h2,JO]
def tq(g:Nat)(w w':World):Prop:=w.heap.size<=w'.heap.size/\∀k,k<w.heap.size->k≠g->w'.heap[k]?=w.heap[k]?
theorem tq.trans{g:Nat}{a b c:World}(h:tq g a b)(k:tq g b c):tq g a c:=⟨Nat.le_trans h.1 k.1,λj hj hg=>(k.2 j (Nat.lt_of_lt_of_le hj h.1) hg).trans (h.2 j hj hg)⟩
theorem tq.of{g:Nat}{w w':World}(h:Below w.heap.size w w'):tq g w w':=⟨h.size,λk hk _=>h.block k hk⟩
theorem tq.setCell{g:Nat}{w w':World}(h:tq g w w')(o:Nat)(v:Value):tq g w (w'.setCell ⟨g,o,be⟩ v):=by
 refine⟨by simpa using h.1,λk hk hg=>?_⟩;have e:(w'.setCell ⟨g,o,be⟩ v).heap[k]?=w'.heap[k]?:=by
  simp only[World.setCell,Array.getElem?_modify];rw[if_neg (Ne.symm hg)]
 rw[e];exact h.2 k hk hg
theorem tq.setCells{g:Nat}:∀(vs:List Value) (o:Nat) (w w':World),tq g w w'->tq g w (w'.setCells g o vs)
 |[],_,_,_,h=>h
 |v::r,o,w,_,h=>tq.setCells r (o+1) w _ (h.setCell o v)
theorem uP(rs:List bU)(n g c tb base:Nat)(times:Int)(w:World)(hn:rs.length=n)(xM:n<=1000)(ho:cV base w (J (AI ⟨g,0,be⟩) n c) rs)(hbase:base<=w.heap.size)(Wd:tb<base)(ht:w.cell? ⟨tb,0,be⟩=AI (U O times)) :
 Calls AS 117 #[J (AI ⟨g,0,be⟩) n c,.func (.func 118) #[] #[If (AI ⟨tb,0,be⟩)]] w λe w'=>∃m,e=AT (J (AI ⟨g,0,be⟩) m c)/\cV base w' (J (AI ⟨g,0,be⟩) m c) (rs.filter (eM times))/\Below base w w'/\tq g w w':=by
 have HO:Hid (cV _ _ _ _):=ho;have HN:Hid _:=hn;have HT:Hid _:=ht;obtain⟨dv,hgh⟩:=HO.out.lt g rfl;obtain⟨gK,et⟩:n<=c/\c<=Io:=by
  rcases HO.out.2 with⟨hv,_⟩|⟨g',c',cur,hv,eX,hg,gK,et,cE,bo⟩
  .cases hv
  .simp only[I2,Iu,JT,and_true] at hv
   obtain⟨rfl,rfl,rfl⟩:=hv;exact⟨by omega,et⟩
 unfold Io at et;clear ho hn ht;go_enter Tryz.func117,Tryz.ntmps117;go_wp2_with fail;refine(xb rs n g 0 c tb times _ HN.out xM (rz HO.out) (λ_=>hgh) HT.out).mono ?_;rintro e w1 ⟨⟨rfl,ki⟩|⟨i0,fH,rfl,Au,Av⟩,aC⟩
 .have HF:Hid _:=filter_all (λj hj=>ki j (by rw[HN.out] at hj;exact hj))
  have mT:Hid (cV _ _ _ _):=HO.out.below aC;have aZ:Hid (Below base w w1):=aC.mono hbase;have T2:Hid (tq g w w1):=tq.of aC;clear ki aC;go_wp2_with fail;go_ret;exact⟨n,rfl,by rw[HF.out];exact mT.out,aZ.out,T2.out⟩
 .have mT:Hid (cV base w1 (J (AI ⟨g,0,be⟩) n c) rs):=HO.out.below aC
  have aZ:Hid (Below base w w1):=aC.mono hbase;have T3:Hid (EV rs rs times i0 (i0+1)):=EV.start (by rw[HN.out];exact fH) Au Av;have T2:Hid (tq g w w1):=tq.of aC;clear Au Av aC;go_wp2_with fail;go_loopw [5,6] (λx y wr=>∃(i j:Nat) (cur:List bU),i<j/\j<=n/\x=U O i/\y=U O j/\Hid (EV rs cur times i j)/\Hid (cV base wr (J (AI ⟨g,0,be⟩) n c) cur)/\Hid (Below base w wr)/\Hid (tq g w wr)) (λ_ y _=>n-(intOf y).toNat)
  case atStart=>exact⟨i0,i0+1,rs,by omega,by omega,rfl,by go_num,T3,mT,aZ,T2⟩
  case round=>
   clear mT aZ T3 T2;obtain⟨i,j,cur,jS,hj,rfl,rfl,HC,CM,HB,T2⟩:=hrel;have cB:base<=wr.heap.size:=by have:=HB.out.size;omega
   have wW:g<wr.heap.size:=(CM.out.lt g rfl).2;have rA:cur.length=n:=by rw[HC.out.len,HN.out]
   by_cases aX:j<n
   .obtain⟨c0,c1,c2,c3,c4,c5⟩:=rz CM.out j (by rw[rA];exact aX)
    rw[HC.out.get] at c0 c1 c2 c3 c4 c5;have RO:∀ob,(wr.alloc ob).cell? ⟨tb,0,be⟩=AI (U O times):=λob=>by
     rw[((Ib wr.heap.size wr).alloc (Ie _) ob).cell (p:=⟨tb,0,be⟩) (by simp only;omega),HB.out.cell (p:=⟨tb,0,be⟩) Wd];exact HT.out
    have hF:=λw h=>xQ (rs.getD j dr) tb times w h;simp only[ID] at c0 c1 c2 c3 c4 c5;rcases oo:eM times (rs.getD j dr) with _|_
    .have Gz:Hid (EV rs cur times i (j+1)):=HC.out.skip (by rw[HN.out];exact aX) oo
     rw[oo] at hF;clear oo HC;generalize(rs.getD j dr)=rk at *;obtain⟨⟨nm,st,lf,ad,sv⟩,td⟩:=rk;simp only at c0 c1 c2 c3 c4 c5 hF;go_wp2_with fail;refine(hF _ (RO _)).mono ?_;rintro e w2 ⟨rfl,rfl⟩;have aL:Below wr.heap.size wr ((wr.alloc (.cells #[Y nm,U O st,U O lf,U O ad,Ia sv,U O td] 111)).alloc (.cells #[Y nm,U O st,U O lf,U O ad,Ia sv,U O td] 111)):=((Ib _ _).alloc (Ie _) _).alloc (by simp) _;have ja:=CM.out.below aL;have eG:Hid (cV _ _ _ _):=ja;have cF:Hid _:=HB.out.trans (aL.mono cB);have tM:Hid (tq _ _ _):=T2.out.trans (tq.of aL);clear aL ja;go_wp2_with fail;refine⟨⟨_,_,_,_,_,_,_,_,_,_,_,_,_,_,_,_,_,_,_,_,_,_,_,⟨i,j+1,cur,by omega,by omega,rfl,by go_num,Gz,eG,cF,tM⟩,rfl⟩,?_⟩;simp[intOf];omega
    .have Gz:Hid _:=HC.out.fN jS (by rw[HN.out];exact aX) oo
     rw[oo] at hF;have tm:∀o,wr.frozen? ⟨g,o,be⟩=false:=λo=>Jc (n:=n) (xs:=fD cur) (by have h:=CM.out;have h2:wr.ownsRow base 111 6 (J (AI ⟨g,0,be⟩) n c) cur.length (fD cur):=h;rw[rA] at h2;exact h2) o;obtain⟨d0,d1,d2,d3,d4,d5⟩:=rz CM.out i (by rw[rA];omega);simp only[ID] at d0 d1 d2 d3 d4 d5;clear oo HC;generalize(rs.getD j dr)=rk at *;obtain⟨⟨nm,st,lf,ad,sv⟩,td⟩:=rk;simp only at c0 c1 c2 c3 c4 c5 hF;have hOS:(wr.setCells g (i*6) (bU.mk ⟨nm,st,lf,ad,sv⟩ td).cs).ownsRow base 111 6 (J (AI ⟨g,0,be⟩) n c) n (fD (cur.set i ⟨⟨nm,st,lf,ad,sv⟩,td⟩)):=by
      have h2:wr.ownsRow base 111 6 (J (AI ⟨g,0,be⟩) n c) cur.length (fD cur):=CM.out;rw[rA] at h2;have h3:=hJ (bU.mk ⟨nm,st,lf,ad,sv⟩ td).cs _ (i*6) _ h2
      rwa [RN (by rw[rA];omega)] at h3
     have HOS:Hid (cV base (wr.setCells g (i*6) (bU.mk ⟨nm,st,lf,ad,sv⟩ td).cs) (J (AI ⟨g,0,be⟩) n c) (cur.set i ⟨⟨nm,st,lf,ad,sv⟩,td⟩)):=(show M2 _ _ _ _ _ (cur.set i ⟨⟨nm,st,lf,ad,sv⟩,td⟩).length _ by rw[IS,rA];exact hOS);have HFS:Hid (tq g w (wr.setCells g (i*6) (bU.mk ⟨nm,st,lf,ad,sv⟩ td).cs)):=tq.setCells _ _ _ _ T2.out;have HBS:Hid (Below base w (wr.setCells g (i*6) (bU.mk ⟨nm,st,lf,ad,sv⟩ td).cs)):=eA dv _ _ _ _ HB.out;clear hOS;go_wp2_with fail;refine(hF _ (RO _)).mono ?_;rintro e w2 ⟨rfl,rfl⟩;go_wp2_with fail;have hbz:Below (wr.setCells g (i*6) (bU.mk ⟨nm,st,lf,ad,sv⟩ td).cs).heap.size (wr.setCells g (i*6) (bU.mk ⟨nm,st,lf,ad,sv⟩ td).cs) (((wr.setCells g (i*6) (bU.mk ⟨nm,st,lf,ad,sv⟩ td).cs).alloc (.cells #[Y nm,U O st,U O lf,U O ad,Ia sv,U O td] 111)).alloc (.cells #[Y nm,U O st,U O lf,U O ad,Ia sv,U O td] 111)):=((Ib _ _).alloc (Ie _) _).alloc (by simp) _;refine⟨⟨_,_,_,_,_,_,_,_,_,_,_,_,_,_,_,_,_,_,_,_,_,_,_,⟨i+1,j+1,cur.set i ⟨⟨nm,st,lf,ad,sv⟩,td⟩,by omega,by omega,by go_num,by go_num,Gz,HOS.out.below hbz,HBS.out.trans (hbz.mono (by have:=HBS.out.size;omega)),HFS.out.trans (tq.of hbz)⟩,rfl⟩,?_⟩;simp[intOf];omega
   .have yP:j=n:=by omega
    subst yP;have HR:Hid (cur.take i=rs.filter (eM times)):=by
     have h:=HC.out.head;rw[show rs.take j=rs by rw[<- HN.out];exact List.take_length] at h;exact h
    have hOW:wr.ownsRow base 111 6 (J (AI ⟨g,0,be⟩) j c) j (fD cur):=by
     have h2:wr.ownsRow base 111 6 (J (AI ⟨g,0,be⟩) j c) cur.length (fD cur):=CM.out;rw[rA] at h2;exact h2
    have Mn:∀ty,(OE #[46] ty #[J (AI ⟨g,i*6,be⟩) (j-i) (c-i)]).run AS wr=.ok (Ip #[]) (wr.setCells g (i*6) (Lx (j-i))):=λty=>
     uO _ ty g _ _ _ (by omega) (λk hk=>by rw[OH hOW _ (by omega),Ic (by rw[eD,rA];omega)];rfl) (λk _=>Jc hOW _)
    have HF:Hid ((wr.setCells g (i*6) (Lx (j-i))).ownsRow base 111 6 (J (AI ⟨g,0,be⟩) i c) i (fD (cur.take i))):=by
     have h:=oh (m:=i) (hJ (Lx (j-i)) _ (i*6) _ hOW) (by omega);rw[qi (ys:=fD (cur.take i)) (by rw[ko,eD,rA];omega) (by rw[eD,IE];omega) (λk hk=>by
      rw[lF _ _ _ _ (by omega),<- uM,IP hk])] at h
     exact h
    have Gy:Hid ((cur.take i).length=i):=(show(cur.take i).length=i by rw[IE];omega);have HBF:Hid (Below base w (wr.setCells g (i*6) (Lx (j-i)))):=eA dv _ _ _ _ HB.out;have HFF:Hid (tq g w (wr.setCells g (i*6) (Lx (j-i)))):=tq.setCells _ _ _ _ T2.out;have hic:i<=c:=by omega
    have anv:¬ c=i:=by omega
    clear hOW CM HB HC;go_wp2_with fail;go_ret;refine⟨i,rfl,?_,HBF.out,HFF.out⟩;rw[<- HR.out];show M2 _ _ _ _ _ (cur.take i).length _;rw[Gy.out];exact HF.out
end Go.Proofs.YtbfghimjdlpicaaGreatDoor
