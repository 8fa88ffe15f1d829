import Derived.Test.YtfidjlcdlakceaaGreatDoortf15
import Derived.Test.YtfidjlcdlakceaaGreatDoortf27
set_option maxHeartbeats 3200000
set_option maxRecDepth 1000000
open Go.Value renaming int→O,slice→U,string→I,bool→AI,tuple→Il,agg→Im
open Go.IntKind renaming i64→J
open Option renaming some→Z,none→Y
open Go.Value.slice renaming injEq→IN
open Option.some renaming injEq→Jn
open Go.Addr.mk renaming injEq→JW
open List renaming getElem?_take_of_lt→IF,length_set→Jb,length_cons→IY,length_take→Iu,getElem?_eq_none→IP,length_drop→Jr,getElem?_eq_some_iff→Jg,getElem?_eq_getElem→Ic
open Go.World.ownsRow renaming stored→IW,frozenAt→Ja,cellAt→O0
open Go.Proofs.Tryz renaming prog→be,underlying23→OI
open Go.Ending renaming returned→sh
open Go renaming info_parts→I0,maxLen→Ij,cell_regrown→Iq,redrawn→IA,wp_region_quiet_below→IL
open Go.RowKit.Below renaming refl→Ib
open Nat renaming le_refl→By
open Go.Sort renaming grow→Ip
namespace Go.Proofs.YtfidjlcdlakceaaGreatDoor
open Go.RowKit
theorem Tryz.adu:(Tryz.prog.info? 3).map (λi=>(i.zero,i.size,i.bytes))=Z (Z (O J 0),1,8):=by kernel_rfl
theorem pI{base g c n:Nat}{w:World}{rs:List bE}(h:w.ownsRow base 95 6 (U (Z ⟨g,0,Y⟩) n c) rs.length (eO rs)):mi w g 0 rs:=by
 rcases h.2 with⟨hv,_⟩|⟨g',c',cur,hv,dQ,hg,eC,dj,cM,aO⟩
 .cases hv
 .simp only[IN,Jn,JW,and_true] at hv
  obtain⟨rfl,_,_⟩:=hv;intro j hj;have hc:∀t,t<6->w.cell? ⟨g,0+j*6+t,Y⟩=(rs.getD j dr).cs[t]?:=λt ht=>by
   rw[af hg,<- kZ rs j hj t ht,<- aO,IF (by omega)];simp
  exact⟨hc 0 (by omega),hc 1 (by omega),hc 2 (by omega),hc 3 (by omega),hc 4 (by omega),hc 5 (by omega)⟩
def Kd:List Value->Nat->List Value->List Value
 |xs,_,[]=>xs
 |xs,o,v::r=>Kd (xs.set o v) (o+1) r
theorem nB:∀(vs xs:List Value) (o:Nat),(Kd xs o vs).length=xs.length
 |[],_,_=>rfl
 |v::r,xs,o=>by rw[Kd,nB r,Jb]
theorem nC:∀(vs xs:List Value) (o k:Nat),k<o\/o+vs.length<=k->(Kd xs o vs)[k]?=xs[k]?
 |[],_,_,_,_=>rfl
 |v::r,xs,o,k,h=>by
  simp only[IY] at h;rw[Kd,nC r _ _ k (by omega),List.getElem?_set_ne (by omega)]
theorem DI:∀(vs xs:List Value) (o j:Nat),j<vs.length->o+vs.length<=xs.length->(Kd xs o vs)[o+j]?=vs[j]?
 |[],_,_,_,h,_=>by simp at h
 |v::r,xs,o,0,_,h2=>by
  simp only[IY] at h2;rw[Kd,nC r _ _ _ (by omega)];simp[List.getElem?_set_self (show o<xs.length by omega)]
 |v::r,xs,o,j+1,h,h2=>by
  simp only[IY] at h h2;rw[Kd,show o+(j+1)=(o+1)+j by omega,DI r _ _ j (by omega) (by rw[Jb];omega)];simp
theorem jA{base g n cap:Nat}{e:TypeId}{size:Nat}:∀(vs xs:List Value) (o:Nat) (w:World),w.ownsRow base e size (U (Z ⟨g,0,Y⟩) n cap) n xs->(w.setCells g o vs).ownsRow base e size (U (Z ⟨g,0,Y⟩) n cap) n (Kd xs o vs)
 |[],_,_,_,h=>h
 |v::r,_,o,_,h=>jA r _ _ _ (IW h o v).1
theorem fp{base g:Nat}(hg:base<=g):∀(vs:List Value) (o:Nat) (w0 w:World),Below base w0 w->Below base w0 (w.setCells g o vs)
 |[],_,_,_,h=>h
 |v::r,o,w0,_,h=>fp hg r _ w0 _ (h.setCell (p:=⟨g,o,Y⟩) hg v)
theorem rS{w:World}{base g n m cap:Nat}{e:TypeId}{size:Nat}{xs:List Value}(h:w.ownsRow base e size (U (Z ⟨g,0,Y⟩) n cap) n xs)(hm:m<=n):w.ownsRow base e size (U (Z ⟨g,0,Y⟩) m cap) m (xs.take (m*size)):=by
 obtain⟨h1,h2⟩:=h;have hle:m*size<=n*size:=Nat.mul_le_mul_right _ hm;refine⟨by rw[Iu,h1];omega,?_⟩;rcases h2 with⟨hv,_⟩|⟨g',c',cur,hv,dQ,hg,eC,dj,cM,aO⟩
 .cases hv
 .simp only[IN,Jn,JW,and_true,true_and] at hv
  obtain⟨rfl,rfl⟩:=hv;refine .inr ⟨g,cap,cur,rfl,dQ,hg,by omega,dj,cM,?_⟩;rw[<- aO,List.take_take,Nat.min_eq_left hle]
def zR:List Value:=[I ⟨#[]⟩,O J 0,O J 0,O J 0,AI false,O J 0]
theorem uz{xs ys:List Value}{k:Nat}(hl:k<=xs.length)(hy:ys.length=k)(h:∀j,j<k->xs[j]?=ys[j]?):xs.take k=ys:=by
 apply List.ext_getElem?;intro j;by_cases hj:j<k
 .rw[IF hj,h j hj]
 .rw[IP (by rw[Iu];omega),IP (by omega)]
theorem Bh{rs:List bE}{p n:Nat}(hn:rs.length=n)(hp:p<n):(Kd (Kd (eO rs) (p*6) (eO (rs.drop (p+1)))) ((n-1)*6) zR).take ((n-1)*6)=eO (rs.eraseIdx p):=by
 have hl:(eO rs).length=n*6:=by rw[dO,hn]
 have hd:(eO (rs.drop (p+1))).length=(n-(p+1))*6:=by rw[dO,Jr,hn]
 refine uz (by rw[nB,nB,hl];omega) (by rw[dO,List.length_eraseIdx,if_pos (by omega),hn]) (λj hj=>?_);rw[nC _ _ _ _ (by omega),List.eraseIdx_eq_take_drop_succ,tM];have ht:(eO (rs.take p)).length=p*6:=by rw[dO,Iu,hn];omega
 by_cases hjp:j<p*6
 .rw[nC _ _ _ _ (by omega),List.getElem?_append_left (by omega),<- tN,IF hjp]
 .rw[List.getElem?_append_right (by omega),ht]
  have:=DI (eO (rs.drop (p+1))) (eO rs) (p*6) (j-p*6) (by rw[hd];omega) (by rw[hd,hl];omega);rw[show p*6+(j-p*6)=j by omega] at this;exact this
theorem wN(w:World)(ty:TypeId)(b o c:Nat)(hc:∀j,j<6->(w.cell? ⟨b,o+j,Y⟩).isSome=true)(hf:∀j,j<6->w.frozen? ⟨b,o+j,Y⟩=false) : (Builtin.clear_ #[23] ty #[U (Z ⟨b,o,Y⟩) 1 c]).run be w=.ok (Il #[]) (w.setCells b o zR):=by
 have hzc:(Builtin.zeroCells (Value.agg #[I ⟨#[]⟩,O J 0,O J 0,O J 0,AI false,O J 0]).cells 1).toList=zR:=by kernel_rfl
 have tr:=run_storeCells_cells (P:=be) b o zR 0 w (λj hj=>by simpa using hc j (by simpa[zR] using hj)) (λj hj=>by simpa using hf j (by simpa[zR] using hj)) (by intro v hv;simp[zR] at hv;rcases hv with rfl|rfl|rfl|rfl<;>rfl);simp only[Nat.add_zero] at tr;simp[Builtin.clear_,run_underlying OI,hzc,tr]
theorem DJ(rs:List bE)(n p g c base:Nat)(w:World)(hn:rs.length=n)(ho:cd base w (U (Z ⟨g,0,Y⟩) n c) rs)(hp:p<n)(CK:n<=1000) :
 Calls be 246 #[U (Z ⟨g,0,Y⟩) n c,O J p,O J (p+1)] w λe w'=>e=sh (U (Z ⟨g,0,Y⟩) (n-1) c)/\cd base w' (U (Z ⟨g,0,Y⟩) (n-1) c) (rs.eraseIdx p)/\Below base w w':=by
 obtain⟨i0,ei,bW,cS,iX⟩:=I0 Tryz.xj;have HO:Hid (w.ownsRow base 95 6 (U (Z ⟨g,0,Y⟩) n c) n (eO rs)):=by rw[<- hn];rw[<- hn] at ho;exact ho
 obtain⟨jZ,eC,dj⟩:base<=g/\n<=c/\c<=Ij:=by
  rcases HO.out.2 with⟨hv,_⟩|⟨g',c',cur,hv,dQ,hg,eC,dj,cM,aO⟩
  .cases hv
  .simp only[IN,Jn,JW,and_true,true_and] at hv
   obtain⟨rfl,rfl⟩:=hv;exact⟨dQ,eC,dj⟩
 unfold Ij at dj;have hp0:(0:Int)<=(p:Int)+1:=by omega
 have lP:(p:Int)+1<=(n:Int):=by omega
 have Sk:((p:Int)+1).toNat=p+1:=by omega
 have hic:p<=c:=by omega
 have ej:∀k,k<n*6->w.cell? ⟨g,k,Y⟩=(eO rs)[k]?:=λk hk=>by
  rcases HO.out.2 with⟨hv,_⟩|⟨g',c',cur,hv,dQ,hg,_,_,cM,aO⟩
  .cases hv
  .simp only[IN,Jn,JW,and_true,true_and] at hv
   obtain⟨rfl,rfl⟩:=hv;rw[af hg,<- aO,IF hk,Array.getElem?_toList]
 have oi:(eO rs).length=n*6:=by rw[dO,hn]
 have S1:Hid ((eO (rs.drop (p+1))).length=(n-(p+1))*6):=(show(eO (rs.drop (p+1))).length=_ by rw[dO,Jr,hn]);obtain⟨A,hA,hnews⟩:∃A:Addr,(if c=p+1 then Z (⟨g,0,Y⟩:Addr) else Z ⟨g,(p+1)*6,Y⟩)=Z A/\Hid (∀j u,(eO (rs.drop (p+1)))[j]?=Z u->w.drew.cell? (A.add j)=Z u):=by
  by_cases h:c=p+1
  .refine⟨_,if_pos h,λj u hj=>?_⟩
   have:j<(eO (rs.drop (p+1))).length:=(Jg.1 hj).1
   rw[S1.out] at this;omega
  .refine⟨_,if_neg h,λj u hj=>?_⟩
   have SN:=(Jg.1 hj).1;rw[S1.out] at SN;rw[Addr.add_lit];show w.cell? _=_;rw[ej _ (by omega),<- hj,<- Al,List.getElem?_drop]
 have S2:Hid (∀u∈eO (rs.drop (p+1)),u.oneCell'=true):=EZ _;have S3:Hid (∀j,j<(eO (rs.drop (p+1))).length->(w.drew.cell? ⟨g,0+p*6+j,Y⟩).isSome=true/\w.drew.frozen? ⟨g,0+p*6+j,Y⟩=false):=λj hj=>by
  rw[S1.out] at hj;refine⟨?_,Ja HO.out _⟩;show(w.cell? _).isSome=true;rw[ej _ (by omega),Ic (by omega)];rfl
 have HD:Hid ((w.drew.setCells g (p*6) (eO (rs.drop (p+1)))).ownsRow base 95 6 (U (Z ⟨g,0,Y⟩) n c) n (Kd (eO rs) (p*6) (eO (rs.drop (p+1))))):=jA _ _ _ _ (show w.drew.ownsRow base 95 6 (U (Z ⟨g,0,Y⟩) n c) n (eO rs) from HO.out);have aaR:∀ty,(Builtin.clear_ #[23] ty #[U (Z ⟨g,(p+(n-(p+1)))*6,Y⟩) (n-(p+(n-(p+1)))) (c-(p+(n-(p+1))))]).run be (w.drew.setCells g (p*6) (eO (rs.drop (p+1))))=.ok (Il #[]) ((w.drew.setCells g (p*6) (eO (rs.drop (p+1)))).setCells g ((n-1)*6) zR):=λty=>by
  rw[show p+(n-(p+1))=n-1 by omega,show n-(n-1)=1 by omega];exact wN _ ty g _ _ (λj hj=>by rw[O0 HD.out _ (by omega),Ic (by rw[nB,oi];omega)];rfl) (λj _=>Ja HD.out _)
 have HF:Hid (((w.drew.setCells g (p*6) (eO (rs.drop (p+1)))).setCells g ((n-1)*6) zR).ownsRow base 95 6 (U (Z ⟨g,0,Y⟩) (n-1) c) (n-1) (eO (rs.eraseIdx p))):=by
  have h:=rS (m:=n-1) (jA zR _ ((n-1)*6) _ HD.out) (by omega);rw[Bh hn hp] at h;exact h
 have HL:Hid ((rs.eraseIdx p).length=n-1):=(show(rs.eraseIdx p).length=n-1 by rw[List.length_eraseIdx,if_pos (by omega),hn]);have HBL:Hid (Below base w ((w.drew.setCells g (p*6) (eO (rs.drop (p+1)))).setCells g ((n-1)*6) zR)):=fp jZ _ _ _ _ (fp jZ _ _ _ _ (Ib _ _).drew);have wO:Hid (p+(n-(p+1))=n-1):=(show p+(n-(p+1))=n-1 by omega);clear ho ej;go_enter Tryz.func246,Tryz.ntmps246;go_wp2_with fail;go_region_law (refine step_append_room rfl (.tmp 22) (.tmp 25) 23 rfl 95 i0 6 OI ei cS g 0 p c (by simp[Act.eval,Act.put]) A (n-(p+1)) (c-(p+1)) (eO (rs.drop (p+1))) (by simp[Act.eval,Act.put]) S1.out hnews.out S2.out (by omega) S3.out ?_)
 go_wp2_with fail;go_ret;refine⟨?_,?_,HBL.out⟩
 .have Bi:=wO.out
  simp only[Bi];rfl
 .show World.ownsRow _ _ _ _ _ (rs.eraseIdx p).length _
  rw[HL.out];exact HF.out
end Go.Proofs.YtfidjlcdlakceaaGreatDoor
namespace Go.Proofs.YtfidjlcdlakceaaGreatDoor
open Go.RowKit Go.WideMaps Go.Maps
theorem gT{rs:List bE}(h:ee rs=0):rs.length<=20/\(∀j,j<rs.length->(rs.getD j dr).m.e=0)/\gy rs/\ev rs:=by
 unfold ee at h;by_cases h1:20<rs.length
 .rw[if_pos h1] at h;omega
 rw[if_neg h1] at h;by_cases h2:aV (nR rs)=0
 .rw[if_pos h2] at h
  by_cases h3:gy rs
  .rw[if_pos h3] at h
   by_cases h4:ev rs
   .refine⟨by omega,λj hj=>?_,h3,h4⟩
    have:=tD h2 j (by rw[qp];exact hj)
    rwa [ku] at this
   .rw[if_neg h4] at h;omega
  .rw[if_neg h3] at h;omega
 .rw[if_neg h2] at h;exact absurd h h2
theorem xG{a b:Mem}(ha:a.e=0)(hb:b.e=0)(hn:a.name=b.name):cP a b=0:=by
 have h:aJ [a] [b]=0:=by rw[aJ,jf,jf];simp[ha,hb]
 rw[cP,if_pos h,if_pos hn]
theorem PC(rs:List bE)(v:Value)(m:Mem)(w:World)(hv:mj w v rs)(hm:m.name.size<=Ij)(h0:ee rs=0)(he:m.e=0)(iV:E5 rs m.name)(hl:rs.length=20) :
 Calls be 203 #[v,Im #[I m.name,O J m.state,O J m.aX,O J m.addr,AI m.server]] w λe w'=>e=sh (Il #[U Y 0 0,O J 2])/\Below w.heap.size w w':=by
 obtain⟨i0,ei,bW,fs,eU⟩:=I0 Tryz.xj;have HV:Hid (mj w v rs):=hv;have ji:=λ(w:World) (h:mj w v rs)=>fT rs v w h;rw[h0] at ji;have dj:=λw=>eN m w hm;rw[he] at dj;have HH:Hid _:=E7 iV;clear h0 he hv;obtain⟨nm,st,lf,ad,sv⟩:=m;simp only at *;have lR:Below w.heap.size w (w.alloc (.cells #[I nm,O J st,O J lf,O J ad,AI sv] 70)):=(Ib _ _).alloc (By _) _;go_enter Tryz.func203,Tryz.ntmps203;go_wp2_with fail;refine(ji _ (HV.out.below lR)).mono ?_;rintro e w1 ⟨rfl,al⟩;have c1:∀o,w1.cell? ⟨w.heap.size,o,Y⟩=#[I nm,O J st,O J lf,O J ad,AI sv][o]?:=λo=>by
  rw[al.cell (p:=⟨w.heap.size,o,Y⟩) (by simp)];exact cI rfl
 have aR:Hid _:=lR.trans (al.mono (by simp));have cS:w.heap.size<w1.heap.size:=by have:=al.size;simp at this;omega
 clear al lR ji;go_wp2_with fail;refine(dj _).mono ?_;rintro e w2 ⟨rfl,aC⟩;have c2:∀o,w2.cell? ⟨w.heap.size,o,Y⟩=#[I nm,O J st,O J lf,O J ad,AI sv][o]?:=λo=>by
  rw[aC.cell (p:=⟨w.heap.size,o,Y⟩) (by simp only;omega)];exact c1 o
 have bw:Hid _:=aR.out.trans (aC.mono aR.out.size);have iX:w.heap.size<w2.heap.size:=by have:=aC.size;omega
 clear aC c1 cS aR dj;go_wp2_with fail;refine(fU rs v _ (HV.out.below bw.out) (by omega)).mono ?_;rintro e w3 ⟨v3,rfl,nf,bf⟩;have eB:Hid (cd _ _ _ _):=nf;have c3:w3.cell? ⟨w.heap.size,0,Y⟩=Z (I nm):=by
  rw[bf.cell (p:=⟨w.heap.size,0,Y⟩) (by simp only;omega)];exact c2 0
 have C3:Hid (∀o,w3.cell? ⟨w.heap.size,o,Y⟩=#[I nm,O J st,O J lf,O J ad,AI sv][o]?):=λo=>by
  rw[bf.cell (p:=⟨w.heap.size,o,Y⟩) (by simp only;omega)];exact c2 o
 have da:Hid _:=bw.out.trans (bf.mono bw.out.size);have lN:w.heap.size<w3.heap.size:=by have:=bf.size;omega
 have XR:=bf.size;clear bf nf c2;go_wp2_with fail;go_region_held3 (λw'=>w'.cell? ⟨w.heap.size,0,Y⟩=Z (I nm)) (first|assumption|go_keep) (first|(go_at_call 179;refine(oY rs v _ ((HV.out.below da.out).below (Ib _ _).drew) (by omega)).mono ?_;rintro e w4 ⟨rfl,hown,fa⟩;obtain⟨cq,ia,cA⟩:=o6 hown hm;rw[HH.out] at ia;have EV:(Instr.lookup 223 (.map (Z w3.heap.size)) (I nm) true).run be w4=.ok (Il #[O J cq,AI false]) w4:=ia;clear ia cA hown;have gJ:Hid (Below w3.heap.size w3 w4):=(Ib w3.heap.size w3).drew.trans fa;have hS:w4.cell? ⟨w.heap.size,0,Y⟩=Z (I nm):=((fa.cell (p:=⟨w.heap.size,0,Y⟩) lN).trans c3);clear fa))
 obtain⟨a3,CZ,GB⟩:=eB.out.slice;subst GB;have jE:Hid _:=da.out.trans (gJ.out.mono da.out.size);clear eB C3 gJ da c3 EV;rw[hl];go_wp2_with fail;go_ret2;exact⟨rfl,jE.out⟩
theorem Vg(rs:List bE)(v:Value)(m:Mem)(w:World)(hv:mj w v rs)(hm:m.name.size<=Ij)(h0:ee rs=0)(he:m.e=0)(p:Nat)(hp:p<rs.length)(Bi:(rs.getD p dr).m.name=m.name)(aaS:jG m (rs.getD p dr).m=false) :
 Calls be 203 #[v,Im #[I m.name,O J m.state,O J m.aX,O J m.addr,AI m.server]] w λe w'=>∃v',e=sh (Il #[v',O J 0])/\cd w.heap.size w' v' rs/\Below w.heap.size w w':=by
 obtain⟨i0,ei,bW,fs,eU⟩:=I0 Tryz.xj;have HV:Hid (mj w v rs):=hv;have ji:=λ(w:World) (h:mj w v rs)=>fT rs v w h;rw[h0] at ji;have dj:=λw=>eN m w hm;rw[he] at dj;have HH:Hid (Maps.has (Dm (eS rs) rs.length) (kS m.name)=true):=(qb _ _ _).2 ⟨p,hp,by rw[di];exact Bi⟩;have fw:Hid ((Dm (eS rs) rs.length).atKey (kS m.name) (.lit (.int J 0))=.lit (.int J p)):=Mz _ _ _ _ p hp (by rw[di];exact Bi) (λi hi hk=>by rw[di,<- Bi];exact λe=>(gT h0).2.2.2 p i hi hk e.symm);have yu:=(gT h0).1;have HEP:Hid _:=(gT h0).2.1 p hp;have hnp:(rs.getD p dr).m.name.size<=Ij:=by obtain⟨_,_,_,h,_⟩:=hv;exact h p
 have HN0:Hid _:=xG he HEP.out Bi.symm;clear h0 he hv HEP;obtain⟨nm,st,lf,ad,sv⟩:=m;simp only at *;have lR:Below w.heap.size w (w.alloc (.cells #[I nm,O J st,O J lf,O J ad,AI sv] 70)):=(Ib _ _).alloc (By _) _;go_enter Tryz.func203,Tryz.ntmps203;go_wp2_with fail;refine(ji _ (HV.out.below lR)).mono ?_;rintro e w1 ⟨rfl,al⟩;have c1:∀o,w1.cell? ⟨w.heap.size,o,Y⟩=#[I nm,O J st,O J lf,O J ad,AI sv][o]?:=λo=>by
  rw[al.cell (p:=⟨w.heap.size,o,Y⟩) (by simp)];exact cI rfl
 have aR:Hid _:=lR.trans (al.mono (by simp));have cS:w.heap.size<w1.heap.size:=by have:=al.size;simp at this;omega
 clear al lR ji;go_wp2_with fail;refine(dj _).mono ?_;rintro e w2 ⟨rfl,aC⟩;have c2:∀o,w2.cell? ⟨w.heap.size,o,Y⟩=#[I nm,O J st,O J lf,O J ad,AI sv][o]?:=λo=>by
  rw[aC.cell (p:=⟨w.heap.size,o,Y⟩) (by simp only;omega)];exact c1 o
 have bw:Hid _:=aR.out.trans (aC.mono aR.out.size);have iX:w.heap.size<w2.heap.size:=by have:=aC.size;omega
 clear aC c1 cS aR dj;go_wp2_with fail;refine(fU rs v _ (HV.out.below bw.out) (by omega)).mono ?_;rintro e w3 ⟨v3,rfl,nf,bf⟩;have eB:Hid (cd _ _ _ _):=nf;have c3:w3.cell? ⟨w.heap.size,0,Y⟩=Z (I nm):=by
  rw[bf.cell (p:=⟨w.heap.size,0,Y⟩) (by simp only;omega)];exact c2 0
 have C3:Hid (∀o,w3.cell? ⟨w.heap.size,o,Y⟩=#[I nm,O J st,O J lf,O J ad,AI sv][o]?):=λo=>by
  rw[bf.cell (p:=⟨w.heap.size,o,Y⟩) (by simp only;omega)];exact c2 o
 have da:Hid _:=bw.out.trans (bf.mono bw.out.size);have lN:w.heap.size<w3.heap.size:=by have:=bf.size;omega
 have XR:=bf.size;clear bf nf c2;go_wp2_with fail;go_region_held3 (λw'=>w'.cell? ⟨w.heap.size,0,Y⟩=Z (I nm)) (first|assumption|go_keep) (first|(go_at_call 179;refine(oY rs v _ ((HV.out.below da.out).below (Ib _ _).drew) (by omega)).mono ?_;rintro e w4 ⟨rfl,hown,fa⟩;obtain⟨cq,ia,cA⟩:=o6 hown hm;rw[HH.out] at ia;rw[fw.out] at cA;have hcq:cq=p:=(by simp at cA;exact cA.symm);subst hcq;have EV:(Instr.lookup 223 (.map (Z w3.heap.size)) (I nm) true).run be w4=.ok (Il #[O J p,AI true]) w4:=ia;clear ia cA hown;have gJ:Hid (Below w3.heap.size w3 w4):=(Ib w3.heap.size w3).drew.trans fa;have hS:w4.cell? ⟨w.heap.size,0,Y⟩=Z (I nm):=((fa.cell (p:=⟨w.heap.size,0,Y⟩) lN).trans c3);clear fa))
 obtain⟨a3,CZ,GB⟩:=eB.out.slice;subst GB;have C4:∀o,w4.cell? ⟨w.heap.size,o,Y⟩=#[I nm,O J st,O J lf,O J ad,AI sv][o]?:=λo=>by
  rw[gJ.out.cell (p:=⟨w.heap.size,o,Y⟩) lN];exact C3.out o
 have o7:Hid (cd _ _ _ _):=eB.out.below gJ.out;have jE:Hid _:=da.out.trans (gJ.out.mono da.out.size);have gG:w2.heap.size<=w4.heap.size:=by have:=gJ.out.size;omega
 have HV4:Hid (mj w4 v rs):=HV.out.below jE.out;clear eB C3 gJ da c3 EV HV;obtain⟨pa,ca,pW,_,dL⟩:=HV4.out;subst pW;obtain⟨b,off,Nt,rB,hr⟩:∃b off,pa=Z ⟨b,off,Y⟩/\b<w4.heap.size/\mi w4 b off rs:=by
  rcases dL with h|h
  .rw[h] at hp;simp at hp
  .exact h
 subst Nt;obtain⟨e0,e1,e2,e3,e4,e5⟩:=hr p hp;have hN:=λw=>oB ⟨nm,st,lf,ad,sv⟩ (rs.getD p dr).m w hm hnp;rw[HN0.out,aaS] at hN;simp only[beq_self_eq_true,Bool.true_and] at hN;clear dL hr HV4;generalize(rs.getD p dr)=rp at *;obtain⟨⟨yn,ys,yl,ya,yv⟩,ytd⟩:=rp;simp only at e0 e1 e2 e3 e4 e5 hN Bi;have aaT:=Bi.symm;clear Bi;subst aaT;generalize hN':rs.length=n at *;have HN:Hid _:=hN';clear hN';go_wp2_with fail;have E0:=Iq (C4 0);have E1:=Iq (C4 1);have E2:=Iq (C4 2);have E3:=Iq (C4 3);have E4:=Iq (C4 4);have F0:=Iq e0;have F1:=Iq e1;have F2:=Iq e2;have F3:=Iq e3;have F4:=Iq e4;have cN:∀d os,Calls be 188 #[Im #[I nm,O J st,O J lf,O J ad,AI sv],Im #[I nm,O J ys,O J yl,O J ya,AI yv]] (Ip (IA w4 d) os) λe gO=>e=sh (Il #[AI false,O J 0])/\∃p:Regrown,gO=Ip (IA w4 p.d) p.os:=λd os=>
  Calls.regrown_of ((hN _).mono (by rintro e w' ⟨rfl,hb⟩;exact⟨rfl,hb⟩))
 clear e0 e1 e2 e3 e4 e5 hN;refine IL (by kernel_rfl) (by kernel_rfl) ?_;repeat(quiet_step (exact cN _ _))
 refine bK λdq j8 eR=>?_;clear cN E0 E1 E2 E3 E4 F0 F1 F2 F3 F4;have ny:Hid (cd w.heap.size (Ip (IA w4 dq) j8) (U a3 n CZ) rs):=(o7.out.below eR.out).base (by omega);have kX:Hid _:=jE.out.trans (eR.out.mono jE.out.size);clear o7 eR;go_wp2_with fail;go_ret2;exact⟨_,rfl,ny.out,kX.out⟩
theorem Ke(rs:List bE)(v:Value)(m:Mem)(w:World)(hv:mj w v rs)(hm:m.name.size<=Ij)(h0:ee rs=0)(he:m.e=0)(p:Nat)(hp:p<rs.length)(Bi:(rs.getD p dr).m.name=m.name)(aaS:jG m (rs.getD p dr).m=true) :
 Calls be 203 #[v,Im #[I m.name,O J m.state,O J m.aX,O J m.addr,AI m.server]] w λe w'=>∃v',e=sh (Il #[v',O J 0])/\cd w.heap.size w' v' (rs.eraseIdx p++[⟨m,0⟩])/\Below w.heap.size w w':=by
 obtain⟨i0,ei,bW,fs,eU⟩:=I0 Tryz.xj;have HV:Hid (mj w v rs):=hv;have ji:=λ(w:World) (h:mj w v rs)=>fT rs v w h;rw[h0] at ji;have dj:=λw=>eN m w hm;rw[he] at dj;have HH:Hid (Maps.has (Dm (eS rs) rs.length) (kS m.name)=true):=(qb _ _ _).2 ⟨p,hp,by rw[di];exact Bi⟩;have fw:Hid ((Dm (eS rs) rs.length).atKey (kS m.name) (.lit (.int J 0))=.lit (.int J p)):=Mz _ _ _ _ p hp (by rw[di];exact Bi) (λi hi hk=>by rw[di,<- Bi];exact λe=>(gT h0).2.2.2 p i hi hk e.symm);have yu:=(gT h0).1;have HEP:Hid _:=(gT h0).2.1 p hp;have hnp:(rs.getD p dr).m.name.size<=Ij:=by obtain⟨_,_,_,h,_⟩:=hv;exact h p
 have HN0:Hid _:=xG he HEP.out Bi.symm;clear h0 he hv HEP;obtain⟨nm,st,lf,ad,sv⟩:=m;simp only at *;have lR:Below w.heap.size w (w.alloc (.cells #[I nm,O J st,O J lf,O J ad,AI sv] 70)):=(Ib _ _).alloc (By _) _;go_enter Tryz.func203,Tryz.ntmps203;go_wp2_with fail;refine(ji _ (HV.out.below lR)).mono ?_;rintro e w1 ⟨rfl,al⟩;have c1:∀o,w1.cell? ⟨w.heap.size,o,Y⟩=#[I nm,O J st,O J lf,O J ad,AI sv][o]?:=λo=>by
  rw[al.cell (p:=⟨w.heap.size,o,Y⟩) (by simp)];exact cI rfl
 have aR:Hid _:=lR.trans (al.mono (by simp));have cS:w.heap.size<w1.heap.size:=by have:=al.size;simp at this;omega
 clear al lR ji;go_wp2_with fail;refine(dj _).mono ?_;rintro e w2 ⟨rfl,aC⟩;have c2:∀o,w2.cell? ⟨w.heap.size,o,Y⟩=#[I nm,O J st,O J lf,O J ad,AI sv][o]?:=λo=>by
  rw[aC.cell (p:=⟨w.heap.size,o,Y⟩) (by simp only;omega)];exact c1 o
 have bw:Hid _:=aR.out.trans (aC.mono aR.out.size);have iX:w.heap.size<w2.heap.size:=by have:=aC.size;omega
 clear aC c1 cS aR dj;go_wp2_with fail;refine(fU rs v _ (HV.out.below bw.out) (by omega)).mono ?_;rintro e w3 ⟨v3,rfl,nf,bf⟩;have eB:Hid (cd _ _ _ _):=nf;have c3:w3.cell? ⟨w.heap.size,0,Y⟩=Z (I nm):=by
  rw[bf.cell (p:=⟨w.heap.size,0,Y⟩) (by simp only;omega)];exact c2 0
 have C3:Hid (∀o,w3.cell? ⟨w.heap.size,o,Y⟩=#[I nm,O J st,O J lf,O J ad,AI sv][o]?):=λo=>by
  rw[bf.cell (p:=⟨w.heap.size,o,Y⟩) (by simp only;omega)];exact c2 o
 have da:Hid _:=bw.out.trans (bf.mono bw.out.size);have lN:w.heap.size<w3.heap.size:=by have:=bf.size;omega
 have XR:=bf.size;clear bf nf c2;go_wp2_with fail;go_region_held3 (λw'=>w'.cell? ⟨w.heap.size,0,Y⟩=Z (I nm)) (first|assumption|go_keep) (first|(go_at_call 179;refine(oY rs v _ ((HV.out.below da.out).below (Ib _ _).drew) (by omega)).mono ?_;rintro e w4 ⟨rfl,hown,fa⟩;obtain⟨cq,ia,cA⟩:=o6 hown hm;rw[HH.out] at ia;rw[fw.out] at cA;have hcq:cq=p:=(by simp at cA;exact cA.symm);subst hcq;have EV:(Instr.lookup 223 (.map (Z w3.heap.size)) (I nm) true).run be w4=.ok (Il #[O J p,AI true]) w4:=ia;clear ia cA hown;have gJ:Hid (Below w3.heap.size w3 w4):=(Ib w3.heap.size w3).drew.trans fa;have hS:w4.cell? ⟨w.heap.size,0,Y⟩=Z (I nm):=((fa.cell (p:=⟨w.heap.size,0,Y⟩) lN).trans c3);clear fa))
 obtain⟨a3,CZ,GB⟩:=eB.out.slice;subst GB;have C4:∀o,w4.cell? ⟨w.heap.size,o,Y⟩=#[I nm,O J st,O J lf,O J ad,AI sv][o]?:=λo=>by
  rw[gJ.out.cell (p:=⟨w.heap.size,o,Y⟩) lN];exact C3.out o
 have o7:Hid (cd _ _ _ _):=eB.out.below gJ.out;have jE:Hid _:=da.out.trans (gJ.out.mono da.out.size);have gG:w2.heap.size<=w4.heap.size:=by have:=gJ.out.size;omega
 have HV4:Hid (mj w4 v rs):=HV.out.below jE.out;clear eB C3 gJ da c3 EV HV;obtain⟨pa,ca,pW,_,dL⟩:=HV4.out;subst pW;obtain⟨b,off,Nt,rB,hr⟩:∃b off,pa=Z ⟨b,off,Y⟩/\b<w4.heap.size/\mi w4 b off rs:=by
  rcases dL with h|h
  .rw[h] at hp;simp at hp
  .exact h
 subst Nt;obtain⟨e0,e1,e2,e3,e4,e5⟩:=hr p hp;have hN:=λw=>oB ⟨nm,st,lf,ad,sv⟩ (rs.getD p dr).m w hm hnp;rw[HN0.out,aaS] at hN;simp only[beq_self_eq_true,Bool.true_and] at hN;clear dL hr HV4;generalize(rs.getD p dr)=rp at *;obtain⟨⟨yn,ys,yl,ya,yv⟩,ytd⟩:=rp;simp only at e0 e1 e2 e3 e4 e5 hN Bi;have aaT:=Bi.symm;clear Bi;subst aaT;generalize hN':rs.length=n at *;have HN:Hid _:=hN';clear hN';go_wp2_with fail;have E0:=Iq (C4 0);have E1:=Iq (C4 1);have E2:=Iq (C4 2);have E3:=Iq (C4 3);have E4:=Iq (C4 4);have F0:=Iq e0;have F1:=Iq e1;have F2:=Iq e2;have F3:=Iq e3;have F4:=Iq e4;have cN:∀d os,Calls be 188 #[Im #[I nm,O J st,O J lf,O J ad,AI sv],Im #[I nm,O J ys,O J yl,O J ya,AI yv]] (Ip (IA w4 d) os) λe gO=>e=sh (Il #[AI true,O J 0])/\∃p:Regrown,gO=Ip (IA w4 p.d) p.os:=λd os=>
  Calls.regrown_of ((hN _).mono (by rintro e w' ⟨rfl,hb⟩;exact⟨rfl,hb⟩))
 clear e0 e1 e2 e3 e4 e5 hN;refine IL (by kernel_rfl) (by kernel_rfl) ?_;repeat(quiet_step (exact cN _ _))
 refine bK λdq j8 eR=>?_;clear cN E0 E1 E2 E3 E4 F0 F1 F2 F3 F4;have yI:Hid _:=HN;obtain⟨g,c,ha3,hc3⟩:∃g c,a3=Z ⟨g,0,Y⟩/\CZ=c:=by
  rcases o7.out.2 with⟨_,h0⟩|⟨g,c,cur,h,_⟩
  .have:=HN.out;omega
  .simp only[IN] at h
   exact⟨g,c,h.1,h.2.2⟩
 subst ha3;subst hc3;have ny:Hid (cd _ _ _ _):=o7.out.below eR.out;have kX:Hid _:=jE.out.trans (eR.out.mono jE.out.size);have C6:∀o,(Ip (IA w4 dq) j8).cell? ⟨w.heap.size,o,Y⟩=#[I nm,O J st,O J lf,O J ad,AI sv][o]?:=λo=>by
  rw[eR.out.cell (p:=⟨w.heap.size,o,Y⟩) (by simp only;omega)];exact C4 o
 have tX:w2.heap.size<=(Ip (IA w4 dq) j8).heap.size:=by have:=eR.out.size;omega
 clear o7 eR C4;generalize Ip (IA w4 dq) j8=w6 at *;go_wp2_with fail;refine(DJ rs n p g CZ w2.heap.size _ HN.out ny.out hp (by omega)).mono ?_;rintro e w7 ⟨rfl,ho7,wG⟩;have C7:∀o,w7.cell? ⟨w.heap.size,o,Y⟩=#[I nm,O J st,O J lf,O J ad,AI sv][o]?:=λo=>by
  rw[wG.cell (p:=⟨w.heap.size,o,Y⟩) (by simp only;omega)];exact C6 o
 have zS:Hid _:=kX.out.trans (wG.mono (by omega));have Cw:w2.heap.size<=w7.heap.size:=by have:=wG.size;omega
 have HLE:Hid ((rs.eraseIdx p).length=n-1):=(show(rs.eraseIdx p).length=n-1 by rw[List.length_eraseIdx,if_pos (by rw[HN.out];exact hp),HN.out]);have HO8:Hid (∀ob,(w7.alloc ob).ownsRow w2.heap.size 95 6 (U (Z ⟨g,0,Y⟩) (n-1) CZ) (n-1) (eO (rs.eraseIdx p))):=λob=>by
  have h:=cd.below (ms:=rs.eraseIdx p) ho7 ((Ib _ _).alloc (By _) ob);have h2:(w7.alloc ob).ownsRow w2.heap.size 95 6 (U (Z ⟨g,0,Y⟩) (n-1) CZ) (rs.eraseIdx p).length (eO (rs.eraseIdx p)):=h;rw[HLE.out] at h2;exact h2
 have E9:Hid (∀k,(Value.slice (Z ⟨g,0,Y⟩) (n-1) CZ).ownBlock=Z k->w.heap.size<=k):=λk hk=>by have:=(cd.lt (ms:=rs.eraseIdx p) ho7 k hk).1;omega
 have HSN:Hid (∀(w':World) (v':Value),w'.ownsRow w2.heap.size 95 6 v' (n-1+1) (eO (rs.eraseIdx p)++(bE.mk ⟨nm,st,lf,ad,sv⟩ 0).cs)->cd w.heap.size w' v' (rs.eraseIdx p++[⟨⟨nm,st,lf,ad,sv⟩,0⟩])):=λw' v' h=>(xi (by rw[HLE.out];exact h)).base (by omega);have anv:n-1<=19:=by omega
 clear wG ho7 C6 kX ny HLE;generalize hn1:n-1=n1 at *;clear hn1;go_wp2_with (at_builtin;refine wpList_append_own _ rfl _ _ 23 rfl w2.heap.size 95 i0 _ 6 56 OI ei bW fs eU rfl (by omega) _ n1 (eO (rs.eraseIdx p)) rfl ?hown ⟨w7.heap.size,0,Y⟩ 1 1 (bE.mk ⟨nm,st,lf,ad,sv⟩ 0).cs rfl rfl ?hnews (yy _) ?h63 ?hbytes ?hbase ?_)
 case hown=>exact HO8.out _
 case hnews=>(intro j u hj;rw[Addr.add_lit];exact(cI (by simp)).trans (by simpa[bE.cs] using hj))
 case h63=>(unfold Ij;omega)
 case hbytes=>omega
 case hbase=>(simp;omega)
 intro v' w8 r1 r2 r3;have R1:Hid (cd _ _ _ _):=HSN.out w8 v' r1;have R2:Hid _:=(zS.out.alloc zS.out.size _).grown r2 (by have:=zS.out.size;simp;omega) (λk hk=>E9.out k hk);clear r1 r2 r3;go_wp2_with fail;go_ret2;exact⟨v',rfl,R1.out,R2.out⟩
end Go.Proofs.YtfidjlcdlakceaaGreatDoor
