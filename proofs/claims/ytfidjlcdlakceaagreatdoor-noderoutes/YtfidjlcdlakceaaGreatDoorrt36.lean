import Derived.Test.YtfidjlcdlakceaaGreatDoorrt28
set_option maxHeartbeats 6400000
set_option maxRecDepth 100000
open List renaming length_set→Jc,getD→Io,getElem?_eq_none→IK,take_succ_eq_append_getElem→Iw,getElem?_eq_getElem→Ic,filter_append→JL,length_take→IA,append_nil→Q9,getElem?_take_of_lt→IL
open Go.Value renaming int→O,string→I,bool→AT,pointer→Ig,slice→U
open Go.IntKind renaming i64→J
open Option renaming none→Y,some→Z
open Go.Proofs.Tryz renaming prog→be
open Go.World renaming block_lt_of_cell?→IE,ownsRow→Qt
open Nat renaming le_refl→By,zero_add→I3
open Go.Builtin renaming zeroCells→QP,clear_→QU
namespace Go.Proofs.YtfidjlcdlakceaaGreatDoor
open Go.RowKit
theorem Re{rs:List bu}{p:Nat}(hp:p<rs.length)(r:bu):Fs (ez rs) (p*6) r.cs=ez (rs.set p r):=by
 apply List.ext_getElem?;intro k;by_cases hk:k<rs.length*6
 .have h2:=kl (rs.set p r) (k/6) (by rw[Jc];omega) (k%6) (by omega)
  rw[show k/6*6+k%6=k by omega] at h2;rw[h2];by_cases jZ:k/6=p
  .rw[show(rs.set p r).getD (k/6) dr=r by rw[jZ];simp[Io,List.getElem?_set_self hp]]
   have h3:=Bu r.cs (ez rs) (p*6) (k%6) (by rw[iw];omega) (by rw[iw,dy];omega);rw[show p*6+k%6=k by omega] at h3;exact h3
  .rw[show(rs.set p r).getD (k/6) dr=rs.getD (k/6) dr by simp[Io,List.getElem?_set_ne (Ne.symm jZ)]]
   rw[mu _ _ _ _ (by rw[iw];omega)];have h4:=kl rs (k/6) (by omega) (k%6) (by omega);rw[show k/6*6+k%6=k by omega] at h4;exact h4
 .rw[IK (by rw[mr,dy];omega),IK (by rw[dy,Jc];omega)]
def dW(times:Int)(r:bu):Bool:=decide (r.told<times)
theorem vQ(r:bu)(tb:Nat)(times:Int)(w:World)(ht:w.cell? ⟨tb,0,Y⟩=Z (O J times)) :
 Calls be 162 #[.agg #[I r.m.name,O J r.m.state,O J r.m.aP,O J r.m.addr,AT r.m.server,O J r.told],Ig (Z ⟨tb,0,Y⟩)] w λe w'=>e=.returned (AT (!dW times r))/\w'=w.alloc (.cells #[I r.m.name,O J r.m.state,O J r.m.aP,O J r.m.addr,AT r.m.server,O J r.told] 95):=by
 have hb:=IE w _ ht;have Af:∀ob,(w.alloc ob).cell? ⟨tb,0,Y⟩=Z (O J times):=λob=>by
  rw[((Below.refl w.heap.size w).alloc (By _) ob).cell (p:=⟨tb,0,Y⟩) hb];exact ht
 go_enter Tryz.func162,Tryz.ntmps162;go_wp2_with fail;go_ret;refine⟨az ?_,rfl⟩;unfold dW;by_cases h:r.told<times
 .rw[decide_eq_true h];simp;omega
 .rw[decide_eq_false h];simp;omega
theorem uJ(rs:List bu)(n b off c tb:Nat)(times:Int)(w:World)(hn:rs.length=n)(Aw:n<=1000)(hr:iX w b off rs)(hb:n≠0->b<w.heap.size)(ht:w.cell? ⟨tb,0,Y⟩=Z (O J times)) :
 Calls be 187 #[U (Z ⟨b,off,Y⟩) n c,.func (.func 162) #[] #[Ig (Z ⟨tb,0,Y⟩)]] w λe w'=>
  ((e=.returned (O J (-1))/\∀j,j<n->dW times (rs.getD j dr)=true)\/(∃i:Nat,i<n/\e=.returned (O J i)/\(∀j,j<i->dW times (rs.getD j dr)=true)/\dW times (rs.getD i dr)=false))/\Below w.heap.size w w':=by
 have HR:Hid (iX w b off rs):=hr;have HN:Hid _:=hn;have HT:Hid _:=ht;have Pt:=IE w _ ht;have Nl:Hid _:=hb;clear hr hn ht hb;go_enter Tryz.func187,Tryz.ntmps187;go_wp2_with fail;go_loopw [8] (λi wr=>∃k:Nat,k<=n/\i=O J k/\Hid (∀j,j<k->dW times (rs.getD j dr)=true)/\Hid (Below w.heap.size w wr)) (λi _=>n-(intOf i).toNat)
 case atStart=>exact⟨0,Nat.zero_le _,rfl,λj hj=>by omega,Below.refl _ _⟩
 case round=>
  obtain⟨k,hk,rfl,HZ,HB⟩:=hrel;by_cases aB:k<n
  .obtain⟨c0,c1,c2,c3,c4,c5⟩:=HR.out.below HB.out (Nl.out (by omega)) k (by rw[HN.out];exact aB)
   have Af:wr.cell? ⟨tb,0,Y⟩=Z (O J times):=by rw[HB.out.cell (p:=⟨tb,0,Y⟩) Pt];exact HT.out
   have fm:Hid (dW times (rs.getD k dr)=true->∀j,j<k+1->dW times (rs.getD j dr)=true):=λh j hj=>by
    by_cases e:j=k
    .subst e;exact h
    .exact HZ.out j (by omega)
   have hF:=λw h=>vQ (rs.getD k dr) tb times w h;rcases jZ:dW times (rs.getD k dr) with _|_
   .rw[jZ] at hF
    have HKP:Hid _:=jZ;clear jZ fm;generalize hrk:rs.getD k dr=rk at *;have HRK:Hid _:=hrk;clear hrk;obtain⟨⟨nm,st,lf,ad,sv⟩,td⟩:=rk;simp only at c0 c1 c2 c3 c4 c5 hF;go_wp2_with fail;refine(hF _ Af).mono ?_;rintro e w1 ⟨rfl,rfl⟩;go_wp2_with fail;go_ret;exact⟨.inr ⟨k,aB,rfl,HZ.out,by rw[HRK.out];exact HKP.out⟩,HB.out.alloc HB.out.size _⟩
   .rw[jZ] at hF
    have jM:Hid _:=fm.out jZ;clear jZ fm HZ;generalize(rs.getD k dr)=rk at *;obtain⟨⟨nm,st,lf,ad,sv⟩,td⟩:=rk;simp only at c0 c1 c2 c3 c4 c5 hF;go_wp2_with fail;refine(hF _ Af).mono ?_;rintro e w1 ⟨rfl,rfl⟩;go_wp2_with fail;go_roundw
    case rel=>exact⟨k+1,by omega,by go_num,jM,HB.out.alloc HB.out.size _⟩
    case measure=>simp[intOf];omega
  .have jM:Hid (∀j,j<n->dW times (rs.getD j dr)=true):=λj hj=>HZ.out j (by omega)
   clear HZ;go_wp2_with fail;go_ret;exact⟨.inl ⟨rfl,jM.out⟩,HB.out⟩
def Hd(m:Nat):List Value:=(QP #[I ⟨#[]⟩,O J 0,O J 0,O J 0,AT false,O J 0] m).toList
theorem Df(m:Nat):(Hd m).length=m*6:=by simp[Hd,QP]
theorem Rf(m:Nat):∀v∈Hd m,v.oneCell'=true:=by
 intro v hv;simp only[Hd,QP,Array.toList_map,List.mem_map] at hv;obtain⟨i,_,rfl⟩:=hv;have h:i%6<6:=Nat.mod_lt _ (by decide);show Value.oneCell' (#[Value.string ⟨#[]⟩,O J 0,O J 0,O J 0,AT false,O J 0][i%6]!)=true;generalize i%6=k at h
 match k,h with
 |0,_=>rfl
 |1,_=>rfl
 |2,_=>rfl
 |3,_=>rfl
 |4,_=>rfl
 |5,_=>rfl
theorem tE(w:World)(ty:TypeId)(b o m c:Nat)(hm:0<m)(hc:∀j,j<m*6->(w.cell? ⟨b,o+j,Y⟩).isSome=true)(hf:∀j,j<m*6->w.frozen? ⟨b,o+j,Y⟩=false) : (QU #[23] ty #[U (Z ⟨b,o,Y⟩) m c]).run be w=.ok (.tuple #[]) (w.setCells b o (Hd m)):=by
 have rX:=run_storeCells_cells (P:=be) b o (Hd m) 0 w (λj hj=>by simpa using hc j (by rw[Df] at hj;exact hj)) (λj hj=>by simpa using hf j (by rw[Df] at hj;exact hj)) (Rf m);simp only[Nat.add_zero] at rX;have hzc:(QP (Value.agg #[I ⟨#[]⟩,O J 0,O J 0,O J 0,AT false,O J 0]).cells m).toList=Hd m:=rfl;obtain⟨k,rfl⟩:∃k,m=k+1:=⟨m-1,by omega⟩;simp[QU,run_underlying Tryz.underlying23,hzc,rX]
theorem BP{times:Int}{r:bu}(h:dW times r=true):[r].filter (dW times)=[r]:=by simp[h]
theorem vR{times:Int}{r:bu}(h:dW times r=false):[r].filter (dW times)=[]:=by simp[h]
structure Dg(rs cur:List bu)(times:Int)(i j:Nat):Prop where
 len:cur.length=rs.length
 head:cur.take i=(rs.take j).filter (dW times)
 tail:cur.drop j=rs.drop j
theorem Dg.keep{rs cur:List bu}{times:Int}{i j:Nat}(h:Dg rs cur times i j)(kR:i<j)(hj:j<rs.length)(hk:dW times (rs.getD j dr)=true):Dg rs (cur.set i (rs.getD j dr)) times (i+1) (j+1):=by
 have hs:rs.take (j+1)=rs.take j++[rs.getD j dr]:=by rw[Iw hj];simp[Io,Ic hj]
 have hi:i<cur.length:=by rw[h.len];omega
 refine⟨by rw[Jc];exact h.len,?_,?_⟩
 .rw[hs,JL,<- h.head,Iw (by rw[Jc];exact hi),List.getElem_set_self,List.take_set,List.set_eq_of_length_le (by rw[IA];omega),BP hk]
 .rw[List.drop_set_of_lt (by omega)]
  have:=congrArg (List.drop 1) h.tail
  rwa [List.drop_drop,List.drop_drop] at this
theorem Dg.skip{rs cur:List bu}{times:Int}{i j:Nat}(h:Dg rs cur times i j)(hj:j<rs.length)(hk:dW times (rs.getD j dr)=false):Dg rs cur times i (j+1):=by
 have hs:rs.take (j+1)=rs.take j++[rs.getD j dr]:=by rw[Iw hj];simp[Io,Ic hj]
 refine⟨h.len,?_,?_⟩
 .rw[hs,JL,<- h.head,vR hk,Q9]
 .have:=congrArg (List.drop 1) h.tail
  rwa [List.drop_drop,List.drop_drop] at this
theorem Dg.get{rs cur:List bu}{times:Int}{i j:Nat}(h:Dg rs cur times i j):cur.getD j dr=rs.getD j dr:=by
 have:=congrArg (λl:List bu=>l[0]?.getD dr) h.tail;simpa[Io,List.getElem?_drop] using this
theorem filter_all{times:Int}{rs:List bu}(h:∀j,j<rs.length->dW times (rs.getD j dr)=true):rs.filter (dW times)=rs:=by
 rw[List.filter_eq_self];intro r hr;obtain⟨j,hj,rfl⟩:=List.getElem_of_mem hr;have:=h j hj
 rwa [show rs.getD j dr=rs[j] by simp[Io,Ic hj]] at this
theorem Dg.start{rs:List bu}{times:Int}{i:Nat}(hi:i<rs.length)(h1:∀j,j<i->dW times (rs.getD j dr)=true)(h2:dW times (rs.getD i dr)=false):Dg rs rs times i (i+1):=by
 have hs:rs.take (i+1)=rs.take i++[rs.getD i dr]:=by rw[Iw hi];simp[Io,Ic hi]
 refine⟨rfl,?_,rfl⟩;rw[hs,JL,filter_all (rs:=rs.take i) (λj hj=>by
  have hji:j<i:=by rw[IA] at hj;omega
  have:=h1 j hji
  rwa [show(rs.take i).getD j dr=rs.getD j dr by simp[Io,IL hji]]),vR h2,Q9]
def qw(g:Nat)(w w':World):Prop:=w.heap.size<=w'.heap.size/\∀k,k<w.heap.size->k≠g->w'.heap[k]?=w.heap[k]?
theorem qw.trans{g:Nat}{a b c:World}(h:qw g a b)(k:qw g b c):qw g a c:=⟨Nat.le_trans h.1 k.1,λj hj hg=>(k.2 j (Nat.lt_of_lt_of_le hj h.1) hg).trans (h.2 j hj hg)⟩
theorem qw.of{g:Nat}{w w':World}(h:Below w.heap.size w w'):qw g w w':=⟨h.size,λk hk _=>h.block k hk⟩
theorem qw.setCell{g:Nat}{w w':World}(h:qw g w w')(o:Nat)(v:Value):qw g w (w'.setCell ⟨g,o,Y⟩ v):=by
 refine⟨by simpa using h.1,λk hk hg=>?_⟩;have e:(w'.setCell ⟨g,o,Y⟩ v).heap[k]?=w'.heap[k]?:=by
  simp only[World.setCell,Array.getElem?_modify];rw[if_neg (Ne.symm hg)]
 rw[e];exact h.2 k hk hg
theorem qw.setCells{g:Nat}:∀(vs:List Value) (o:Nat) (w w':World),qw g w w'->qw g w (w'.setCells g o vs)
 |[],_,_,_,h=>h
 |v::r,o,w,_,h=>qw.setCells r (o+1) w _ (h.setCell o v)
theorem tF(rs:List bu)(n g c tb base:Nat)(times:Int)(w:World)(hn:rs.length=n)(Aw:n<=1000)(ho:bX base w (U (Z ⟨g,0,Y⟩) n c) rs)(hbase:base<=w.heap.size)(Pt:tb<base)(ht:w.cell? ⟨tb,0,Y⟩=Z (O J times)) :
 Calls be 161 #[U (Z ⟨g,0,Y⟩) n c,.func (.func 162) #[] #[Ig (Z ⟨tb,0,Y⟩)]] w λe w'=>∃m,e=.returned (U (Z ⟨g,0,Y⟩) m c)/\bX base w' (U (Z ⟨g,0,Y⟩) m c) (rs.filter (dW times))/\Below base w w'/\qw g w w':=by
 have HO:Hid (bX _ _ _ _):=ho;have HN:Hid _:=hn;have HT:Hid _:=ht;obtain⟨oU,hgh⟩:=HO.out.lt g rfl;obtain⟨fa,dO⟩:n<=c/\c<=maxLen:=by
  rcases HO.out.2 with⟨hv,_⟩|⟨g',c',cur,hv,dN,hg,fa,dO,cJ,aV⟩
  .cases hv
  .simp only[Value.slice.injEq,Option.some.injEq,Addr.mk.injEq,and_true] at hv
   obtain⟨rfl,rfl,rfl⟩:=hv;exact⟨by omega,dO⟩
 unfold maxLen at dO;clear ho hn ht;go_enter Tryz.func161,Tryz.ntmps161;go_wp2_with fail;refine(uJ rs n g 0 c tb times _ HN.out Aw (oy HO.out) (λ_=>hgh) HT.out).mono ?_;rintro e w1 ⟨⟨rfl,cX⟩|⟨i0,eP,rfl,MT,MU⟩,an⟩
 .have HF:Hid _:=filter_all (λj hj=>cX j (by rw[HN.out] at hj;exact hj))
  have lT:Hid (bX _ _ _ _):=HO.out.below an;have aK:Hid (Below base w w1):=an.mono hbase;have A5:Hid (qw g w w1):=qw.of an;clear cX an;go_wp2_with fail;go_ret;exact⟨n,rfl,by rw[HF.out];exact lT.out,aK.out,A5.out⟩
 .have lT:Hid (bX base w1 (U (Z ⟨g,0,Y⟩) n c) rs):=HO.out.below an
  have aK:Hid (Below base w w1):=an.mono hbase;have CO:Hid (Dg rs rs times i0 (i0+1)):=Dg.start (by rw[HN.out];exact eP) MT MU;have A5:Hid (qw g w w1):=qw.of an;clear MT MU an;go_wp2_with fail;go_loopw [5,6] (λx y wr=>∃(i j:Nat) (cur:List bu),i<j/\j<=n/\x=O J i/\y=O J j/\Hid (Dg rs cur times i j)/\Hid (bX base wr (U (Z ⟨g,0,Y⟩) n c) cur)/\Hid (Below base w wr)/\Hid (qw g w wr)) (λ_ y _=>n-(intOf y).toNat)
  case atStart=>exact⟨i0,i0+1,rs,by omega,by omega,rfl,by go_num,CO,lT,aK,A5⟩
  case round=>
   clear lT aK CO A5;obtain⟨i,j,cur,kR,hj,rfl,rfl,HC,Mk,HB,A5⟩:=hrel;have bb:base<=wr.heap.size:=by have:=HB.out.size;omega
   have mA:g<wr.heap.size:=(Mk.out.lt g rfl).2;have MY:cur.length=n:=by rw[HC.out.len,HN.out]
   by_cases aB:j<n
   .obtain⟨c0,c1,c2,c3,c4,c5⟩:=oy Mk.out j (by rw[MY];exact aB)
    rw[HC.out.get] at c0 c1 c2 c3 c4 c5;have Af:∀ob,(wr.alloc ob).cell? ⟨tb,0,Y⟩=Z (O J times):=λob=>by
     rw[((Below.refl wr.heap.size wr).alloc (By _) ob).cell (p:=⟨tb,0,Y⟩) (by simp only;omega),HB.out.cell (p:=⟨tb,0,Y⟩) Pt];exact HT.out
    have hF:=λw h=>vQ (rs.getD j dr) tb times w h;simp only[I3] at c0 c1 c2 c3 c4 c5;rcases jZ:dW times (rs.getD j dr) with _|_
    .have HC2:Hid (Dg rs cur times i (j+1)):=HC.out.skip (by rw[HN.out];exact aB) jZ
     rw[jZ] at hF;clear jZ HC;generalize(rs.getD j dr)=rk at *;obtain⟨⟨nm,st,lf,ad,sv⟩,td⟩:=rk;simp only at c0 c1 c2 c3 c4 c5 hF;go_wp2_with fail;refine(hF _ (Af _)).mono ?_;rintro e w2 ⟨rfl,rfl⟩;have aD:Below wr.heap.size wr ((wr.alloc (.cells #[I nm,O J st,O J lf,O J ad,AT sv,O J td] 95)).alloc (.cells #[I nm,O J st,O J lf,O J ad,AT sv,O J td] 95)):=((Below.refl _ _).alloc (By _) _).alloc (by simp) _;have jF:=Mk.out.below aD;have gI:Hid (bX _ _ _ _):=jF;have cT:Hid _:=HB.out.trans (aD.mono bb);have xv:Hid (qw _ _ _):=A5.out.trans (qw.of aD);clear aD jF;go_wp2_with fail;refine⟨⟨_,_,_,_,_,_,_,_,_,_,_,_,_,_,_,_,_,_,_,_,_,_,_,⟨i,j+1,cur,by omega,by omega,rfl,by go_num,HC2,gI,cT,xv⟩,rfl⟩,?_⟩;simp[intOf];omega
    .have HC2:Hid _:=HC.out.keep kR (by rw[HN.out];exact aB) jZ
     rw[jZ] at hF;have iz:∀o,wr.frozen? ⟨g,o,Y⟩=false:=λo=>World.ownsRow.frozenAt (n:=n) (xs:=ez cur) (by have h:=Mk.out;have h2:wr.ownsRow base 95 6 (U (Z ⟨g,0,Y⟩) n c) cur.length (ez cur):=h;rw[MY] at h2;exact h2) o;obtain⟨d0,d1,d2,d3,d4,d5⟩:=oy Mk.out i (by rw[MY];omega);simp only[I3] at d0 d1 d2 d3 d4 d5;clear jZ HC;generalize(rs.getD j dr)=rk at *;obtain⟨⟨nm,st,lf,ad,sv⟩,td⟩:=rk;simp only at c0 c1 c2 c3 c4 c5 hF;have hOS:(wr.setCells g (i*6) (bu.mk ⟨nm,st,lf,ad,sv⟩ td).cs).ownsRow base 95 6 (U (Z ⟨g,0,Y⟩) n c) n (ez (cur.set i ⟨⟨nm,st,lf,ad,sv⟩,td⟩)):=by
      have h2:wr.ownsRow base 95 6 (U (Z ⟨g,0,Y⟩) n c) cur.length (ez cur):=Mk.out;rw[MY] at h2;have h3:=iP (bu.mk ⟨nm,st,lf,ad,sv⟩ td).cs _ (i*6) _ h2
      rwa [Re (by rw[MY];omega)] at h3
     have HOS:Hid (bX base (wr.setCells g (i*6) (bu.mk ⟨nm,st,lf,ad,sv⟩ td).cs) (U (Z ⟨g,0,Y⟩) n c) (cur.set i ⟨⟨nm,st,lf,ad,sv⟩,td⟩)):=(show Qt _ _ _ _ _ (cur.set i ⟨⟨nm,st,lf,ad,sv⟩,td⟩).length _ by rw[Jc,MY];exact hOS);have HFS:Hid (qw g w (wr.setCells g (i*6) (bu.mk ⟨nm,st,lf,ad,sv⟩ td).cs)):=qw.setCells _ _ _ _ A5.out;have HBS:Hid (Below base w (wr.setCells g (i*6) (bu.mk ⟨nm,st,lf,ad,sv⟩ td).cs)):=eM oU _ _ _ _ HB.out;clear hOS;go_wp2_with fail;refine(hF _ (Af _)).mono ?_;rintro e w2 ⟨rfl,rfl⟩;go_wp2_with fail;have hbz:Below (wr.setCells g (i*6) (bu.mk ⟨nm,st,lf,ad,sv⟩ td).cs).heap.size (wr.setCells g (i*6) (bu.mk ⟨nm,st,lf,ad,sv⟩ td).cs) (((wr.setCells g (i*6) (bu.mk ⟨nm,st,lf,ad,sv⟩ td).cs).alloc (.cells #[I nm,O J st,O J lf,O J ad,AT sv,O J td] 95)).alloc (.cells #[I nm,O J st,O J lf,O J ad,AT sv,O J td] 95)):=((Below.refl _ _).alloc (By _) _).alloc (by simp) _;refine⟨⟨_,_,_,_,_,_,_,_,_,_,_,_,_,_,_,_,_,_,_,_,_,_,_,⟨i+1,j+1,cur.set i ⟨⟨nm,st,lf,ad,sv⟩,td⟩,by omega,by omega,by go_num,by go_num,HC2,HOS.out.below hbz,HBS.out.trans (hbz.mono (by have:=HBS.out.size;omega)),HFS.out.trans (qw.of hbz)⟩,rfl⟩,?_⟩;simp[intOf];omega
   .have RX:j=n:=by omega
    subst RX;have HR:Hid (cur.take i=rs.filter (dW times)):=by
     have h:=HC.out.head;rw[show rs.take j=rs by rw[<- HN.out];exact List.take_length] at h;exact h
    have hOW:wr.ownsRow base 95 6 (U (Z ⟨g,0,Y⟩) j c) j (ez cur):=by
     have h2:wr.ownsRow base 95 6 (U (Z ⟨g,0,Y⟩) j c) cur.length (ez cur):=Mk.out;rw[MY] at h2;exact h2
    have VQ:∀ty,(QU #[23] ty #[U (Z ⟨g,i*6,Y⟩) (j-i) (c-i)]).run be wr=.ok (.tuple #[]) (wr.setCells g (i*6) (Hd (j-i))):=λty=>
     tE _ ty g _ _ _ (by omega) (λk hk=>by rw[World.ownsRow.cellAt hOW _ (by omega),Ic (by rw[dy,MY];omega)];rfl) (λk _=>World.ownsRow.frozenAt hOW _)
    have HF:Hid ((wr.setCells g (i*6) (Hd (j-i))).ownsRow base 95 6 (U (Z ⟨g,0,Y⟩) i c) i (ez (cur.take i))):=by
     have h:=qm (m:=i) (iP (Hd (j-i)) _ (i*6) _ hOW) (by omega);rw[tf (ys:=ez (cur.take i)) (by rw[mr,dy,MY];omega) (by rw[dy,IA];omega) (λk hk=>by
      rw[mu _ _ _ _ (by omega),<- te,IL hk])] at h
     exact h
    have CS:Hid ((cur.take i).length=i):=(show(cur.take i).length=i by rw[IA];omega);have HBF:Hid (Below base w (wr.setCells g (i*6) (Hd (j-i)))):=eM oU _ _ _ _ HB.out;have HFF:Hid (qw g w (wr.setCells g (i*6) (Hd (j-i)))):=qw.setCells _ _ _ _ A5.out;have hic:i<=c:=by omega
    have amO:¬ c=i:=by omega
    clear hOW Mk HB HC;go_wp2_with fail;go_ret;refine⟨i,rfl,?_,HBF.out,HFF.out⟩;rw[<- HR.out];show Qt _ _ _ _ _ (cur.take i).length _;rw[CS.out];exact HF.out
end Go.Proofs.YtfidjlcdlakceaaGreatDoor
