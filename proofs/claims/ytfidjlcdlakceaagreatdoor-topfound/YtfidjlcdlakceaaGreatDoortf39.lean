import Derived.Test.YtfidjlcdlakceaaGreatDoortf31
import Derived.Shelf.SlSortFunc.HeapSort
set_option maxHeartbeats 6400000
set_option maxRecDepth 100000
open List renaming length_set→Jb,getD→Io,getElem?_set_self→QV,getElem?_set_ne→OD,getElem?_eq_none→IP,take_succ_eq_append_getElem→Iw,getElem?_eq_getElem→Ic,filter_append→JP,length_take→Iu,append_nil→Qx,getElem_of_mem→Jw,getElem?_take_of_lt→IF,range→QE,pairwise_iff_getElem→Jh,foldl_cons→Qw,length_nil→JI
open Go.Value renaming int→O,string→I,bool→AI,pointer→If,slice→U,tuple→Il
open Go.IntKind renaming i64→J
open Option renaming none→Y,some→Z
open Go.Ending renaming returned→sh
open Go.Obj renaming cells→AT
open Go.Proofs.Tryz renaming prog→be,isAgg3→J0,sizeOf3→JN
open Go.World renaming block_lt_of_cell?→IH,ownsRow→OR,cell?_setCell_far→UF
open Go.RowKit.Below renaming refl→Ib
open Nat renaming le_refl→By,zero_le→II,zero_add→IM
open Go.Builtin renaming zeroCells→Q6,clear_→Ua
open Array renaming getElem?_modify→Oe,getElem?_eq_some_iff→Ia,extract_size→UD
open Go renaming maxLen→Ij,wpList_append_own→I5,wp_loop_rounds→JT,rounds_succ→JC
open Go.World.ownsRow renaming frozenAt→Ja,cellAt→O0,stored→IW,lt→I6
open Go.Proofs renaming cell?_sortWorld_other→Qo,sortWorld→Uo
open Go.Sort renaming ahead→Jy
namespace Go.Proofs.YtfidjlcdlakceaaGreatDoor
open Go.RowKit
theorem VF{rs:List bE}{p:Nat}(hp:p<rs.length)(r:bE):Kd (eO rs) (p*6) r.cs=eO (rs.set p r):=by
 apply List.ext_getElem?;intro k;by_cases hk:k<rs.length*6
 .have h2:=kZ (rs.set p r) (k/6) (by rw[Jb];omega) (k%6) (by omega)
  rw[show k/6*6+k%6=k by omega] at h2;rw[h2];by_cases kN:k/6=p
  .rw[show(rs.set p r).getD (k/6) dr=r by rw[kN];simp[Io,QV hp]]
   have h3:=DI r.cs (eO rs) (p*6) (k%6) (by rw[iP];omega) (by rw[iP,dO];omega);rw[show p*6+k%6=k by omega] at h3;exact h3
  .rw[show(rs.set p r).getD (k/6) dr=rs.getD (k/6) dr by simp[Io,OD (Ne.symm kN)]]
   rw[nC _ _ _ _ (by rw[iP];omega)];have h4:=kZ rs (k/6) (by omega) (k%6) (by omega);rw[show k/6*6+k%6=k by omega] at h4;exact h4
 .rw[IP (by rw[nB,dO];omega),IP (by rw[dO,Jb];omega)]
def ey(times:Int)(r:bE):Bool:=decide (r.told<times)
theorem xP(r:bE)(tb:Nat)(times:Int)(w:World)(ht:w.cell? ⟨tb,0,Y⟩=Z (O J times)) :
 Calls be 162 #[.agg #[I r.m.name,O J r.m.state,O J r.m.aX,O J r.m.addr,AI r.m.server,O J r.told],If (Z ⟨tb,0,Y⟩)] w λe w'=>e=sh (AI (!ey times r))/\w'=w.alloc (AT #[I r.m.name,O J r.m.state,O J r.m.aX,O J r.m.addr,AI r.m.server,O J r.told] 95):=by
 have hb:=IH w _ ht;have Fa:∀ob,(w.alloc ob).cell? ⟨tb,0,Y⟩=Z (O J times):=λob=>by
  rw[((Ib w.heap.size w).alloc (By _) ob).cell (p:=⟨tb,0,Y⟩) hb];exact ht
 go_enter Tryz.func162,Tryz.ntmps162;go_wp2_with fail;go_ret;refine⟨aD ?_,rfl⟩;unfold ey;by_cases h:r.told<times
 .rw[decide_eq_true h];simp;omega
 .rw[decide_eq_false h];simp;omega
theorem wU(rs:List bE)(n b off c tb:Nat)(times:Int)(w:World)(hn:rs.length=n)(CK:n<=1000)(hr:mi w b off rs)(hb:n≠0->b<w.heap.size)(ht:w.cell? ⟨tb,0,Y⟩=Z (O J times)) :
 Calls be 187 #[U (Z ⟨b,off,Y⟩) n c,.func (.func 162) #[] #[If (Z ⟨tb,0,Y⟩)]] w λe w'=>
  ((e=sh (O J (-1))/\∀j,j<n->ey times (rs.getD j dr)=true)\/(∃i:Nat,i<n/\e=sh (O J i)/\(∀j,j<i->ey times (rs.getD j dr)=true)/\ey times (rs.getD i dr)=false))/\Below w.heap.size w w':=by
 have HR:Hid (mi w b off rs):=hr;have HN:Hid _:=hn;have HT:Hid _:=ht;have Tu:=IH w _ ht;have BB:Hid _:=hb;clear hr hn ht hb;go_enter Tryz.func187,Tryz.ntmps187;go_wp2_with fail;go_loopw [8] (λi wr=>∃k:Nat,k<=n/\i=O J k/\Hid (∀j,j<k->ey times (rs.getD j dr)=true)/\Hid (Below w.heap.size w wr)) (λi _=>n-(intOf i).toNat)
 case atStart=>exact⟨0,II _,rfl,λj hj=>by omega,Ib _ _⟩
 case round=>
  obtain⟨k,hk,rfl,HZ,HB⟩:=hrel;by_cases aL:k<n
  .obtain⟨c0,c1,c2,c3,c4,c5⟩:=HR.out.below HB.out (BB.out (by omega)) k (by rw[HN.out];exact aL)
   have Fa:wr.cell? ⟨tb,0,Y⟩=Z (O J times):=by rw[HB.out.cell (p:=⟨tb,0,Y⟩) Tu];exact HT.out
   have iS:Hid (ey times (rs.getD k dr)=true->∀j,j<k+1->ey times (rs.getD j dr)=true):=λh j hj=>by
    by_cases e:j=k
    .subst e;exact h
    .exact HZ.out j (by omega)
   have hF:=λw h=>xP (rs.getD k dr) tb times w h;rcases kN:ey times (rs.getD k dr) with _|_
   .rw[kN] at hF
    have HKP:Hid _:=kN;clear kN iS;generalize hrk:rs.getD k dr=rk at *;have HRK:Hid _:=hrk;clear hrk;obtain⟨⟨nm,st,lf,ad,sv⟩,td⟩:=rk;simp only at c0 c1 c2 c3 c4 c5 hF;go_wp2_with fail;refine(hF _ Fa).mono ?_;rintro e w1 ⟨rfl,rfl⟩;go_wp2_with fail;go_ret;exact⟨.inr ⟨k,aL,rfl,HZ.out,by rw[HRK.out];exact HKP.out⟩,HB.out.alloc HB.out.size _⟩
   .rw[kN] at hF
    have mr:Hid _:=iS.out kN;clear kN iS HZ;generalize(rs.getD k dr)=rk at *;obtain⟨⟨nm,st,lf,ad,sv⟩,td⟩:=rk;simp only at c0 c1 c2 c3 c4 c5 hF;go_wp2_with fail;refine(hF _ Fa).mono ?_;rintro e w1 ⟨rfl,rfl⟩;go_wp2_with fail;go_roundw
    case rel=>exact⟨k+1,by omega,by go_num,mr,HB.out.alloc HB.out.size _⟩
    case measure=>simp[intOf];omega
  .have mr:Hid (∀j,j<n->ey times (rs.getD j dr)=true):=λj hj=>HZ.out j (by omega)
   clear HZ;go_wp2_with fail;go_ret;exact⟨.inl ⟨rfl,mr.out⟩,HB.out⟩
def Ml(m:Nat):List Value:=(Q6 #[I ⟨#[]⟩,O J 0,O J 0,O J 0,AI false,O J 0] m).toList
theorem FI(m:Nat):(Ml m).length=m*6:=by simp[Ml,Q6]
theorem VG(m:Nat):∀v∈Ml m,v.oneCell'=true:=by
 intro v hv;simp only[Ml,Q6,Array.toList_map,List.mem_map] at hv;obtain⟨i,_,rfl⟩:=hv;have h:i%6<6:=Nat.mod_lt _ (by decide);show Value.oneCell' (#[Value.string ⟨#[]⟩,O J 0,O J 0,O J 0,AI false,O J 0][i%6]!)=true;generalize i%6=k at h
 match k,h with
 |0,_=>rfl
 |1,_=>rfl
 |2,_=>rfl
 |3,_=>rfl
 |4,_=>rfl
 |5,_=>rfl
theorem uP(w:World)(ty:TypeId)(b o m c:Nat)(hm:0<m)(hc:∀j,j<m*6->(w.cell? ⟨b,o+j,Y⟩).isSome=true)(hf:∀j,j<m*6->w.frozen? ⟨b,o+j,Y⟩=false) : (Ua #[23] ty #[U (Z ⟨b,o,Y⟩) m c]).run be w=.ok (Il #[]) (w.setCells b o (Ml m)):=by
 have tr:=run_storeCells_cells (P:=be) b o (Ml m) 0 w (λj hj=>by simpa using hc j (by rw[FI] at hj;exact hj)) (λj hj=>by simpa using hf j (by rw[FI] at hj;exact hj)) (VG m);simp only[Nat.add_zero] at tr;have hzc:(Q6 (Value.agg #[I ⟨#[]⟩,O J 0,O J 0,O J 0,AI false,O J 0]).cells m).toList=Ml m:=rfl;obtain⟨k,rfl⟩:∃k,m=k+1:=⟨m-1,by omega⟩;simp[Ua,run_underlying Tryz.underlying23,hzc,tr]
theorem Eh{times:Int}{r:bE}(h:ey times r=true):[r].filter (ey times)=[r]:=by simp[h]
theorem xQ{times:Int}{r:bE}(h:ey times r=false):[r].filter (ey times)=[]:=by simp[h]
structure FJ(rs cur:List bE)(times:Int)(i j:Nat):Prop where
 len:cur.length=rs.length
 head:cur.take i=(rs.take j).filter (ey times)
 tail:cur.drop j=rs.drop j
theorem FJ.keep{rs cur:List bE}{times:Int}{i j:Nat}(h:FJ rs cur times i j)(lO:i<j)(hj:j<rs.length)(hk:ey times (rs.getD j dr)=true):FJ rs (cur.set i (rs.getD j dr)) times (i+1) (j+1):=by
 have hs:rs.take (j+1)=rs.take j++[rs.getD j dr]:=by rw[Iw hj];simp[Io,Ic hj]
 have hi:i<cur.length:=by rw[h.len];omega
 refine⟨by rw[Jb];exact h.len,?_,?_⟩
 .rw[hs,JP,<- h.head,Iw (by rw[Jb];exact hi),List.getElem_set_self,List.take_set,List.set_eq_of_length_le (by rw[Iu];omega),Eh hk]
 .rw[List.drop_set_of_lt (by omega)]
  have:=congrArg (List.drop 1) h.tail
  rwa [List.drop_drop,List.drop_drop] at this
theorem FJ.skip{rs cur:List bE}{times:Int}{i j:Nat}(h:FJ rs cur times i j)(hj:j<rs.length)(hk:ey times (rs.getD j dr)=false):FJ rs cur times i (j+1):=by
 have hs:rs.take (j+1)=rs.take j++[rs.getD j dr]:=by rw[Iw hj];simp[Io,Ic hj]
 refine⟨h.len,?_,?_⟩
 .rw[hs,JP,<- h.head,xQ hk,Qx]
 .have:=congrArg (List.drop 1) h.tail
  rwa [List.drop_drop,List.drop_drop] at this
theorem FJ.get{rs cur:List bE}{times:Int}{i j:Nat}(h:FJ rs cur times i j):cur.getD j dr=rs.getD j dr:=by
 have:=congrArg (λl:List bE=>l[0]?.getD dr) h.tail;simpa[Io,List.getElem?_drop] using this
theorem filter_all{times:Int}{rs:List bE}(h:∀j,j<rs.length->ey times (rs.getD j dr)=true):rs.filter (ey times)=rs:=by
 rw[List.filter_eq_self];intro r hr;obtain⟨j,hj,rfl⟩:=Jw hr;have:=h j hj
 rwa [show rs.getD j dr=rs[j] by simp[Io,Ic hj]] at this
theorem FJ.start{rs:List bE}{times:Int}{i:Nat}(hi:i<rs.length)(h1:∀j,j<i->ey times (rs.getD j dr)=true)(h2:ey times (rs.getD i dr)=false):FJ rs rs times i (i+1):=by
 have hs:rs.take (i+1)=rs.take i++[rs.getD i dr]:=by rw[Iw hi];simp[Io,Ic hi]
 refine⟨rfl,?_,rfl⟩;rw[hs,JP,filter_all (rs:=rs.take i) (λj hj=>by
  have hji:j<i:=by rw[Iu] at hj;omega
  have:=h1 j hji
  rwa [show(rs.take i).getD j dr=rs.getD j dr by simp[Io,IF hji]]),xQ h2,Qx]
def rV(g:Nat)(w w':World):Prop:=w.heap.size<=w'.heap.size/\∀k,k<w.heap.size->k≠g->w'.heap[k]?=w.heap[k]?
theorem rV.trans{g:Nat}{a b c:World}(h:rV g a b)(k:rV g b c):rV g a c:=⟨Nat.le_trans h.1 k.1,λj hj hg=>(k.2 j (Nat.lt_of_lt_of_le hj h.1) hg).trans (h.2 j hj hg)⟩
theorem rV.of{g:Nat}{w w':World}(h:Below w.heap.size w w'):rV g w w':=⟨h.size,λk hk _=>h.block k hk⟩
theorem rV.setCell{g:Nat}{w w':World}(h:rV g w w')(o:Nat)(v:Value):rV g w (w'.setCell ⟨g,o,Y⟩ v):=by
 refine⟨by simpa using h.1,λk hk hg=>?_⟩;have e:(w'.setCell ⟨g,o,Y⟩ v).heap[k]?=w'.heap[k]?:=by
  simp only[World.setCell,Oe];rw[if_neg (Ne.symm hg)]
 rw[e];exact h.2 k hk hg
theorem rV.setCells{g:Nat}:∀(vs:List Value) (o:Nat) (w w':World),rV g w w'->rV g w (w'.setCells g o vs)
 |[],_,_,_,h=>h
 |v::r,o,w,_,h=>rV.setCells r (o+1) w _ (h.setCell o v)
theorem uQ(rs:List bE)(n g c tb base:Nat)(times:Int)(w:World)(hn:rs.length=n)(CK:n<=1000)(ho:cd base w (U (Z ⟨g,0,Y⟩) n c) rs)(hbase:base<=w.heap.size)(Tu:tb<base)(ht:w.cell? ⟨tb,0,Y⟩=Z (O J times)) :
 Calls be 161 #[U (Z ⟨g,0,Y⟩) n c,.func (.func 162) #[] #[If (Z ⟨tb,0,Y⟩)]] w λe w'=>∃m,e=sh (U (Z ⟨g,0,Y⟩) m c)/\cd base w' (U (Z ⟨g,0,Y⟩) m c) (rs.filter (ey times))/\Below base w w'/\rV g w w':=by
 have HO:Hid (cd _ _ _ _):=ho;have HN:Hid _:=hn;have HT:Hid _:=ht;obtain⟨jZ,hgh⟩:=HO.out.lt g rfl;obtain⟨eC,dj⟩:n<=c/\c<=Ij:=by
  rcases HO.out.2 with⟨hv,_⟩|⟨g',c',cur,hv,dQ,hg,eC,dj,cM,aO⟩
  .cases hv
  .simp only[Value.slice.injEq,Option.some.injEq,Addr.mk.injEq,and_true] at hv
   obtain⟨rfl,rfl,rfl⟩:=hv;exact⟨by omega,dj⟩
 unfold Ij at dj;clear ho hn ht;go_enter Tryz.func161,Tryz.ntmps161;go_wp2_with fail;refine(wU rs n g 0 c tb times _ HN.out CK (pI HO.out) (λ_=>hgh) HT.out).mono ?_;rintro e w1 ⟨⟨rfl,iC⟩|⟨i0,ei,rfl,zE,zF⟩,al⟩
 .have HF:Hid _:=filter_all (λj hj=>iC j (by rw[HN.out] at hj;exact hj))
  have j7:Hid (cd _ _ _ _):=HO.out.below al;have aR:Hid (Below base w w1):=al.mono hbase;have Dy:Hid (rV g w w1):=rV.of al;clear iC al;go_wp2_with fail;go_ret;exact⟨n,rfl,by rw[HF.out];exact j7.out,aR.out,Dy.out⟩
 .have j7:Hid (cd base w1 (U (Z ⟨g,0,Y⟩) n c) rs):=HO.out.below al
  have aR:Hid (Below base w w1):=al.mono hbase;have WU:Hid (FJ rs rs times i0 (i0+1)):=FJ.start (by rw[HN.out];exact ei) zE zF;have Dy:Hid (rV g w w1):=rV.of al;clear zE zF al;go_wp2_with fail;go_loopw [5,6] (λx y wr=>∃(i j:Nat) (cur:List bE),i<j/\j<=n/\x=O J i/\y=O J j/\Hid (FJ rs cur times i j)/\Hid (cd base wr (U (Z ⟨g,0,Y⟩) n c) cur)/\Hid (Below base w wr)/\Hid (rV g w wr)) (λ_ y _=>n-(intOf y).toNat)
  case atStart=>exact⟨i0,i0+1,rs,by omega,by omega,rfl,by go_num,WU,j7,aR,Dy⟩
  case round=>
   clear j7 aR WU Dy;obtain⟨i,j,cur,lO,hj,rfl,rfl,HC,DY,HB,Dy⟩:=hrel;have bA:base<=wr.heap.size:=by have:=HB.out.size;omega
   have nN:g<wr.heap.size:=(DY.out.lt g rfl).2;have Sf:cur.length=n:=by rw[HC.out.len,HN.out]
   by_cases aL:j<n
   .obtain⟨c0,c1,c2,c3,c4,c5⟩:=pI DY.out j (by rw[Sf];exact aL)
    rw[HC.out.get] at c0 c1 c2 c3 c4 c5;have Fa:∀ob,(wr.alloc ob).cell? ⟨tb,0,Y⟩=Z (O J times):=λob=>by
     rw[((Ib wr.heap.size wr).alloc (By _) ob).cell (p:=⟨tb,0,Y⟩) (by simp only;omega),HB.out.cell (p:=⟨tb,0,Y⟩) Tu];exact HT.out
    have hF:=λw h=>xP (rs.getD j dr) tb times w h;simp only[IM] at c0 c1 c2 c3 c4 c5;rcases kN:ey times (rs.getD j dr) with _|_
    .have HC2:Hid (FJ rs cur times i (j+1)):=HC.out.skip (by rw[HN.out];exact aL) kN
     rw[kN] at hF;clear kN HC;generalize(rs.getD j dr)=rk at *;obtain⟨⟨nm,st,lf,ad,sv⟩,td⟩:=rk;simp only at c0 c1 c2 c3 c4 c5 hF;go_wp2_with fail;refine(hF _ (Fa _)).mono ?_;rintro e w2 ⟨rfl,rfl⟩;have aC:Below wr.heap.size wr ((wr.alloc (AT #[I nm,O J st,O J lf,O J ad,AI sv,O J td] 95)).alloc (AT #[I nm,O J st,O J lf,O J ad,AI sv,O J td] 95)):=((Ib _ _).alloc (By _) _).alloc (by simp) _;have gv:=DY.out.below aC;have eB:Hid (cd _ _ _ _):=gv;have da:Hid _:=HB.out.trans (aC.mono bA);have zP:Hid (rV _ _ _):=Dy.out.trans (rV.of aC);clear aC gv;go_wp2_with fail;refine⟨⟨_,_,_,_,_,_,_,_,_,_,_,_,_,_,_,_,_,_,_,_,_,_,_,⟨i,j+1,cur,by omega,by omega,rfl,by go_num,HC2,eB,da,zP⟩,rfl⟩,?_⟩;simp[intOf];omega
    .have HC2:Hid _:=HC.out.keep lO (by rw[HN.out];exact aL) kN
     rw[kN] at hF;have gF:∀o,wr.frozen? ⟨g,o,Y⟩=false:=λo=>Ja (n:=n) (xs:=eO cur) (by have h:=DY.out;have h2:wr.ownsRow base 95 6 (U (Z ⟨g,0,Y⟩) n c) cur.length (eO cur):=h;rw[Sf] at h2;exact h2) o;obtain⟨d0,d1,d2,d3,d4,d5⟩:=pI DY.out i (by rw[Sf];omega);simp only[IM] at d0 d1 d2 d3 d4 d5;clear kN HC;generalize(rs.getD j dr)=rk at *;obtain⟨⟨nm,st,lf,ad,sv⟩,td⟩:=rk;simp only at c0 c1 c2 c3 c4 c5 hF;have hOS:(wr.setCells g (i*6) (bE.mk ⟨nm,st,lf,ad,sv⟩ td).cs).ownsRow base 95 6 (U (Z ⟨g,0,Y⟩) n c) n (eO (cur.set i ⟨⟨nm,st,lf,ad,sv⟩,td⟩)):=by
      have h2:wr.ownsRow base 95 6 (U (Z ⟨g,0,Y⟩) n c) cur.length (eO cur):=DY.out;rw[Sf] at h2;have h3:=jA (bE.mk ⟨nm,st,lf,ad,sv⟩ td).cs _ (i*6) _ h2
      rwa [VF (by rw[Sf];omega)] at h3
     have HOS:Hid (cd base (wr.setCells g (i*6) (bE.mk ⟨nm,st,lf,ad,sv⟩ td).cs) (U (Z ⟨g,0,Y⟩) n c) (cur.set i ⟨⟨nm,st,lf,ad,sv⟩,td⟩)):=(show OR _ _ _ _ _ (cur.set i ⟨⟨nm,st,lf,ad,sv⟩,td⟩).length _ by rw[Jb,Sf];exact hOS);have HFS:Hid (rV g w (wr.setCells g (i*6) (bE.mk ⟨nm,st,lf,ad,sv⟩ td).cs)):=rV.setCells _ _ _ _ Dy.out;have HBS:Hid (Below base w (wr.setCells g (i*6) (bE.mk ⟨nm,st,lf,ad,sv⟩ td).cs)):=fp jZ _ _ _ _ HB.out;clear hOS;go_wp2_with fail;refine(hF _ (Fa _)).mono ?_;rintro e w2 ⟨rfl,rfl⟩;go_wp2_with fail;have hbz:Below (wr.setCells g (i*6) (bE.mk ⟨nm,st,lf,ad,sv⟩ td).cs).heap.size (wr.setCells g (i*6) (bE.mk ⟨nm,st,lf,ad,sv⟩ td).cs) (((wr.setCells g (i*6) (bE.mk ⟨nm,st,lf,ad,sv⟩ td).cs).alloc (AT #[I nm,O J st,O J lf,O J ad,AI sv,O J td] 95)).alloc (AT #[I nm,O J st,O J lf,O J ad,AI sv,O J td] 95)):=((Ib _ _).alloc (By _) _).alloc (by simp) _;refine⟨⟨_,_,_,_,_,_,_,_,_,_,_,_,_,_,_,_,_,_,_,_,_,_,_,⟨i+1,j+1,cur.set i ⟨⟨nm,st,lf,ad,sv⟩,td⟩,by omega,by omega,by go_num,by go_num,HC2,HOS.out.below hbz,HBS.out.trans (hbz.mono (by have:=HBS.out.size;omega)),HFS.out.trans (rV.of hbz)⟩,rfl⟩,?_⟩;simp[intOf];omega
   .have L4:j=n:=by omega
    subst L4;have HR:Hid (cur.take i=rs.filter (ey times)):=by
     have h:=HC.out.head;rw[show rs.take j=rs by rw[<- HN.out];exact List.take_length] at h;exact h
    have hOW:wr.ownsRow base 95 6 (U (Z ⟨g,0,Y⟩) j c) j (eO cur):=by
     have h2:wr.ownsRow base 95 6 (U (Z ⟨g,0,Y⟩) j c) cur.length (eO cur):=DY.out;rw[Sf] at h2;exact h2
    have aaR:∀ty,(Ua #[23] ty #[U (Z ⟨g,i*6,Y⟩) (j-i) (c-i)]).run be wr=.ok (Il #[]) (wr.setCells g (i*6) (Ml (j-i))):=λty=>
     uP _ ty g _ _ _ (by omega) (λk hk=>by rw[O0 hOW _ (by omega),Ic (by rw[dO,Sf];omega)];rfl) (λk _=>Ja hOW _)
    have HF:Hid ((wr.setCells g (i*6) (Ml (j-i))).ownsRow base 95 6 (U (Z ⟨g,0,Y⟩) i c) i (eO (cur.take i))):=by
     have h:=rS (m:=i) (jA (Ml (j-i)) _ (i*6) _ hOW) (by omega);rw[uz (ys:=eO (cur.take i)) (by rw[nB,dO,Sf];omega) (by rw[dO,Iu];omega) (λk hk=>by
      rw[nC _ _ _ _ (by omega),<- tN,IF hk])] at h
     exact h
    have E9:Hid ((cur.take i).length=i):=(show(cur.take i).length=i by rw[Iu];omega);have HBF:Hid (Below base w (wr.setCells g (i*6) (Ml (j-i)))):=fp jZ _ _ _ _ HB.out;have HFF:Hid (rV g w (wr.setCells g (i*6) (Ml (j-i)))):=rV.setCells _ _ _ _ Dy.out;have hic:i<=c:=by omega
    have aoh:¬ c=i:=by omega
    clear hOW DY HB HC;go_wp2_with fail;go_ret;refine⟨i,rfl,?_,HBF.out,HFF.out⟩;rw[<- HR.out];show OR _ _ _ _ _ (cur.take i).length _;rw[E9.out];exact HF.out
structure iJ(rs:List bE)(ord:List Nat):Prop where
 perm:ord.Perm (QE rs.length)
 less:∀i j,i<j->j<ord.length->cfR rs (ord.getD i 0) (ord.getD j 0)<0
theorem iJ.len{rs:List bE}{ord:List Nat}(h:iJ rs ord):ord.length=rs.length:=by rw[h.perm.length_eq];simp
theorem iJ.bd{rs:List bE}{ord:List Nat}(h:iJ rs ord):∀x∈ord,x<rs.length:=λx hx=>by simpa using h.perm.mem_iff.1 hx
theorem iJ.nodup{rs:List bE}{ord:List Nat}(h:iJ rs ord):ord.Nodup:=h.perm.nodup_iff.2 List.nodup_range
theorem pO{ord:List Nat}{j:Nat}(h:j<ord.length):ord.getD j 0=ord[j]:=by simp[Io,Ic h]
theorem iJ.lt{rs:List bE}{ord:List Nat}(h:iJ rs ord){j:Nat}(hj:j<rs.length):ord.getD j 0<rs.length:=by
 have A0:j<ord.length:=by rw[h.len];exact hj
 rw[pO A0];exact h.bd _ (List.getElem_mem A0)
theorem iJ.fresh{rs:List bE}{ord:List Nat}(h:iJ rs ord){j:Nat}(hj:j<rs.length):ord.getD j 0 ∉ ord.take j:=by
 have A0:j<ord.length:=by rw[h.len];exact hj
 rw[pO A0];intro hm;obtain⟨i,hi,e⟩:=Jw hm;rw[Iu] at hi;rw[List.getElem_take] at e;exact Jh.1 h.nodup i j (by omega) A0 (by omega) e
def hU(l:List bE)(i:Nat):List bE:=l.set i ⟨(l.getD i dr).m,(l.getD i dr).told+1⟩
def bump(rs:List bE)(ord:List Nat)(k:Nat):List bE:=(ord.take k).foldl hU rs
def gL(rs:List bE)(ord:List Nat)(k:Nat):List Mem:=(ord.take k).map (λi=>(rs.getD i dr).m)
theorem KC(rs:List bE)(ord:List Nat):bump rs ord 0=rs:=by simp[bump]
theorem Ei(rs:List bE)(ord:List Nat):gL rs ord 0=[]:=by simp[gL]
theorem BG{ord:List Nat}{k:Nat}(h:k<ord.length):ord.take (k+1)=ord.take k++[ord.getD k 0]:=by
 rw[Iw h,pO h]
theorem KD{rs:List bE}{ord:List Nat}{k:Nat}(h:k<ord.length):bump rs ord (k+1)=hU (bump rs ord k) (ord.getD k 0):=by
 unfold bump;rw[BG h,List.foldl_append];rfl
theorem Ej{rs:List bE}{ord:List Nat}{k:Nat}(h:k<ord.length):gL rs ord (k+1)=gL rs ord k++[(rs.getD (ord.getD k 0) dr).m]:=by
 unfold gL;rw[BG h,List.map_append];rfl
theorem xR:∀(is:List Nat) (l:List bE),(is.foldl hU l).length=l.length
 |[],_=>rfl
 |i::r,l=>by rw[Qw,xR r,hU,Jb]
theorem uR(rs:List bE)(ord:List Nat)(k:Nat):(bump rs ord k).length=rs.length:=xR _ _
theorem rW:∀(is:List Nat) (l:List bE) (j:Nat),j ∉ is->(is.foldl hU l).getD j dr=l.getD j dr
 |[],_,_,_=>rfl
 |i::r,l,j,h=>by
  simp only[List.mem_cons,not_or] at h;rw[Qw,rW r _ j h.2,hU];simp[Io,OD (Ne.symm h.1)]
theorem oH{rs:List bE}{ord:List Nat}(h:iJ rs ord){k:Nat}(hk:k<rs.length):(bump rs ord k).getD (ord.getD k 0) dr=rs.getD (ord.getD k 0) dr:=
 rW _ _ _ (h.fresh hk)
def qU(rs:List bE)(v:Value):Prop:=∀w,mj w v rs->Calls be 160 #[v] w λe w'=>∃(g c:Nat) (ord:List Nat),e=sh (U (Z ⟨g,0,Y⟩) rs.length c)/\iJ rs ord/\(∀j,j<rs.length->w'.cell? ⟨g,j,Y⟩=Z (O J (ord.getD j 0:Nat)))/\rs.length<=c/\w.heap.size<=g/\Below w.heap.size w w'
theorem Rf{rs:List bE}{p:Nat}(hp:p<rs.length)(t:Int):(eO rs).set (p*6+5) (O J t)=eO (rs.set p ⟨(rs.getD p dr).m,t⟩):=by
 apply List.ext_getElem?;intro k;by_cases hk:k<rs.length*6
 .have h2:=kZ (rs.set p ⟨(rs.getD p dr).m,t⟩) (k/6) (by rw[Jb];omega) (k%6) (by omega)
  rw[show k/6*6+k%6=k by omega] at h2;have h4:=kZ rs (k/6) (by omega) (k%6) (by omega);rw[show k/6*6+k%6=k by omega] at h4;rw[h2];by_cases kN:k/6=p
  .rw[show(rs.set p ⟨(rs.getD p dr).m,t⟩).getD (k/6) dr=⟨(rs.getD p dr).m,t⟩ by rw[kN];simp[Io,QV hp]]
   rw[kN] at h4;by_cases h5:k%6=5
   .rw[show p*6+5=k by omega,QV (by rw[dO];omega),h5]
    rfl
   .rw[OD (by omega),h4]
    have h6:k%6<5:=by omega
    generalize k%6=q at h6
    match q,h6 with
    |0,_=>rfl
    |1,_=>rfl
    |2,_=>rfl
    |3,_=>rfl
    |4,_=>rfl
  .rw[show(rs.set p ⟨(rs.getD p dr).m,t⟩).getD (k/6) dr=rs.getD (k/6) dr by simp[Io,OD (Ne.symm kN)],OD (by omega),h4]
 .rw[IP (by rw[Jb,dO];omega),IP (by rw[dO,Jb];omega)]
theorem KE{n a b:Int}(h:within n a b=true):a<=n/\n<=b:=by simpa[within] using h
theorem KF{base:Nat}{w:World}{v:Value}{L:List Mem}{m:Mem}(h:w.ownsRow base 70 5 v (L.length+1) (fl L++m.cs)):Own base w v (L++[m]):=by
 have e:fl (L++[m])=fl L++m.cs:=by rw[cF,aT];simp[fl]
 show w.ownsRow base 70 5 v (L++[m]).length (fl (L++[m]));rw[e,List.length_append];exact h
theorem Own.slice{base:Nat}{w:World}{v:Value}{ms:List Mem}(h:Own base w v ms):∃a c,v=U a ms.length c:=by
 rcases h.2 with⟨rfl,h0⟩|⟨g,c,cur,rfl,_⟩
 .exact⟨Y,0,by rw[h0]⟩
 .exact⟨_,c,rfl⟩
theorem KG(rs:List bE)(v:Value)(most times:Int)(w:World)(hv:mj w v rs)(h0:ee rs=0)(hm:within most 1 20=true)(ht:within times 1 100=true)(nH:0<rs.length)(hT:qU rs v) :
 Calls be 107 #[v,O J most,O J times] w λe w'=>∃(v1 v2:Value) (ord:List Nat),e=sh (Il #[v1,v2,O J 0])/\iJ rs ord/\Own w.heap.size w' v1 (gL rs ord (min most.toNat rs.length))/\cd w.heap.size w' v2 ((bump rs ord (min most.toNat rs.length)).filter (ey times))/\Below w.heap.size w w':=by
 obtain⟨j0,Su,hk0,hks,TG⟩:=info_parts Tryz.qd;have HV:Hid (mj w v rs):=hv;have HTT:Hid (qU rs v):=hT;have oO:1<=most/\most<=20:=by simp[within] at hm;omega
 obtain⟨oO,SI⟩:=oO;obtain⟨yu,_,BH,_⟩:=gT h0;have Vs:Hid (gy rs):=BH;have ji:=λ(w:World) (h:mj w v rs)=>fT rs v w h;rw[h0] at ji;clear h0 hT BH;obtain⟨pa,ca,rfl,_,_⟩:=hv;generalize hN:rs.length=n at *;have HN:Hid _:=hN;clear hN;have lR:Below w.heap.size w (w.alloc (AT #[O J times] 3)):=(Ib _ _).alloc (By _) _;go_enter Tryz.func107,Tryz.ntmps107;go_wp2_with fail;refine(ji _ (HV.out.below lR)).mono ?_;rintro e w1 ⟨rfl,al⟩;have c1:w1.cell? ⟨w.heap.size,0,Y⟩=Z (O J times):=by
  rw[al.cell (p:=⟨w.heap.size,0,Y⟩) (by simp)];exact cI rfl
 have aR:Hid _:=lR.trans (al.mono (by simp));have cS:w.heap.size<w1.heap.size:=by have:=al.size;simp at this;omega
 clear al lR ji;go_wp2_with (go_at_call 70;refine(bD _ _ _ _).mono ?_;rintro e w' ⟨rfl,rfl⟩;first|rw[hm]|rw[ht]);refine(fU rs _ _ (HV.out.below aR.out) (by rw[HN.out];omega)).mono ?_;rintro e w3 ⟨v3,rfl,nf,bf⟩;have eB:Hid (cd _ _ _ _):=nf.base cS;have c3:w3.cell? ⟨w.heap.size,0,Y⟩=Z (O J times):=by
  rw[bf.cell (p:=⟨w.heap.size,0,Y⟩) (by simp only;omega)];exact c1
 have da:Hid _:=aR.out.trans (bf.mono aR.out.size);have lN:w.heap.size<w3.heap.size:=by have:=bf.size;omega
 clear bf nf c1;go_wp2_with fail;refine(HTT.out _ (HV.out.below da.out)).mono ?_;rintro e w4 ⟨gt,ct,ord,rfl,ad0,Sn,hcc,aoj,fa⟩;have wV:Hid _:=ad0;have Wm:Hid _:=Sn;have gJ:Hid (Below w.heap.size w w4):=da.out.trans (fa.mono da.out.size);have C4:Hid (w4.cell? ⟨w.heap.size,0,Y⟩=Z (O J times)):=by
  have h:=fa.cell (p:=⟨w.heap.size,0,Y⟩) (by simp only;omega);exact h.trans c3
 have o7:Hid (cd _ _ _ _):=eB.out.below fa;have Nq:Hid (∀k,v3.ownBlock=Z k->k<w3.heap.size):=λk hk=>(eB.out.lt k hk).2;have iQ:=fa.size;clear fa c3 eB Sn ad0;obtain⟨g,c,GB⟩:∃g c,v3=U (Z ⟨g,0,Y⟩) n c:=by
  rcases o7.out.2 with⟨_,h0⟩|⟨g,c,cur,h,_⟩
  .have:=HN.out;omega
  .exact⟨g,c,by rw[h,HN.out]⟩
 subst GB;obtain⟨jZ,hgh⟩:=o7.out.lt g rfl;have vt:=Nq.out g rfl;rw[HN.out] at hcc ⊢;have HGT:Hid _:=IH w4 ⟨gt,0,Y⟩ (Wm.out 0 (by rw[HN.out];exact nH));obtain⟨q,hq⟩:∃q:Nat,q=min most.toNat n:=⟨_,rfl⟩;have aiR:min most (n:Int)=(q:Int):=by omega
 have MA:q<=n:=by omega
 go_wp2_with fail;go_loopw [11,37] (λo i wr=>∃k:Nat,k<=q/\i=O J k/\Hid (Own w4.heap.size wr o (gL rs ord k))/\Hid (cd (w.heap.size+1) wr (U (Z ⟨g,0,Y⟩) n c) (bump rs ord k))/\Hid (wr.cell? ⟨w.heap.size,0,Y⟩=Z (O J times))/\Hid (∀j,j<rs.length->wr.cell? ⟨gt,j,Y⟩=Z (O J (ord.getD j 0:Nat)))/\Hid (Below w.heap.size w wr)/\w4.heap.size<=wr.heap.size) (λ_ i _=>q-(intOf i).toNat)
 case atStart=>exact⟨0,II _,rfl,(by rw[Ei];exact bj _ _),(by rw[KC];exact o7.out),C4,Wm,gJ,By _⟩
 case round=>
  obtain⟨k,hk,rfl,KH,HRO,HCC,abq,HB,bA⟩:=hrel;by_cases aL:k<q
  .have fM:k<rs.length:=by rw[HN.out];omega
   have oc:=abq.out k fM;have cA:ord.getD k 0<n:=by have:=wV.out.lt fM;rwa [HN.out] at this
   have aU:(bump rs ord k).length=n:=by rw[uR];exact HN.out
   obtain⟨d0,d1,d2,d3,d4,d5⟩:=pI HRO.out (ord.getD k 0) (by rw[aU];exact cA);rw[oH wV.out fM] at d0 d1 d2 d3 d4 d5;have hRO:wr.ownsRow (w.heap.size+1) 95 6 (U (Z ⟨g,0,Y⟩) n c) n (eO (bump rs ord k)):=by
    have h2:wr.ownsRow (w.heap.size+1) 95 6 (U (Z ⟨g,0,Y⟩) n c) (bump rs ord k).length (eO (bump rs ord k)):=HRO.out;rw[aU] at h2;exact h2
   have gF:∀o,wr.frozen? ⟨g,o,Y⟩=false:=λo=>Ja hRO o;have BH:=Vs.out _ (wV.out.lt fM);obtain⟨ht3,ht4⟩:=KE BH;have abr:Hid (cd (w.heap.size+1) (wr.setCell ⟨g,ord.getD k 0*6+5,Y⟩ (O J ((rs.getD (ord.getD k 0) dr).told+1))) (U (Z ⟨g,0,Y⟩) n c) (bump rs ord (k+1))):=by
    have h3:=(IW hRO (ord.getD k 0*6+5) (O J ((rs.getD (ord.getD k 0) dr).told+1))).1;rw[Rf (by rw[aU];exact cA),oH wV.out fM] at h3;show OR _ _ _ _ _ (bump rs ord (k+1)).length _;rw[uR,HN.out,KD (by rw[wV.out.len];exact fM),hU,oH wV.out fM];exact h3
   have TC:Hid (gL rs ord (k+1)=gL rs ord k++[(rs.getD (ord.getD k 0) dr).m]):=Ej (by rw[wV.out.len];exact fM);have htl:(gL rs ord k).length<=20:=by unfold gL;rw[List.length_map,Iu];omega
   obtain⟨oa,ocp,hvo⟩:=KH.out.slice;subst hvo;clear hRO BH;generalize ord.getD k 0=Xd at *;generalize hrk:rs.getD Xd dr=rk at *;clear hrk;obtain⟨⟨nm,st,lf,ad,sv⟩,td⟩:=rk;simp only at d0 d1 d2 d3 d4 d5 ht3 ht4 abr TC;simp only[IM] at d0 d1 d2 d3 d4 d5;generalize gL rs ord k=TL at *;have HOT:Hid (∀ob,((wr.setCell ⟨g,Xd*6+5,Y⟩ (O J (td+1))).alloc ob).ownsRow w4.heap.size 70 5 (U oa TL.length ocp) TL.length (fl TL)):=λob=>
    Own.below (ms:=TL) (ownsRow_setCell_below KH.out (a:=⟨g,Xd*6+5,Y⟩) hgh _) ((Ib _ _).alloc (By _) ob)
   have E9:Hid (∀j,(U oa TL.length ocp).ownBlock=Z j->w4.heap.size<=j):=λj hj=>(KH.out.lt j hj).1;clear KH HRO;go_wp2_with (at_builtin;refine I5 _ rfl _ _ 22 rfl w4.heap.size 70 j0 _ 5 48 Tryz.underlying22 Su hk0 hks TG rfl (by omega) _ TL.length (fl TL) rfl ?hown ⟨wr.heap.size,0,Y⟩ 1 1 (Mem.mk nm st lf ad sv).cs rfl rfl ?hnews (cC _) ?h63 ?hbytes ?hbase ?_)
   case hown=>exact HOT.out _
   case hnews=>(intro j u hj;rw[Addr.add_lit];exact(cI (by simp)).trans (by simpa[Mem.cs] using hj))
   case h63=>(unfold Ij;omega)
   case hbytes=>omega
   case hbase=>(simp;omega)
   intro v' w5 r1 r2 r3;have lA:Below w4.heap.size (wr.setCell ⟨g,Xd*6+5,Y⟩ (O J (td+1))) w5:=
    ((Ib w4.heap.size (wr.setCell ⟨g,Xd*6+5,Y⟩ (O J (td+1)))).alloc (by simpa using bA) _).grown r2 (by simp;omega) (λj hj=>E9.out j hj)
   have R1:Hid (Own _ _ _ _):=KF r1;have Mj:=(lA.block g hgh).symm;have R2:Hid (cd (w.heap.size+1) w5 (U (Z ⟨g,0,Y⟩) n c) (bump rs ord (k+1))):=by
    obtain⟨h1,h2⟩:=abr.out;refine⟨h1,?_⟩;rcases h2 with h2|⟨g',c',cur,hv,dQ,hg,hr⟩
    .exact .inl h2
    .have hgg:g'=g:=by simp only[Value.slice.injEq,Option.some.injEq,Addr.mk.injEq,and_true] at hv;exact hv.1.symm
     subst hgg;exact .inr ⟨g',c',cur,hv,dQ,by rw[<- Mj];exact hg,hr⟩
   have R3:Hid (w5.cell? ⟨w.heap.size,0,Y⟩=Z (O J times)):=by
    have h1:=lA.cell (p:=⟨w.heap.size,0,Y⟩) (by simp only;omega);have h2:(wr.setCell ⟨g,Xd*6+5,Y⟩ (O J (td+1))).cell? ⟨w.heap.size,0,Y⟩=wr.cell? ⟨w.heap.size,0,Y⟩:=UF _ _ _ _ (by simp only;omega);exact h1.trans (h2.trans HCC.out)
   have R4:Hid (∀j,j<rs.length->w5.cell? ⟨gt,j,Y⟩=Z (O J (ord.getD j 0:Nat))):=λj hj=>by
    have h1:=lA.cell (p:=⟨gt,j,Y⟩) HGT.out;have h2:(wr.setCell ⟨g,Xd*6+5,Y⟩ (O J (td+1))).cell? ⟨gt,j,Y⟩=wr.cell? ⟨gt,j,Y⟩:=UF _ _ _ _ (by simp only;omega);exact h1.trans (h2.trans (abq.out j hj))
   have R5:Hid _:=(HB.out.setCell (p:=⟨g,Xd*6+5,Y⟩) (by simp only;omega) _).trans (lA.mono (by omega));have TS:w4.heap.size<=w5.heap.size:=by have:=lA.size;simp at this;omega
   clear r1 r2 r3 lA Mj abr HOT E9 d0 d1 d2 d3 d4 d5 oc;go_wp2_with fail;exact⟨⟨k+1,by omega,by go_num,(by rw[TC.out];exact R1.out),R2.out,R3.out,R4.out,R5.out,TS⟩,by simp[intOf];omega⟩
  .have hkq:k=q:=by omega
   subst hkq;have aU:(bump rs ord k).length=n:=by rw[uR];exact HN.out
   clear abq;go_wp2_with fail;refine(uQ (bump rs ord k) n g c w.heap.size (w.heap.size+1) times _ aU (by omega) HRO.out (by omega) (by omega) HCC.out).mono ?_;rintro e w6 ⟨m,rfl,Xc,ix,Fs⟩;have S1:Hid (Own w.heap.size w6 u11 (gL rs ord k)):=by
    obtain⟨h1,h2⟩:=KH.out;refine⟨h1,?_⟩;rcases h2 with h2|⟨g',c',cur,hv,dQ,hg,hr⟩
    .exact .inl h2
    .exact .inr ⟨g',c',cur,hv,by omega,by rw[Fs.2 g' (Ia.1 hg).1 (by omega)];exact hg,hr⟩
   have S2:Hid (cd w.heap.size w6 (U (Z ⟨g,0,Y⟩) m c) ((bump rs ord k).filter (ey times))):=Xc.base (by omega);have S3:Hid _:=HB.out.trans (ix.mono (by omega));clear Xc ix Fs KH HRO HCC;go_wp2_with fail;go_ret3
   exact⟨_,_,ord,rfl,wV.out,by rw[<- hq];exact S1.out,by rw[<- hq];exact S2.out,S3.out⟩
end Go.Proofs.YtfidjlcdlakceaaGreatDoor
namespace Go.Proofs
open Go.Shelf
def Tryz.xS:Go.Shelf.Ren:=⟨fun|6=>217|15=>159|14=>253|28=>215|29=>216|20=>277|21=>278|22=>279|23=>280|24=>281|25=>282|26=>283|27=>284|46=>292|47=>256|48=>257|49=>293|50=>294|57=>307|n=>n,fun|22=>214|24=>3|25=>38|3=>3|39=>192|0=>0|53=>260|55=>262|4=>4|46=>267|45=>266|50=>82|5=>5|9=>9|66=>288|70=>292|76=>312|77=>313|n=>n,fun|n=>n⟩
theorem Tryz.Xe:Go.Proofs.SlLaysF.n6 be Tryz.xS:={
 mixed:=by kernel_rfl
 f6:=⟨Tryz.f217.name,by decide,Tryz.func217.trans (congrArg Z (by kernel_rfl))⟩
 f14:=⟨Tryz.f253.name,by decide,Tryz.func253.trans (congrArg Z (by kernel_rfl))⟩
 f15:=Tryz.func159.trans (congrArg Z (by kernel_rfl))
 f20:=⟨Tryz.f277.name,by decide,Tryz.func277.trans (congrArg Z (by kernel_rfl))⟩
 f21:=⟨Tryz.f278.name,by decide,Tryz.func278.trans (congrArg Z (by kernel_rfl))⟩
 f22:=⟨Tryz.f279.name,by decide,Tryz.func279.trans (congrArg Z (by kernel_rfl))⟩
 f23:=⟨Tryz.f280.name,by decide,Tryz.func280.trans (congrArg Z (by kernel_rfl))⟩
 f24:=⟨Tryz.f281.name,by decide,Tryz.func281.trans (congrArg Z (by kernel_rfl))⟩
 f25:=⟨Tryz.f282.name,by decide,Tryz.func282.trans (congrArg Z (by kernel_rfl))⟩
 f26:=⟨Tryz.f283.name,by decide,Tryz.func283.trans (congrArg Z (by kernel_rfl))⟩
 f27:=⟨Tryz.f284.name,by decide,Tryz.func284.trans (congrArg Z (by kernel_rfl))⟩
 f28:=Tryz.func215.trans (congrArg Z (by kernel_rfl))
 f29:=Tryz.func216.trans (congrArg Z (by kernel_rfl))
 f46:=⟨Tryz.f292.name,by decide,Tryz.func292.trans (congrArg Z (by kernel_rfl))⟩
 f47:=Tryz.func256.trans (congrArg Z (by kernel_rfl))
 f48:=Tryz.func257.trans (congrArg Z (by kernel_rfl))
 f49:=⟨Tryz.f293.name,by decide,Tryz.func293.trans (congrArg Z (by kernel_rfl))⟩
 f50:=⟨Tryz.f294.name,by decide,Tryz.func294.trans (congrArg Z (by kernel_rfl))⟩
 f57:=⟨Tryz.f307.name,by decide,Tryz.func307.trans (congrArg Z (by kernel_rfl))⟩
 t0:=Tryz.underlying0
 a0:=Tryz.isAgg0
 z0:=Tryz.sizeOf0
 v0:=Tryz.zeroValue0
 t3:=Tryz.underlying3
 a3:=J0
 z3:=JN
 v3:=Tryz.zeroValue3
 t4:=Tryz.underlying4
 a4:=Tryz.isAgg4
 z4:=Tryz.sizeOf4
 v4:=Tryz.zeroValue4
 t5:=Tryz.underlying5
 a5:=Tryz.isAgg5
 z5:=Tryz.sizeOf5
 v5:=Tryz.zeroValue5
 t9:=Tryz.underlying9
 a9:=Tryz.isAgg9
 z9:=Tryz.sizeOf9
 v9:=Tryz.zeroValue9
 t22:=Tryz.underlying214
 a22:=Tryz.isAgg214
 z22:=Tryz.sizeOf214
 v22:=Tryz.zeroValue214
 a24:=J0
 z24:=JN
 t25:=Tryz.underlying38
 a25:=Tryz.isAgg38
 z25:=Tryz.sizeOf38
 v25:=Tryz.zeroValue38
 t39:=Tryz.underlying192
 a39:=Tryz.isAgg192
 z39:=Tryz.sizeOf192
 v39:=Tryz.zeroValue192
 t45:=Tryz.underlying266
 a45:=Tryz.isAgg266
 z45:=Tryz.sizeOf266
 v45:=Tryz.zeroValue266
 t46:=Tryz.underlying267
 a46:=Tryz.isAgg267
 z46:=Tryz.sizeOf267
 v46:=Tryz.zeroValue267
 t50:=Tryz.underlying82
 a50:=Tryz.isAgg82
 z50:=Tryz.sizeOf82
 v50:=Tryz.zeroValue82
 t53:=Tryz.underlying260
 a53:=Tryz.isAgg260
 z53:=Tryz.sizeOf260
 v53:=Tryz.zeroValue260
 t55:=Tryz.underlying262
 a55:=Tryz.isAgg262
 z55:=Tryz.sizeOf262
 v55:=Tryz.zeroValue262
 t66:=Tryz.underlying288
 a66:=Tryz.isAgg288
 z66:=Tryz.sizeOf288
 v66:=Tryz.zeroValue288
 t70:=Tryz.underlying292
 a70:=Tryz.isAgg292
 z70:=Tryz.sizeOf292
 v70:=Tryz.zeroValue292
 t76:=Tryz.underlying312
 a76:=Tryz.isAgg312
 z76:=Tryz.sizeOf312
 v76:=Tryz.zeroValue312
 t77:=Tryz.underlying313
 a77:=Tryz.isAgg313
 z77:=Tryz.sizeOf313
 v77:=Tryz.zeroValue313 }
end Go.Proofs
namespace Go.Proofs.YtfidjlcdlakceaaGreatDoor
open Go.RowKit Go.Sort Go.Shelf Go.Lib
theorem FK(rs:List bE)(i k:Nat):cfR rs i k<0↔(rs.getD i dr).told<(rs.getD k dr).told\/((rs.getD i dr).told=(rs.getD k dr).told/\k<i):=by
 unfold cfR WB uI;generalize(rs.getD i dr).told=a;generalize(rs.getD k dr).told=b
 repeat' split
 all_goals omega
def Xf(rs:List bE)(m:Nat)(x y:Fin (m+1)):Int:=cfR rs x.val y.val
theorem ltF(rs:List bE)(m:Nat)(x y:Fin (m+1)):ltOf (Xf rs m) x y=true↔(rs.getD x.val dr).told<(rs.getD y.val dr).told\/((rs.getD x.val dr).told=(rs.getD y.val dr).told/\y.val<x.val):=by
 unfold ltOf Xf;rw[decide_eq_true_iff,FK]
theorem qV(rs:List bE)(m:Nat)(x y:Fin (m+1)):ltOf (Xf rs m) x y=false↔¬ ((rs.getD x.val dr).told<(rs.getD y.val dr).told\/((rs.getD x.val dr).told=(rs.getD y.val dr).told/\y.val<x.val)):=by
 rw[<- ltF,Bool.not_eq_true]
theorem aiU(rs:List bE)(m:Nat):SWO (ltOf (Xf rs m)) where
 irrefl x:=by rw[qV];omega
 trans x y z h1 h2:=by rw[ltF] at *;omega
 ntrans x y z h1 h2:=by rw[qV] at *;omega
def qW(m:Nat)(x:Fin (m+1)):Value:=O J (x.val:Nat)
def kJ(m:Nat):Array (Fin (m+1)):=Array.ofFn (λx=>x)
theorem gk(m:Nat):(kJ m).size=m+1:=by simp[kJ]
theorem BI(m j:Nat)(hj:j<m+1):(kJ m)[j]! = ⟨j,hj⟩:=by
 rw[getElem!_pos _ j (by rw[gk];exact hj)];simp[kJ]
theorem KI(m:Nat):(kJ m).toList.map (·.val)=QE (m+1):=by
 apply List.ext_getElem
 .simp[kJ]
 .intro j h1 h2
  rw[List.getElem_map,List.getElem_range,Array.getElem_toList];simp only[kJ,Array.getElem_ofFn]
theorem Ek(W:World)(o:Obj):(W.alloc o).drew=grow (W.drewN 1) #[o]:=by
 simp only[grow,World.alloc,World.drew,World.drewN,Array.push_eq_append]
theorem aiV(rs:List bE)(m lb b off ca g:Nat)(w:World)(hn:rs.length=m+1)(hr:mi w b off rs)(hl:w.cell? ⟨lb,0,Y⟩=Z (U (Z ⟨b,off,Y⟩) (m+1) ca))(h1:lb≠g)(h2:b≠g)(hb:b<w.heap.size) :
 CmpLays1 be 218 #[If (Z ⟨lb,0,Y⟩)] (qW m) (Xf rs m) g 0 (kJ m).size w:=by
 intro q os dk hs x y;have rB:=IH w _ hl;have c1:=(Qo (qW m) w g 0 q dk os ⟨lb,0,Y⟩ h1 rB).trans hl;have c2:=(Qo (qW m) w g 0 q dk os ⟨b,off+x.val*6+5,Y⟩ h2 hb).trans (hr x.val (by rw[hn];exact x.isLt)).2.2.2.2.2;have c3:=(Qo (qW m) w g 0 q dk os ⟨b,off+y.val*6+5,Y⟩ h2 hb).trans (hr y.val (by rw[hn];exact y.isLt)).2.2.2.2.2;refine(Kr _ _ lb b off (m+1) ca x.val y.val _ c1 x.isLt y.isLt c2 c3).mono ?_;rintro e w' ⟨rfl,rfl⟩;exact⟨rfl,1,_,Ek _ _⟩
theorem Rg{rs:List bE}{m:Nat}{d':Array (Fin (m+1))}(hn:rs.length=m+1)(hp:PermIn 0 (kJ m).size (kJ m) d')(hs:SortedIn (ltOf (Xf rs m)) 0 (kJ m).size d'):iJ rs (d'.toList.map (·.val)):=by
 obtain⟨bA,_,AZ⟩:=hp;rw[UD,show d'.extract 0 (kJ m).size=d' by rw[<- bA,UD]] at AZ;have hP:(d'.toList.map (·.val)).Perm (QE rs.length):=by
  rw[hn,<- KI];exact AZ.map _
 have hlen:(d'.toList.map (·.val)).length=m+1:=by rw[hP.length_eq,hn];simp
 have so:=hP.nodup_iff.2 List.nodup_range;refine⟨hP,λi j lO hj=>?_⟩;have hds:d'.size=m+1:=by rw[bA,gk]
 have A0:j<d'.size:=by rw[hds];omega
 have hi':i<d'.size:=by omega
 have e1:(d'.toList.map (·.val)).getD i 0=d'[i].val:=by rw[pO (by omega)];simp
 have e2:(d'.toList.map (·.val)).getD j 0=d'[j].val:=by rw[pO hj];simp
 have bu:=Jh.1 so i j (by omega) hj lO;simp only[List.getElem_map,Array.getElem_toList] at bu;have h:=hs i j (by omega) lO (by rw[gk];omega);rw[getElem!_pos d' j A0,getElem!_pos d' i hi',qV] at h;rw[e1,e2,FK];omega
abbrev BJ(k:Nat):List Value:=(QE k).map (λj=>Value.int J (j:Nat))
theorem KJ(k:Nat):BJ (k+1)=BJ k++[O J (k:Nat)]:=by simp[BJ,List.range_succ]
theorem sH{m:Nat}{B:Nat}{w:World}{g off n:Nat}{d:Array (Fin (m+1))}{os:Array Obj}(hg:B<=g)(hB:B<=w.heap.size):Below B w (Uo (qW m) w g off n d os):=by
 refine⟨rfl,rfl,rfl,by simp[Uo,putRow,mapBlock,Jy,grow],λk hk=>?_⟩;unfold Uo;rw[Go.Sort.heap_grow_old _ _ (by simp[putRow,mapBlock,Jy];omega)]
 have:g≠k:=by omega
 simp[putRow,mapBlock,Jy,Oe,this]
theorem El(rs:List bE)(v:Value)(m:Nat)(hn:rs.length=m+1)(CK:m<1000):qU rs v:=by
 intro w hv;obtain⟨i0,ei,bW,fs,eU⟩:=info_parts Tryz.adu;obtain⟨pa,ca,rfl,_,ha⟩:=hv;obtain⟨b,off,Nt,rB,hr⟩:∃b off,pa=Z ⟨b,off,Y⟩/\b<w.heap.size/\mi w b off rs:=by
  rcases ha with h|h
  .rw[h] at hn;simp at hn
  .exact h
 subst Nt;have HR:Hid (mi w b off rs):=hr;have HN:Hid _:=hn;rw[hn];clear ha hr hn;have eg:=enters_of Tryz.func218 (by kernel_rfl) rfl;have HEG:Hid _:=eg;clear eg;go_enter Tryz.func160,Tryz.ntmps160;go_wp2_with fail;go_loopw [3,7] (λo i wr=>∃k:Nat,k<=m+1/\i=O J k/\Hid (wr.ownsRow (w.heap.size+1) 3 1 o k (BJ k))/\Hid (Below (w.heap.size+1) (w.alloc (AT #[U (Z ⟨b,off,Y⟩) (m+1) ca] 23)) wr)) (λ_ i _=>m+1-(intOf i).toNat)
 case atStart=>exact⟨0,II _,rfl,World.ownsRow_nil _ _ _ _,Ib _ _⟩
 case round=>
  obtain⟨k,hk,rfl,HO,HB⟩:=hrel;have bA:w.heap.size+1<=wr.heap.size:=by have:=HB.out.size;simpa using this
  by_cases aL:k<m+1
  .have gv:Hid (∀ob,(wr.alloc ob).ownsRow (w.heap.size+1) 3 1 u3 k (BJ k)):=λob=>by
    obtain⟨h1,h2⟩:=HO.out;refine⟨h1,?_⟩;rcases h2 with h2|⟨g,c,cur,hv,dQ,hg,hr⟩
    .exact .inl h2
    .exact .inr ⟨g,c,cur,hv,dQ,by rw[((Ib wr.heap.size wr).alloc (By _) ob).block g (Ia.1 hg).1];exact hg,hr⟩
   have E9:Hid (∀j,u3.ownBlock=Z j->w.heap.size+1<=j):=λj hj=>(I6 HO.out j hj).1;clear HO;go_wp2_with (at_builtin;refine I5 _ rfl _ _ 214 rfl (w.heap.size+1) 3 i0 _ 1 8 Tryz.underlying214 ei bW fs eU rfl (by omega) _ k (BJ k) rfl ?hown ⟨wr.heap.size,0,Y⟩ 1 1 [O J k] rfl rfl ?hnews (by simp[Value.oneCell']) ?h63 ?hbytes ?hbase ?_)
   case hown=>exact gv.out _
   case hnews=>(intro j u hj;rw[Addr.add_lit];exact(cI rfl).trans (by simpa using hj))
   case h63=>(unfold Ij;omega)
   case hbytes=>omega
   case hbase=>(simp;omega)
   intro v' w2 r1 r2 r3;have R1:Hid (w2.ownsRow (w.heap.size+1) 3 1 v' (k+1) (BJ (k+1))):=by rw[KJ];exact r1
   have R2:Hid (Below (w.heap.size+1) (w.alloc (AT #[U (Z ⟨b,off,Y⟩) (m+1) ca] 23)) w2):=
    (HB.out.alloc bA _).grown r2 (by simp;omega) (λj hj=>E9.out j hj)
   clear r1 r2 r3;go_wp2_with fail;exact⟨⟨k+1,by omega,by go_num,R1.out,R2.out⟩,by simp[intOf];omega⟩
  .have fM:k=m+1:=by omega
   subst fM;obtain⟨g,c,hu3,dQ,dj,ej,gF⟩:∃g c,u3=U (Z ⟨g,0,Y⟩) (m+1) c/\w.heap.size+1<=g/\m+1<=c/\(∀j,j<m+1->wr.cell? ⟨g,j,Y⟩=Z (O J (j:Nat)))/\(∀j,wr.frozen? ⟨g,j,Y⟩=false):=by
    have hO:=HO.out;rcases HO.out.2 with⟨_,h0⟩|⟨g,c,cur,hv,dQ,hg,eC,dj,cM,aO⟩
    .omega
    .subst hv
     refine⟨g,c,rfl,dQ,eC,λj hj=>?_,λj=>Ja hO j⟩;rw[O0 hO j (by omega)];simp[BJ,hj]
   subst hu3;have nN:=IH wr ⟨g,0,Y⟩ (ej 0 (by omega));have aiW:wr.cell? ⟨w.heap.size,0,Y⟩=Z (U (Z ⟨b,off,Y⟩) (m+1) ca):=by
    rw[HB.out.cell (p:=⟨w.heap.size,0,Y⟩) (by simp only;omega)];exact cI rfl
   have dL:=(HR.out.below ((Ib w.heap.size w).alloc (By _) _) rB).below HB.out (by omega);have jH:=Any.slices_SortFunc Tryz.Xe (qW m) (λ_=>rfl) (Xf rs m) (aiU rs m) 218 #[If (Z ⟨w.heap.size,0,Y⟩)] g 0 c (kJ m) wr HEG.out (aiV rs m w.heap.size b off ca g wr HN.out dL aiW (by omega) (by omega) (by omega)) (λj hj=>by
    rw[gk] at hj;rw[BI m j hj,IM];exact⟨ej j hj,gF j⟩) nN (by rw[gk];omega)
   have ad1:Calls be 217 #[U (Z ⟨g,0,Y⟩) (m+1) c,.func (.func 218) #[] #[If (Z ⟨w.heap.size,0,Y⟩)]] wr λe w'=>e=sh (Il #[])/\∃d' n os,PermIn 0 (kJ m).size (kJ m) d'/\SortedIn (ltOf (Xf rs m)) 0 (kJ m).size d'/\w'=Uo (qW m) wr g 0 n d' os:=by
    have h:=jH;rw[show U (Z ⟨g,0,Y⟩) (kJ m).size c=U (Z ⟨g,0,Y⟩) (m+1) c by rw[gk]] at h;exact h
   have HHH:Hid (Holds (qW m) wr g 0 (kJ m)):=λj hj=>by
    rw[gk] at hj;rw[BI m j hj,IM];exact⟨ej j hj,gF j⟩
   clear jH ej gF dL HO;go_wp2_with fail;refine ad1.mono ?_;rintro e w2 ⟨rfl,d',nd,os,hp,hs,rH⟩;have wV:Hid _:=Rg HN.out hp hs;have hds:d'.size=m+1:=by rw[hp.1,gk]
   have Wm:Hid (∀j,j<m+1->w2.cell? ⟨g,j,Y⟩=Z (O J ((d'.toList.map (·.val)).getD j 0:Nat))):=λj hj=>by
    have h1:=cell?_putRow (qW m) (Jy wr nd) g 0 (kJ m) d' (show Holds (qW m) (Jy wr nd) g 0 (kJ m) from HHH.out) hp.1 j (by omega);have h2:w2.cell? ⟨g,0+j,Y⟩=(putRow (qW m) (Jy wr nd) g 0 d').cell? ⟨g,0+j,Y⟩:=by
     rw[rH];exact cell?_grow _ _ _ (by
      have h3:=IH (putRow (qW m) (Jy wr nd) g 0 d') ⟨g,0+j,Y⟩ h1;exact h3)
    rw[IM] at h1 h2;rw[h2,h1,getElem!_pos d' j (by omega)];simp[qW,Io,hds,hj]
   have BB:Hid (Below w.heap.size w w2):=by
    rw[rH];exact(((Ib w.heap.size w).alloc (By _) _).trans (HB.out.mono (Nat.le_succ _))).trans (sH (by omega) (by omega))
   clear HHH hp hs rH;go_wp2_with fail;go_ret;exact⟨g,c,d'.toList.map (·.val),rfl,wV.out,Wm.out,dj,by omega,BB.out⟩
theorem Em(v:Value)(w:World)(hv:mj w v []) :
 Calls be 160 #[v] w λe w'=>e=sh (U Y 0 0)/\Below w.heap.size w w':=by
 obtain⟨pa,ca,rfl,_,_⟩:=hv;simp only[JI];have hs:=λ(fv:Value) (W:World)=>AnyF.slices_SortFunc_none (P:=be) (ρ:=Tryz.xS) { Tryz.Xe with } Y 0 fv W;have HS:Hid _:=hs;clear hs;have lR:Below w.heap.size w (w.alloc (AT #[U pa 0 ca] 23)):=(Ib _ _).alloc (By _) _;go_enter Tryz.func160,Tryz.ntmps160;go_wp2_with fail;refine JT 1 ?_;rw[JC];go_wp2_with fail;refine(HS.out _ _).mono ?_;rintro e w' ⟨rfl,rfl⟩;go_wp2_with fail;go_ret;exact⟨rfl,lR⟩
theorem uS(p:Option Addr)(c:Nat)(fv:Value)(w:World) :
 Calls be 187 #[U p 0 c,fv] w λe w'=>e=sh (O J (-1))/\w'=w:=by
 go_enter Tryz.func187,Tryz.ntmps187;go_wp2_with fail;refine JT 1 ?_;rw[JC];go_wp2_with fail;go_ret;exact⟨rfl,rfl⟩
theorem sI(p:Option Addr)(c:Nat)(fv:Value)(w:World) :
 Calls be 161 #[U p 0 c,fv] w λe w'=>e=sh (U p 0 c)/\w'=w:=by
 go_enter Tryz.func161,Tryz.ntmps161;go_wp2_with fail;refine(uS _ _ _ _).mono ?_;rintro e w' ⟨rfl,rfl⟩;go_wp2_with fail;go_ret;exact⟨rfl,rfl⟩
theorem KK(v:Value)(most times:Int)(w:World)(hv:mj w v [])(h0:ee []=0)(hm:within most 1 20=true)(ht:within times 1 100=true) :
 Calls be 107 #[v,O J most,O J times] w λe w'=>∃v1 v2,e=sh (Il #[v1,v2,O J 0])/\Own w.heap.size w' v1 []/\cd w.heap.size w' v2 []/\Below w.heap.size w w':=by
 have HV:Hid (mj w v []):=hv;have oO:1<=most/\most<=20:=by simp[within] at hm;omega
 obtain⟨oO,SI⟩:=oO;have ji:=λ(w:World) (h:mj w v [])=>fT [] v w h;rw[h0] at ji;obtain⟨pa,ca,rfl,_,_⟩:=hv;simp only[JI] at *;have lR:Below w.heap.size w (w.alloc (AT #[O J times] 3)):=(Ib _ _).alloc (By _) _;go_enter Tryz.func107,Tryz.ntmps107;go_wp2_with fail;refine(ji _ (HV.out.below lR)).mono ?_;rintro e w1 ⟨rfl,al⟩;have c1:w1.cell? ⟨w.heap.size,0,Y⟩=Z (O J times):=by
  rw[al.cell (p:=⟨w.heap.size,0,Y⟩) (by simp)];exact cI rfl
 have aR:Hid _:=lR.trans (al.mono (by simp));clear al lR ji;go_wp2_with (go_at_call 70;refine(bD _ _ _ _).mono ?_;rintro e w' ⟨rfl,rfl⟩;first|rw[hm]|rw[ht]);refine(fU [] _ _ (HV.out.below aR.out) (by simp)).mono ?_;rintro e w3 ⟨v3,rfl,nf,bf⟩;have eB:Hid (cd _ _ _ _):=nf.base aR.out.size;have da:Hid _:=aR.out.trans (bf.mono aR.out.size);clear bf nf c1;go_wp2_with fail;refine(Em _ _ (HV.out.below da.out)).mono ?_;rintro e w4 ⟨rfl,fa⟩;have gJ:Hid _:=da.out.trans (fa.mono da.out.size);have o7:Hid (cd _ _ _ _):=eB.out.below fa;clear fa eB;obtain⟨g,c,GB⟩:∃g c,v3=U g 0 c:=by
  rcases o7.out.2 with⟨h,_⟩|⟨g,c,cur,h,_⟩
  .exact⟨_,_,h⟩
  .exact⟨_,_,h⟩
 subst GB;have aiR:min most 0=0:=by omega
 go_wp2_with fail;refine JT 1 ?_;rw[JC];go_wp2_with fail;refine(sI _ _ _ _).mono ?_;rintro e w' ⟨rfl,rfl⟩;go_wp2_with fail;go_ret3
 exact⟨_,_,rfl,bj _ _,o7.out,gJ.out⟩
end Go.Proofs.YtfidjlcdlakceaaGreatDoor
