import Derived.Test.YtfidhgjmifendaaGreatDoorns16
set_option maxHeartbeats 6400000
set_option maxRecDepth 100000
open Go.Value renaming int→U,tuple→Ik,slice→J,pointer→Ie,string→Y,bool→Ia
open Go.IntKind renaming i64→O
open Go.Ending renaming returned→AT
open Go.Proofs.Tryz renaming prog→AS,ntmps129→Q3
open Option renaming none→be,some→AI
open Go renaming wp_loop_rounds→M2,rounds_succ→JR
open Go.World renaming new_ne→QN,block_lt_of_cell?→Iy,ownsRow→J4
open List renaming length_set→IM,getD→Ip,getElem?_set_ne→JQ,getElem?_eq_none→I1,take_succ_eq_append_getElem→IH,getElem?_eq_getElem→If,filter_append→Qq,length_take→IA,append_nil→JF,getElem_of_mem→IX,getElem?_take_of_lt→IN,foldl_cons→OB
open Nat renaming le_refl→Ic,zero_add→IC
open Go.Builtin renaming zeroCells→O9,clear_→Ov
namespace Go.Proofs.YtfidhgjmifendaaGreatDoor
open Go.RowKit
theorem Ey(m:Int)(w:World)(h:within m 0 20=true) :
 Calls AS 45 #[U O m] w λe w'=>e=AT (Ik #[U O (3*(Lib.bitLen m.toNat:Nat)),U O 0])/\w'=w:=by
 have hm:0<=m/\m<=20:=by simp[within] at h;omega
 have hl:(Lib.bitLen m.toNat:Int)<=64:=by have:=Lib.bitLen_le m.toNat 64 (by omega) (by omega);omega
 go_enter Tryz.func45,Tryz.ntmps45;go_wp2_with (first|(go_at_call 54;refine(cB _ _ _ _).mono ?_;rintro e w' ⟨rfl,rfl⟩;rw[h])|(go_at_call 71;refine(Tryz.bits_Len _ _ (by omega) (by omega)).mono ?_;rintro e w' ⟨rfl,rfl⟩));go_ret2;exact⟨rfl,rfl⟩
def su(a b:Int):Int:=if a<b then -1 else if b<a then 1 else 0
theorem xJ(a b:Int)(w:World) :
 Calls AS 130 #[U O a,U O b] w λe w'=>e=AT (U O (su a b))/\w'=w:=by
 go_enter Tryz.func130,Tryz.ntmps130;go_wp2;all_goals
  go_ret;exact⟨ai (by unfold su;(repeat' split)<;>omega),rfl⟩
def M3(a b:Int):Int:=if a=0 then b else a
theorem BN(a b:Int)(g:Nat)(c:Nat)(w:World)(h0:w.cell? ⟨g,0,be⟩=AI (U O a))(h1:w.cell? ⟨g,1,be⟩=AI (U O b)) :
 Calls AS 129 #[J (AI ⟨g,0,be⟩) 2 c] w λe w'=>e=AT (U O (M3 a b))/\w'=w:=by
 by_cases ha:a=0
 .subst ha
  by_cases hb:b=0
  .subst hb
   go_enter Tryz.func129,Q3;go_wp2_with fail;refine M2 3 ?_;rw[JR];go_wp2_with fail;rw[JR];go_wp2_with fail;rw[JR];go_wp2_with fail;go_ret;exact⟨rfl,rfl⟩
  .have xb:(b !=0)=true:=by simpa using hb
   go_enter Tryz.func129,Q3;go_wp2_with fail;refine M2 3 ?_;rw[JR];go_wp2_with fail;rw[JR];go_wp2_with fail;go_ret;exact⟨rfl,rfl⟩
 .have ha':(a !=0)=true:=by simpa using ha
  go_enter Tryz.func129,Q3;go_wp2_with fail;refine M2 3 ?_;rw[JR];go_wp2_with fail;go_ret;exact⟨ai (by unfold M3;rw[if_neg ha]),rfl⟩
def Vl(rs:List bE)(i k:Nat):Int:=M3 (su (rs.getD i dr).told (rs.getD k dr).told) (su k i)
theorem Ez(ti tk:Int)(lb b off n ca i k:Nat)(w:World)(hl:w.cell? ⟨lb,0,be⟩=AI (J (AI ⟨b,off,be⟩) n ca))(hi:i<n)(hk:k<n)(MZ:w.cell? ⟨b,off+i*6+5,be⟩=AI (U O ti))(xK:w.cell? ⟨b,off+k*6+5,be⟩=AI (U O tk)) :
 Calls AS 128 #[U O i,U O k,Ie (AI ⟨lb,0,be⟩)] w λe w'=>e=AT (U O (M3 (su ti tk) (su k i)))/\w'=(w.alloc (.cells #[U O (su ti tk),U O (su k i)] 3)).drew:=by
 have fV:(0:Int)<=(i:Int):=Int.natCast_nonneg _;have hi1:(i:Int)<(n:Int):=by omega
 have xL:(0:Int)<=(k:Int):=Int.natCast_nonneg _;have jn:(k:Int)<(n:Int):=by omega
 have h1:=QN w _ hl;have h2:=QN w _ MZ;have h3:=QN w _ xK;go_enter Tryz.func128,Tryz.ntmps128;go_wp2_with fail;go_region_held3 (λw'=>w'.cell? ⟨lb,0,be⟩=AI (J (AI ⟨b,off,be⟩) n ca)/\w'.cell? ⟨b,off+i*6+5,be⟩=AI (U O ti)/\w'.cell? ⟨b,off+k*6+5,be⟩=AI (U O tk)) (go_keep) (first|(go_at_call 130;refine(xJ _ _ _).mono ?_;rintro e w' ⟨rfl,rfl⟩)|(go_at_call 129;refine(BN (su ti tk) (su k i) _ _ _ (cU rfl) (cU rfl)).mono ?_;rintro e w' ⟨rfl,rfl⟩))
 go_wp2_with fail;go_ret;exact⟨rfl,rfl⟩
theorem M4{rs:List bE}{p:Nat}(hp:p<rs.length)(r:bE):AY (eW rs) (p*6) r.cs=eW (rs.set p r):=by
 apply List.ext_getElem?;intro k;by_cases hk:k<rs.length*6
 .have h2:=ma (rs.set p r) (k/6) (by rw[IM];omega) (k%6) (by omega)
  rw[show k/6*6+k%6=k by omega] at h2;rw[h2];by_cases qM:k/6=p
  .rw[show(rs.set p r).getD (k/6) dr=r by rw[qM];simp[Ip,List.getElem?_set_self hp]]
   have h3:=xq r.cs (eW rs) (p*6) (k%6) (by rw[jF];omega) (by rw[jF,ea];omega);rw[show p*6+k%6=k by omega] at h3;exact h3
  .rw[show(rs.set p r).getD (k/6) dr=rs.getD (k/6) dr by simp[Ip,JQ (Ne.symm qM)]]
   rw[kG _ _ _ _ (by rw[jF];omega)];have h4:=ma rs (k/6) (by omega) (k%6) (by omega);rw[show k/6*6+k%6=k by omega] at h4;exact h4
 .rw[I1 (by rw[jC,ea];omega),I1 (by rw[ea,IM];omega)]
def ek(times:Int)(r:bE):Bool:=decide (r.told<times)
theorem wv(r:bE)(tb:Nat)(times:Int)(w:World)(ht:w.cell? ⟨tb,0,be⟩=AI (U O times)) :
 Calls AS 75 #[.agg #[Y r.m.name,U O r.m.state,U O r.m.aJ,U O r.m.addr,Ia r.m.server,U O r.told],Ie (AI ⟨tb,0,be⟩)] w λe w'=>e=AT (Ia (!ek times r))/\w'=w.alloc (.cells #[Y r.m.name,U O r.m.state,U O r.m.aJ,U O r.m.addr,Ia r.m.server,U O r.told] 111):=by
 have hb:=Iy w _ ht;have MM:∀ob,(w.alloc ob).cell? ⟨tb,0,be⟩=AI (U O times):=λob=>by
  rw[((Below.refl w.heap.size w).alloc (Ic _) ob).cell (p:=⟨tb,0,be⟩) hb];exact ht
 go_enter Tryz.func75,Tryz.ntmps75;go_wp2_with fail;go_ret;refine⟨aW ?_,rfl⟩;unfold ek;by_cases h:r.told<times
 .rw[decide_eq_true h];simp;omega
 .rw[decide_eq_false h];simp;omega
theorem vz(rs:List bE)(n b off c tb:Nat)(times:Int)(w:World)(hn:rs.length=n)(zx:n<=1000)(hr:mS w b off rs)(hb:n≠0->b<w.heap.size)(ht:w.cell? ⟨tb,0,be⟩=AI (U O times)) :
 Calls AS 131 #[J (AI ⟨b,off,be⟩) n c,.func (.func 75) #[] #[Ie (AI ⟨tb,0,be⟩)]] w λe w'=>
  ((e=AT (U O (-1))/\∀j,j<n->ek times (rs.getD j dr)=true)\/(∃i:Nat,i<n/\e=AT (U O i)/\(∀j,j<i->ek times (rs.getD j dr)=true)/\ek times (rs.getD i dr)=false))/\Below w.heap.size w w':=by
 have HR:Hid (mS w b off rs):=hr;have HN:Hid _:=hn;have HT:Hid _:=ht;have R0:=Iy w _ ht;have Mn:Hid _:=hb;clear hr hn ht hb;go_enter Tryz.func131,Tryz.ntmps131;go_wp2_with fail;go_loopw [8] (λi wr=>∃k:Nat,k<=n/\i=U O k/\Hid (∀j,j<k->ek times (rs.getD j dr)=true)/\Hid (Below w.heap.size w wr)) (λi _=>n-(intOf i).toNat)
 case atStart=>exact⟨0,Nat.zero_le _,rfl,λj hj=>by omega,Below.refl _ _⟩
 case round=>
  obtain⟨k,hk,rfl,HZ,HB⟩:=hrel;by_cases aX:k<n
  .obtain⟨c0,c1,c2,c3,c4,c5⟩:=HR.out.below HB.out (Mn.out (by omega)) k (by rw[HN.out];exact aX)
   have MM:wr.cell? ⟨tb,0,be⟩=AI (U O times):=by rw[HB.out.cell (p:=⟨tb,0,be⟩) R0];exact HT.out
   have lP:Hid (ek times (rs.getD k dr)=true->∀j,j<k+1->ek times (rs.getD j dr)=true):=λh j hj=>by
    by_cases e:j=k
    .subst e;exact h
    .exact HZ.out j (by omega)
   have hF:=λw h=>wv (rs.getD k dr) tb times w h;rcases qM:ek times (rs.getD k dr) with _|_
   .rw[qM] at hF
    have HKP:Hid _:=qM;clear qM lP;generalize hrk:rs.getD k dr=rk at *;have HRK:Hid _:=hrk;clear hrk;obtain⟨⟨nm,st,lf,ad,sv⟩,td⟩:=rk;simp only at c0 c1 c2 c3 c4 c5 hF;go_wp2_with fail;refine(hF _ MM).mono ?_;rintro e w1 ⟨rfl,rfl⟩;go_wp2_with fail;go_ret;exact⟨.inr ⟨k,aX,rfl,HZ.out,by rw[HRK.out];exact HKP.out⟩,HB.out.alloc HB.out.size _⟩
   .rw[qM] at hF
    have qK:Hid _:=lP.out qM;clear qM lP HZ;generalize(rs.getD k dr)=rk at *;obtain⟨⟨nm,st,lf,ad,sv⟩,td⟩:=rk;simp only at c0 c1 c2 c3 c4 c5 hF;go_wp2_with fail;refine(hF _ MM).mono ?_;rintro e w1 ⟨rfl,rfl⟩;go_wp2_with fail;go_roundw
    case rel=>exact⟨k+1,by omega,by go_num,qK,HB.out.alloc HB.out.size _⟩
    case measure=>simp[intOf];omega
  .have qK:Hid (∀j,j<n->ek times (rs.getD j dr)=true):=λj hj=>HZ.out j (by omega)
   clear HZ;go_wp2_with fail;go_ret;exact⟨.inl ⟨rfl,qK.out⟩,HB.out⟩
def GO(m:Nat):List Value:=(O9 #[Y ⟨#[]⟩,U O 0,U O 0,U O 0,Ia false,U O 0] m).toList
theorem Ds(m:Nat):(GO m).length=m*6:=by simp[GO,O9]
theorem M5(m:Nat):∀v∈GO m,v.oneCell'=true:=by
 intro v hv;simp only[GO,O9,Array.toList_map,List.mem_map] at hv;obtain⟨i,_,rfl⟩:=hv;have h:i%6<6:=Nat.mod_lt _ (by decide);show Value.oneCell' (#[Value.string ⟨#[]⟩,U O 0,U O 0,U O 0,Ia false,U O 0][i%6]!)=true;generalize i%6=k at h
 match k,h with
 |0,_=>rfl
 |1,_=>rfl
 |2,_=>rfl
 |3,_=>rfl
 |4,_=>rfl
 |5,_=>rfl
theorem tK(w:World)(ty:TypeId)(b o m c:Nat)(hm:0<m)(hc:∀j,j<m*6->(w.cell? ⟨b,o+j,be⟩).isSome=true)(hf:∀j,j<m*6->w.frozen? ⟨b,o+j,be⟩=false) : (Ov #[35] ty #[J (AI ⟨b,o,be⟩) m c]).run AS w=.ok (Ik #[]) (w.setCells b o (GO m)):=by
 have pC:=run_storeCells_cells (P:=AS) b o (GO m) 0 w (λj hj=>by simpa using hc j (by rw[Ds] at hj;exact hj)) (λj hj=>by simpa using hf j (by rw[Ds] at hj;exact hj)) (M5 m);simp only[Nat.add_zero] at pC;have V1:(O9 (Value.agg #[Y ⟨#[]⟩,U O 0,U O 0,U O 0,Ia false,U O 0]).cells m).toList=GO m:=rfl;obtain⟨k,rfl⟩:∃k,m=k+1:=⟨m-1,by omega⟩;simp[Ov,run_underlying Tryz.underlying35,V1,pC]
theorem BO{times:Int}{r:bE}(h:ek times r=true):[r].filter (ek times)=[r]:=by simp[h]
theorem wy{times:Int}{r:bE}(h:ek times r=false):[r].filter (ek times)=[]:=by simp[h]
structure Dt(rs cur:List bE)(times:Int)(i j:Nat):Prop where
 len:cur.length=rs.length
 head:cur.take i=(rs.take j).filter (ek times)
 tail:cur.drop j=rs.drop j
theorem Dt.fi{rs cur:List bE}{times:Int}{i j:Nat}(h:Dt rs cur times i j)(iS:i<j)(hj:j<rs.length)(hk:ek times (rs.getD j dr)=true):Dt rs (cur.set i (rs.getD j dr)) times (i+1) (j+1):=by
 have hs:rs.take (j+1)=rs.take j++[rs.getD j dr]:=by rw[IH hj];simp[Ip,If hj]
 have hi:i<cur.length:=by rw[h.len];omega
 refine⟨by rw[IM];exact h.len,?_,?_⟩
 .rw[hs,Qq,<- h.head,IH (by rw[IM];exact hi),List.getElem_set_self,List.take_set,List.set_eq_of_length_le (by rw[IA];omega),BO hk]
 .rw[List.drop_set_of_lt (by omega)]
  have:=congrArg (List.drop 1) h.tail
  rwa [List.drop_drop,List.drop_drop] at this
theorem Dt.skip{rs cur:List bE}{times:Int}{i j:Nat}(h:Dt rs cur times i j)(hj:j<rs.length)(hk:ek times (rs.getD j dr)=false):Dt rs cur times i (j+1):=by
 have hs:rs.take (j+1)=rs.take j++[rs.getD j dr]:=by rw[IH hj];simp[Ip,If hj]
 refine⟨h.len,?_,?_⟩
 .rw[hs,Qq,<- h.head,wy hk,JF]
 .have:=congrArg (List.drop 1) h.tail
  rwa [List.drop_drop,List.drop_drop] at this
theorem Dt.get{rs cur:List bE}{times:Int}{i j:Nat}(h:Dt rs cur times i j):cur.getD j dr=rs.getD j dr:=by
 have:=congrArg (λl:List bE=>l[0]?.getD dr) h.tail;simpa[Ip,List.getElem?_drop] using this
theorem filter_all{times:Int}{rs:List bE}(h:∀j,j<rs.length->ek times (rs.getD j dr)=true):rs.filter (ek times)=rs:=by
 rw[List.filter_eq_self];intro r hr;obtain⟨j,hj,rfl⟩:=IX hr;have:=h j hj
 rwa [show rs.getD j dr=rs[j] by simp[Ip,If hj]] at this
theorem Dt.start{rs:List bE}{times:Int}{i:Nat}(hi:i<rs.length)(h1:∀j,j<i->ek times (rs.getD j dr)=true)(h2:ek times (rs.getD i dr)=false):Dt rs rs times i (i+1):=by
 have hs:rs.take (i+1)=rs.take i++[rs.getD i dr]:=by rw[IH hi];simp[Ip,If hi]
 refine⟨rfl,?_,rfl⟩;rw[hs,Qq,filter_all (rs:=rs.take i) (λj hj=>by
  have hji:j<i:=by rw[IA] at hj;omega
  have:=h1 j hji
  rwa [show(rs.take i).getD j dr=rs.getD j dr by simp[Ip,IN hji]]),wy h2,JF]
def rN(g:Nat)(w w':World):Prop:=w.heap.size<=w'.heap.size/\∀k,k<w.heap.size->k≠g->w'.heap[k]?=w.heap[k]?
theorem rN.trans{g:Nat}{a b c:World}(h:rN g a b)(k:rN g b c):rN g a c:=⟨Nat.le_trans h.1 k.1,λj hj hg=>(k.2 j (Nat.lt_of_lt_of_le hj h.1) hg).trans (h.2 j hj hg)⟩
theorem rN.of{g:Nat}{w w':World}(h:Below w.heap.size w w'):rN g w w':=⟨h.size,λk hk _=>h.block k hk⟩
theorem rN.setCell{g:Nat}{w w':World}(h:rN g w w')(o:Nat)(v:Value):rN g w (w'.setCell ⟨g,o,be⟩ v):=by
 refine⟨by simpa using h.1,λk hk hg=>?_⟩;have e:(w'.setCell ⟨g,o,be⟩ v).heap[k]?=w'.heap[k]?:=by
  simp only[World.setCell,Array.getElem?_modify];rw[if_neg (Ne.symm hg)]
 rw[e];exact h.2 k hk hg
theorem rN.setCells{g:Nat}:∀(vs:List Value) (o:Nat) (w w':World),rN g w w'->rN g w (w'.setCells g o vs)
 |[],_,_,_,h=>h
 |v::r,o,w,_,h=>rN.setCells r (o+1) w _ (h.setCell o v)
theorem tL(rs:List bE)(n g c tb base:Nat)(times:Int)(w:World)(hn:rs.length=n)(zx:n<=1000)(ho:cL base w (J (AI ⟨g,0,be⟩) n c) rs)(hbase:base<=w.heap.size)(R0:tb<base)(ht:w.cell? ⟨tb,0,be⟩=AI (U O times)) :
 Calls AS 74 #[J (AI ⟨g,0,be⟩) n c,.func (.func 75) #[] #[Ie (AI ⟨tb,0,be⟩)]] w λe w'=>∃m,e=AT (J (AI ⟨g,0,be⟩) m c)/\cL base w' (J (AI ⟨g,0,be⟩) m c) (rs.filter (ek times))/\Below base w w'/\rN g w w':=by
 have HO:Hid (cL _ _ _ _):=ho;have HN:Hid _:=hn;have HT:Hid _:=ht;obtain⟨du,hgh⟩:=HO.out.lt g rfl;obtain⟨fP,dR⟩:n<=c/\c<=maxLen:=by
  rcases HO.out.2 with⟨hv,_⟩|⟨g',c',cur,hv,eD,hg,fP,dR,cf,bj⟩
  .cases hv
  .simp only[Value.slice.injEq,Option.some.injEq,Addr.mk.injEq,and_true] at hv
   obtain⟨rfl,rfl,rfl⟩:=hv;exact⟨by omega,dR⟩
 unfold maxLen at dR;clear ho hn ht;go_enter Tryz.func74,Tryz.ntmps74;go_wp2_with fail;refine(vz rs n g 0 c tb times _ HN.out zx (qi HO.out) (λ_=>hgh) HT.out).mono ?_;rintro e w1 ⟨⟨rfl,kK⟩|⟨i0,fV,rfl,yO,yP⟩,aB⟩
 .have HF:Hid _:=filter_all (λj hj=>kK j (by rw[HN.out] at hj;exact hj))
  have lQ:Hid (cL _ _ _ _):=HO.out.below aB;have ba:Hid (Below base w w1):=aB.mono hbase;have PV:Hid (rN g w w1):=rN.of aB;clear kK aB;go_wp2_with fail;go_ret;exact⟨n,rfl,by rw[HF.out];exact lQ.out,ba.out,PV.out⟩
 .have lQ:Hid (cL base w1 (J (AI ⟨g,0,be⟩) n c) rs):=HO.out.below aB
  have ba:Hid (Below base w w1):=aB.mono hbase;have Wg:Hid (Dt rs rs times i0 (i0+1)):=Dt.start (by rw[HN.out];exact fV) yO yP;have PV:Hid (rN g w w1):=rN.of aB;clear yO yP aB;go_wp2_with fail;go_loopw [5,6] (λx y wr=>∃(i j:Nat) (cur:List bE),i<j/\j<=n/\x=U O i/\y=U O j/\Hid (Dt rs cur times i j)/\Hid (cL base wr (J (AI ⟨g,0,be⟩) n c) cur)/\Hid (Below base w wr)/\Hid (rN g w wr)) (λ_ y _=>n-(intOf y).toNat)
  case atStart=>exact⟨i0,i0+1,rs,by omega,by omega,rfl,by go_num,Wg,lQ,ba,PV⟩
  case round=>
   clear lQ ba Wg PV;obtain⟨i,j,cur,iS,hj,rfl,rfl,HC,BP,HB,PV⟩:=hrel;have cI:base<=wr.heap.size:=by have:=HB.out.size;omega
   have vh:g<wr.heap.size:=(BP.out.lt g rfl).2;have qd:cur.length=n:=by rw[HC.out.len,HN.out]
   by_cases aX:j<n
   .obtain⟨c0,c1,c2,c3,c4,c5⟩:=qi BP.out j (by rw[qd];exact aX)
    rw[HC.out.get] at c0 c1 c2 c3 c4 c5;have MM:∀ob,(wr.alloc ob).cell? ⟨tb,0,be⟩=AI (U O times):=λob=>by
     rw[((Below.refl wr.heap.size wr).alloc (Ic _) ob).cell (p:=⟨tb,0,be⟩) (by simp only;omega),HB.out.cell (p:=⟨tb,0,be⟩) R0];exact HT.out
    have hF:=λw h=>wv (rs.getD j dr) tb times w h;simp only[IC] at c0 c1 c2 c3 c4 c5;rcases qM:ek times (rs.getD j dr) with _|_
    .have Vm:Hid (Dt rs cur times i (j+1)):=HC.out.skip (by rw[HN.out];exact aX) qM
     rw[qM] at hF;clear qM HC;generalize(rs.getD j dr)=rk at *;obtain⟨⟨nm,st,lf,ad,sv⟩,td⟩:=rk;simp only at c0 c1 c2 c3 c4 c5 hF;go_wp2_with fail;refine(hF _ (MM _)).mono ?_;rintro e w2 ⟨rfl,rfl⟩;have aK:Below wr.heap.size wr ((wr.alloc (.cells #[Y nm,U O st,U O lf,U O ad,Ia sv,U O td] 111)).alloc (.cells #[Y nm,U O st,U O lf,U O ad,Ia sv,U O td] 111)):=((Below.refl _ _).alloc (Ic _) _).alloc (by simp) _;have iq:=BP.out.below aK;have ec:Hid (cL _ _ _ _):=iq;have cJ:Hid _:=HB.out.trans (aK.mono cI);have sq:Hid (rN _ _ _):=PV.out.trans (rN.of aK);clear aK iq;go_wp2_with fail;refine⟨⟨_,_,_,_,_,_,_,_,_,_,_,_,_,_,_,_,_,_,_,_,_,_,_,⟨i,j+1,cur,by omega,by omega,rfl,by go_num,Vm,ec,cJ,sq⟩,rfl⟩,?_⟩;simp[intOf];omega
    .have Vm:Hid _:=HC.out.fi iS (by rw[HN.out];exact aX) qM
     rw[qM] at hF;have rI:∀o,wr.frozen? ⟨g,o,be⟩=false:=λo=>World.ownsRow.frozenAt (n:=n) (xs:=eW cur) (by have h:=BP.out;have h2:wr.ownsRow base 111 6 (J (AI ⟨g,0,be⟩) n c) cur.length (eW cur):=h;rw[qd] at h2;exact h2) o;obtain⟨d0,d1,d2,d3,d4,d5⟩:=qi BP.out i (by rw[qd];omega);simp only[IC] at d0 d1 d2 d3 d4 d5;clear qM HC;generalize(rs.getD j dr)=rk at *;obtain⟨⟨nm,st,lf,ad,sv⟩,td⟩:=rk;simp only at c0 c1 c2 c3 c4 c5 hF;have hOS:(wr.setCells g (i*6) (bE.mk ⟨nm,st,lf,ad,sv⟩ td).cs).ownsRow base 111 6 (J (AI ⟨g,0,be⟩) n c) n (eW (cur.set i ⟨⟨nm,st,lf,ad,sv⟩,td⟩)):=by
      have h2:wr.ownsRow base 111 6 (J (AI ⟨g,0,be⟩) n c) cur.length (eW cur):=BP.out;rw[qd] at h2;have h3:=gf (bE.mk ⟨nm,st,lf,ad,sv⟩ td).cs _ (i*6) _ h2
      rwa [M4 (by rw[qd];omega)] at h3
     have HOS:Hid (cL base (wr.setCells g (i*6) (bE.mk ⟨nm,st,lf,ad,sv⟩ td).cs) (J (AI ⟨g,0,be⟩) n c) (cur.set i ⟨⟨nm,st,lf,ad,sv⟩,td⟩)):=(show J4 _ _ _ _ _ (cur.set i ⟨⟨nm,st,lf,ad,sv⟩,td⟩).length _ by rw[IM,qd];exact hOS);have HFS:Hid (rN g w (wr.setCells g (i*6) (bE.mk ⟨nm,st,lf,ad,sv⟩ td).cs)):=rN.setCells _ _ _ _ PV.out;have HBS:Hid (Below base w (wr.setCells g (i*6) (bE.mk ⟨nm,st,lf,ad,sv⟩ td).cs)):=dY du _ _ _ _ HB.out;clear hOS;go_wp2_with fail;refine(hF _ (MM _)).mono ?_;rintro e w2 ⟨rfl,rfl⟩;go_wp2_with fail;have hbz:Below (wr.setCells g (i*6) (bE.mk ⟨nm,st,lf,ad,sv⟩ td).cs).heap.size (wr.setCells g (i*6) (bE.mk ⟨nm,st,lf,ad,sv⟩ td).cs) (((wr.setCells g (i*6) (bE.mk ⟨nm,st,lf,ad,sv⟩ td).cs).alloc (.cells #[Y nm,U O st,U O lf,U O ad,Ia sv,U O td] 111)).alloc (.cells #[Y nm,U O st,U O lf,U O ad,Ia sv,U O td] 111)):=((Below.refl _ _).alloc (Ic _) _).alloc (by simp) _;refine⟨⟨_,_,_,_,_,_,_,_,_,_,_,_,_,_,_,_,_,_,_,_,_,_,_,⟨i+1,j+1,cur.set i ⟨⟨nm,st,lf,ad,sv⟩,td⟩,by omega,by omega,by go_num,by go_num,Vm,HOS.out.below hbz,HBS.out.trans (hbz.mono (by have:=HBS.out.size;omega)),HFS.out.trans (rN.of hbz)⟩,rfl⟩,?_⟩;simp[intOf];omega
   .have xe:j=n:=by omega
    subst xe;have HR:Hid (cur.take i=rs.filter (ek times)):=by
     have h:=HC.out.head;rw[show rs.take j=rs by rw[<- HN.out];exact List.take_length] at h;exact h
    have hOW:wr.ownsRow base 111 6 (J (AI ⟨g,0,be⟩) j c) j (eW cur):=by
     have h2:wr.ownsRow base 111 6 (J (AI ⟨g,0,be⟩) j c) cur.length (eW cur):=BP.out;rw[qd] at h2;exact h2
    have Ht:∀ty,(Ov #[35] ty #[J (AI ⟨g,i*6,be⟩) (j-i) (c-i)]).run AS wr=.ok (Ik #[]) (wr.setCells g (i*6) (GO (j-i))):=λty=>
     tK _ ty g _ _ _ (by omega) (λk hk=>by rw[World.ownsRow.cellAt hOW _ (by omega),If (by rw[ea,qd];omega)];rfl) (λk _=>World.ownsRow.frozenAt hOW _)
    have HF:Hid ((wr.setCells g (i*6) (GO (j-i))).ownsRow base 111 6 (J (AI ⟨g,0,be⟩) i c) i (eW (cur.take i))):=by
     have h:=mQ (m:=i) (gf (GO (j-i)) _ (i*6) _ hOW) (by omega);rw[oM (ys:=eW (cur.take i)) (by rw[jC,ea,qd];omega) (by rw[ea,IA];omega) (λk hk=>by
      rw[kG _ _ _ _ (by omega),<- tr,IN hk])] at h
     exact h
    have Mg:Hid ((cur.take i).length=i):=(show(cur.take i).length=i by rw[IA];omega);have HBF:Hid (Below base w (wr.setCells g (i*6) (GO (j-i)))):=dY du _ _ _ _ HB.out;have HFF:Hid (rN g w (wr.setCells g (i*6) (GO (j-i)))):=rN.setCells _ _ _ _ PV.out;have hic:i<=c:=by omega
    have akQ:¬ c=i:=by omega
    clear hOW BP HB HC;go_wp2_with fail;go_ret;refine⟨i,rfl,?_,HBF.out,HFF.out⟩;rw[<- HR.out];show J4 _ _ _ _ _ (cur.take i).length _;rw[Mg.out];exact HF.out
structure gL(rs:List bE)(ord:List Nat):Prop where
 perm:ord.Perm (List.range rs.length)
 less:∀i j,i<j->j<ord.length->Vl rs (ord.getD i 0) (ord.getD j 0)<0
theorem gL.len{rs:List bE}{ord:List Nat}(h:gL rs ord):ord.length=rs.length:=by rw[h.perm.length_eq];simp
theorem gL.bd{rs:List bE}{ord:List Nat}(h:gL rs ord):∀x∈ord,x<rs.length:=λx hx=>by simpa using h.perm.mem_iff.1 hx
theorem gL.nodup{rs:List bE}{ord:List Nat}(h:gL rs ord):ord.Nodup:=h.perm.nodup_iff.2 List.nodup_range
theorem mc{ord:List Nat}{j:Nat}(h:j<ord.length):ord.getD j 0=ord[j]:=by simp[Ip,If h]
theorem gL.lt{rs:List bE}{ord:List Nat}(h:gL rs ord){j:Nat}(hj:j<rs.length):ord.getD j 0<rs.length:=by
 have EA:j<ord.length:=by rw[h.len];exact hj
 rw[mc EA];exact h.bd _ (List.getElem_mem EA)
theorem gL.fresh{rs:List bE}{ord:List Nat}(h:gL rs ord){j:Nat}(hj:j<rs.length):ord.getD j 0 ∉ ord.take j:=by
 have EA:j<ord.length:=by rw[h.len];exact hj
 rw[mc EA];intro hm;obtain⟨i,hi,e⟩:=IX hm;rw[IA] at hi;rw[List.getElem_take] at e;exact List.pairwise_iff_getElem.1 h.nodup i j (by omega) EA (by omega) e
def eQ(l:List bE)(i:Nat):List bE:=l.set i ⟨(l.getD i dr).m,(l.getD i dr).told+1⟩
def bump(rs:List bE)(ord:List Nat)(k:Nat):List bE:=(ord.take k).foldl eQ rs
def gM(rs:List bE)(ord:List Nat)(k:Nat):List Mem:=(ord.take k).map (λi=>(rs.getD i dr).m)
theorem EB(rs:List bE)(ord:List Nat):bump rs ord 0=rs:=by simp[bump]
theorem BQ(rs:List bE)(ord:List Nat):gM rs ord 0=[]:=by simp[gM]
theorem zH{ord:List Nat}{k:Nat}(h:k<ord.length):ord.take (k+1)=ord.take k++[ord.getD k 0]:=by
 rw[IH h,mc h]
theorem EC{rs:List bE}{ord:List Nat}{k:Nat}(h:k<ord.length):bump rs ord (k+1)=eQ (bump rs ord k) (ord.getD k 0):=by
 unfold bump;rw[zH h,List.foldl_append];rfl
theorem BR{rs:List bE}{ord:List Nat}{k:Nat}(h:k<ord.length):gM rs ord (k+1)=gM rs ord k++[(rs.getD (ord.getD k 0) dr).m]:=by
 unfold gM;rw[zH h,List.map_append];rfl
theorem wA:∀(is:List Nat) (l:List bE),(is.foldl eQ l).length=l.length
 |[],_=>rfl
 |i::r,l=>by rw[OB,wA r,eQ,IM]
theorem tM(rs:List bE)(ord:List Nat)(k:Nat):(bump rs ord k).length=rs.length:=wA _ _
theorem rO:∀(is:List Nat) (l:List bE) (j:Nat),j ∉ is->(is.foldl eQ l).getD j dr=l.getD j dr
 |[],_,_,_=>rfl
 |i::r,l,j,h=>by
  simp only[List.mem_cons,not_or] at h;rw[OB,rO r _ j h.2,eQ];simp[Ip,JQ (Ne.symm h.1)]
theorem oV{rs:List bE}{ord:List Nat}(h:gL rs ord){k:Nat}(hk:k<rs.length):(bump rs ord k).getD (ord.getD k 0) dr=rs.getD (ord.getD k 0) dr:=
 rO _ _ _ (h.fresh hk)
end Go.Proofs.YtfidhgjmifendaaGreatDoor
