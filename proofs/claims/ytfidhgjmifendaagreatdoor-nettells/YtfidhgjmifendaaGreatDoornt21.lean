import Derived.Test.YtfidhgjmifendaaGreatDoornt19
set_option maxHeartbeats 6400000
set_option maxRecDepth 100000
open Go.Value renaming int→U,tuple→Ik,slice→J,pointer→Ie,string→Y,bool→Ia
open Go.IntKind renaming i64→O
open Go.Ending renaming returned→By
open Go.Proofs.Tryz renaming prog→AS,ntmps129→Q1
open Option renaming none→be,some→AI
open Go renaming wp_loop_rounds→J7,rounds_succ→JS
open Go.World renaming new_ne→QM,block_lt_of_cell?→Ix,ownsRow→J1
open List renaming length_set→IS,getD→Ip,getElem?_set_ne→JR,getElem?_eq_none→IZ,take_succ_eq_append_getElem→IF,getElem?_eq_getElem→If,filter_append→Qr,length_take→IA,append_nil→JF,getElem_of_mem→IU,getElem?_take_of_lt→IL,foldl_cons→OD
open Nat renaming le_refl→Ic,zero_add→IC
open Go.Builtin renaming zeroCells→Qb,clear_→Ov
namespace Go.Proofs.YtfidhgjmifendaaGreatDoor
open Go.RowKit
theorem D8(m:Int)(w:World)(h:within m 0 20=true) :
 Calls AS 45 #[U O m] w λe w'=>e=By (Ik #[U O (3*(Lib.bitLen m.toNat:Nat)),U O 0])/\w'=w:=by
 have hm:0<=m/\m<=20:=by simp[within] at h;omega
 have hl:(Lib.bitLen m.toNat:Int)<=64:=by have:=Lib.bitLen_le m.toNat 64 (by omega) (by omega);omega
 go_enter Tryz.func45,Tryz.ntmps45;go_wp2_with (first|(go_at_call 54;refine(cy _ _ _ _).mono ?_;rintro e w' ⟨rfl,rfl⟩;rw[h])|(go_at_call 71;refine(Tryz.bits_Len _ _ (by omega) (by omega)).mono ?_;rintro e w' ⟨rfl,rfl⟩));go_ret2;exact⟨rfl,rfl⟩
def th(a b:Int):Int:=if a<b then -1 else if b<a then 1 else 0
theorem xh(a b:Int)(w:World) :
 Calls AS 130 #[U O a,U O b] w λe w'=>e=By (U O (th a b))/\w'=w:=by
 go_enter Tryz.func130,Tryz.ntmps130;go_wp2;all_goals
  go_ret;exact⟨ai (by unfold th;(repeat' split)<;>omega),rfl⟩
def Ps(a b:Int):Int:=if a=0 then b else a
theorem Bg(a b:Int)(g:Nat)(c:Nat)(w:World)(h0:w.cell? ⟨g,0,be⟩=AI (U O a))(h1:w.cell? ⟨g,1,be⟩=AI (U O b)) :
 Calls AS 129 #[J (AI ⟨g,0,be⟩) 2 c] w λe w'=>e=By (U O (Ps a b))/\w'=w:=by
 by_cases ha:a=0
 .subst ha
  by_cases hb:b=0
  .subst hb
   go_enter Tryz.func129,Q1;go_wp2_with fail;refine J7 3 ?_;rw[JS];go_wp2_with fail;rw[JS];go_wp2_with fail;rw[JS];go_wp2_with fail;go_ret;exact⟨rfl,rfl⟩
  .have wG:(b !=0)=true:=by simpa using hb
   go_enter Tryz.func129,Q1;go_wp2_with fail;refine J7 3 ?_;rw[JS];go_wp2_with fail;rw[JS];go_wp2_with fail;go_ret;exact⟨rfl,rfl⟩
 .have ha':(a !=0)=true:=by simpa using ha
  go_enter Tryz.func129,Q1;go_wp2_with fail;refine J7 3 ?_;rw[JS];go_wp2_with fail;go_ret;exact⟨ai (by unfold Ps;rw[if_neg ha]),rfl⟩
def cfR(rs:List bL)(i k:Nat):Int:=Ps (th (rs.getD i dr).told (rs.getD k dr).told) (th k i)
theorem D9(ti tk:Int)(lb b off n ca i k:Nat)(w:World)(hl:w.cell? ⟨lb,0,be⟩=AI (J (AI ⟨b,off,be⟩) n ca))(hi:i<n)(hk:k<n)(Mk:w.cell? ⟨b,off+i*6+5,be⟩=AI (U O ti))(Hn:w.cell? ⟨b,off+k*6+5,be⟩=AI (U O tk)) :
 Calls AS 128 #[U O i,U O k,Ie (AI ⟨lb,0,be⟩)] w λe w'=>e=By (U O (Ps (th ti tk) (th k i)))/\w'=(w.alloc (.cells #[U O (th ti tk),U O (th k i)] 3)).drew:=by
 have fL:(0:Int)<=(i:Int):=Int.natCast_nonneg _;have hi1:(i:Int)<(n:Int):=by omega
 have uT:(0:Int)<=(k:Int):=Int.natCast_nonneg _;have jq:(k:Int)<(n:Int):=by omega
 have h1:=QM w _ hl;have h2:=QM w _ Mk;have h3:=QM w _ Hn;go_enter Tryz.func128,Tryz.ntmps128;go_wp2_with fail;go_region_held3 (λw'=>w'.cell? ⟨lb,0,be⟩=AI (J (AI ⟨b,off,be⟩) n ca)/\w'.cell? ⟨b,off+i*6+5,be⟩=AI (U O ti)/\w'.cell? ⟨b,off+k*6+5,be⟩=AI (U O tk)) (go_keep) (first|(go_at_call 130;refine(xh _ _ _).mono ?_;rintro e w' ⟨rfl,rfl⟩)|(go_at_call 129;refine(Bg (th ti tk) (th k i) _ _ _ (cT rfl) (cT rfl)).mono ?_;rintro e w' ⟨rfl,rfl⟩))
 go_wp2_with fail;go_ret;exact⟨rfl,rfl⟩
theorem Mt{rs:List bL}{p:Nat}(hp:p<rs.length)(r:bL):Ay (eQ rs) (p*6) r.cs=eQ (rs.set p r):=by
 apply List.ext_getElem?;intro k;by_cases hk:k<rs.length*6
 .have h2:=lN (rs.set p r) (k/6) (by rw[IS];omega) (k%6) (by omega)
  rw[show k/6*6+k%6=k by omega] at h2;rw[h2];by_cases hkp:k/6=p
  .rw[show(rs.set p r).getD (k/6) dr=r by rw[hkp];simp[Ip,List.getElem?_set_self hp]]
   have h3:=wU r.cs (eQ rs) (p*6) (k%6) (by rw[jv];omega) (by rw[jv,dX];omega);rw[show p*6+k%6=k by omega] at h3;exact h3
  .rw[show(rs.set p r).getD (k/6) dr=rs.getD (k/6) dr by simp[Ip,JR (Ne.symm hkp)]]
   rw[ki _ _ _ _ (by rw[jv];omega)];have h4:=lN rs (k/6) (by omega) (k%6) (by omega);rw[show k/6*6+k%6=k by omega] at h4;exact h4
 .rw[IZ (by rw[ju,dX];omega),IZ (by rw[dX,IS];omega)]
def ei(times:Int)(r:bL):Bool:=decide (r.told<times)
theorem vM(r:bL)(tb:Nat)(times:Int)(w:World)(ht:w.cell? ⟨tb,0,be⟩=AI (U O times)) :
 Calls AS 75 #[.agg #[Y r.m.name,U O r.m.state,U O r.m.aI,U O r.m.addr,Ia r.m.server,U O r.told],Ie (AI ⟨tb,0,be⟩)] w λe w'=>e=By (Ia (!ei times r))/\w'=w.alloc (.cells #[Y r.m.name,U O r.m.state,U O r.m.aI,U O r.m.addr,Ia r.m.server,U O r.told] 111):=by
 have hb:=Ix w _ ht;have Mm:∀ob,(w.alloc ob).cell? ⟨tb,0,be⟩=AI (U O times):=λob=>by
  rw[((Below.refl w.heap.size w).alloc (Ic _) ob).cell (p:=⟨tb,0,be⟩) hb];exact ht
 go_enter Tryz.func75,Tryz.ntmps75;go_wp2_with fail;go_ret;refine⟨ba ?_,rfl⟩;unfold ei;by_cases h:r.told<times
 .rw[decide_eq_true h];simp;omega
 .rw[decide_eq_false h];simp;omega
theorem uU(rs:List bL)(n b off c tb:Nat)(times:Int)(w:World)(hn:rs.length=n)(yZ:n<=1000)(hr:mK w b off rs)(hb:n≠0->b<w.heap.size)(ht:w.cell? ⟨tb,0,be⟩=AI (U O times)) :
 Calls AS 131 #[J (AI ⟨b,off,be⟩) n c,.func (.func 75) #[] #[Ie (AI ⟨tb,0,be⟩)]] w λe w'=>
  ((e=By (U O (-1))/\∀j,j<n->ei times (rs.getD j dr)=true)\/(∃i:Nat,i<n/\e=By (U O i)/\(∀j,j<i->ei times (rs.getD j dr)=true)/\ei times (rs.getD i dr)=false))/\Below w.heap.size w w':=by
 have HR:Hid (mK w b off rs):=hr;have HN:Hid _:=hn;have HT:Hid _:=ht;have RN:=Ix w _ ht;have LL:Hid _:=hb;clear hr hn ht hb;go_enter Tryz.func131,Tryz.ntmps131;go_wp2_with fail;go_loopw [8] (λi wr=>∃k:Nat,k<=n/\i=U O k/\Hid (∀j,j<k->ei times (rs.getD j dr)=true)/\Hid (Below w.heap.size w wr)) (λi _=>n-(intOf i).toNat)
 case atStart=>exact⟨0,Nat.zero_le _,rfl,λj hj=>by omega,Below.refl _ _⟩
 case round=>
  obtain⟨k,hk,rfl,HZ,HB⟩:=hrel;by_cases aW:k<n
  .obtain⟨c0,c1,c2,c3,c4,c5⟩:=HR.out.below HB.out (LL.out (by omega)) k (by rw[HN.out];exact aW)
   have Mm:wr.cell? ⟨tb,0,be⟩=AI (U O times):=by rw[HB.out.cell (p:=⟨tb,0,be⟩) RN];exact HT.out
   have lB:Hid (ei times (rs.getD k dr)=true->∀j,j<k+1->ei times (rs.getD j dr)=true):=λh j hj=>by
    by_cases e:j=k
    .subst e;exact h
    .exact HZ.out j (by omega)
   have hF:=λw h=>vM (rs.getD k dr) tb times w h;rcases hkp:ei times (rs.getD k dr) with _|_
   .rw[hkp] at hF
    have HKP:Hid _:=hkp;clear hkp lB;generalize hrk:rs.getD k dr=rk at *;have HRK:Hid _:=hrk;clear hrk;obtain⟨⟨nm,st,lf,ad,sv⟩,td⟩:=rk;simp only at c0 c1 c2 c3 c4 c5 hF;go_wp2_with fail;refine(hF _ Mm).mono ?_;rintro e w1 ⟨rfl,rfl⟩;go_wp2_with fail;go_ret;exact⟨.inr ⟨k,aW,rfl,HZ.out,by rw[HRK.out];exact HKP.out⟩,HB.out.alloc HB.out.size _⟩
   .rw[hkp] at hF
    have qg:Hid _:=lB.out hkp;clear hkp lB HZ;generalize(rs.getD k dr)=rk at *;obtain⟨⟨nm,st,lf,ad,sv⟩,td⟩:=rk;simp only at c0 c1 c2 c3 c4 c5 hF;go_wp2_with fail;refine(hF _ Mm).mono ?_;rintro e w1 ⟨rfl,rfl⟩;go_wp2_with fail;go_roundw
    case rel=>exact⟨k+1,by omega,by go_num,qg,HB.out.alloc HB.out.size _⟩
    case measure=>simp[intOf];omega
  .have qg:Hid (∀j,j<n->ei times (rs.getD j dr)=true):=λj hj=>HZ.out j (by omega)
   clear HZ;go_wp2_with fail;go_ret;exact⟨.inl ⟨rfl,qg.out⟩,HB.out⟩
def Gj(m:Nat):List Value:=(Qb #[Y ⟨#[]⟩,U O 0,U O 0,U O 0,Ia false,U O 0] m).toList
theorem CZ(m:Nat):(Gj m).length=m*6:=by simp[Gj,Qb]
theorem Mu(m:Nat):∀v∈Gj m,v.oneCell'=true:=by
 intro v hv;simp only[Gj,Qb,Array.toList_map,List.mem_map] at hv;obtain⟨i,_,rfl⟩:=hv;have h:i%6<6:=Nat.mod_lt _ (by decide);show Value.oneCell' (#[Value.string ⟨#[]⟩,U O 0,U O 0,U O 0,Ia false,U O 0][i%6]!)=true;generalize i%6=k at h
 match k,h with
 |0,_=>rfl
 |1,_=>rfl
 |2,_=>rfl
 |3,_=>rfl
 |4,_=>rfl
 |5,_=>rfl
theorem tj(w:World)(ty:TypeId)(b o m c:Nat)(hm:0<m)(hc:∀j,j<m*6->(w.cell? ⟨b,o+j,be⟩).isSome=true)(hf:∀j,j<m*6->w.frozen? ⟨b,o+j,be⟩=false) : (Ov #[35] ty #[J (AI ⟨b,o,be⟩) m c]).run AS w=.ok (Ik #[]) (w.setCells b o (Gj m)):=by
 have oM:=run_storeCells_cells (P:=AS) b o (Gj m) 0 w (λj hj=>by simpa using hc j (by rw[CZ] at hj;exact hj)) (λj hj=>by simpa using hf j (by rw[CZ] at hj;exact hj)) (Mu m);simp only[Nat.add_zero] at oM;have Vz:(Qb (Value.agg #[Y ⟨#[]⟩,U O 0,U O 0,U O 0,Ia false,U O 0]).cells m).toList=Gj m:=rfl;obtain⟨k,rfl⟩:∃k,m=k+1:=⟨m-1,by omega⟩;simp[Ov,run_underlying Tryz.underlying35,Vz,oM]
theorem Bh{times:Int}{r:bL}(h:ei times r=true):[r].filter (ei times)=[r]:=by simp[h]
theorem vN{times:Int}{r:bL}(h:ei times r=false):[r].filter (ei times)=[]:=by simp[h]
structure C5(rs cur:List bL)(times:Int)(i j:Nat):Prop where
 len:cur.length=rs.length
 head:cur.take i=(rs.take j).filter (ei times)
 tail:cur.drop j=rs.drop j
theorem C5.fa{rs cur:List bL}{times:Int}{i j:Nat}(h:C5 rs cur times i j)(iY:i<j)(hj:j<rs.length)(hk:ei times (rs.getD j dr)=true):C5 rs (cur.set i (rs.getD j dr)) times (i+1) (j+1):=by
 have hs:rs.take (j+1)=rs.take j++[rs.getD j dr]:=by rw[IF hj];simp[Ip,If hj]
 have hi:i<cur.length:=by rw[h.len];omega
 refine⟨by rw[IS];exact h.len,?_,?_⟩
 .rw[hs,Qr,<- h.head,IF (by rw[IS];exact hi),List.getElem_set_self,List.take_set,List.set_eq_of_length_le (by rw[IA];omega),Bh hk]
 .rw[List.drop_set_of_lt (by omega)]
  have:=congrArg (List.drop 1) h.tail
  rwa [List.drop_drop,List.drop_drop] at this
theorem C5.skip{rs cur:List bL}{times:Int}{i j:Nat}(h:C5 rs cur times i j)(hj:j<rs.length)(hk:ei times (rs.getD j dr)=false):C5 rs cur times i (j+1):=by
 have hs:rs.take (j+1)=rs.take j++[rs.getD j dr]:=by rw[IF hj];simp[Ip,If hj]
 refine⟨h.len,?_,?_⟩
 .rw[hs,Qr,<- h.head,vN hk,JF]
 .have:=congrArg (List.drop 1) h.tail
  rwa [List.drop_drop,List.drop_drop] at this
theorem C5.get{rs cur:List bL}{times:Int}{i j:Nat}(h:C5 rs cur times i j):cur.getD j dr=rs.getD j dr:=by
 have:=congrArg (λl:List bL=>l[0]?.getD dr) h.tail;simpa[Ip,List.getElem?_drop] using this
theorem filter_all{times:Int}{rs:List bL}(h:∀j,j<rs.length->ei times (rs.getD j dr)=true):rs.filter (ei times)=rs:=by
 rw[List.filter_eq_self];intro r hr;obtain⟨j,hj,rfl⟩:=IU hr;have:=h j hj
 rwa [show rs.getD j dr=rs[j] by simp[Ip,If hj]] at this
theorem C5.start{rs:List bL}{times:Int}{i:Nat}(hi:i<rs.length)(h1:∀j,j<i->ei times (rs.getD j dr)=true)(h2:ei times (rs.getD i dr)=false):C5 rs rs times i (i+1):=by
 have hs:rs.take (i+1)=rs.take i++[rs.getD i dr]:=by rw[IF hi];simp[Ip,If hi]
 refine⟨rfl,?_,rfl⟩;rw[hs,Qr,filter_all (rs:=rs.take i) (λj hj=>by
  have hji:j<i:=by rw[IA] at hj;omega
  have:=h1 j hji
  rwa [show(rs.take i).getD j dr=rs.getD j dr by simp[Ip,IL hji]]),vN h2,JF]
def rl(g:Nat)(w w':World):Prop:=w.heap.size<=w'.heap.size/\∀k,k<w.heap.size->k≠g->w'.heap[k]?=w.heap[k]?
theorem rl.trans{g:Nat}{a b c:World}(h:rl g a b)(k:rl g b c):rl g a c:=⟨Nat.le_trans h.1 k.1,λj hj hg=>(k.2 j (Nat.lt_of_lt_of_le hj h.1) hg).trans (h.2 j hj hg)⟩
theorem rl.of{g:Nat}{w w':World}(h:Below w.heap.size w w'):rl g w w':=⟨h.size,λk hk _=>h.block k hk⟩
theorem rl.setCell{g:Nat}{w w':World}(h:rl g w w')(o:Nat)(v:Value):rl g w (w'.setCell ⟨g,o,be⟩ v):=by
 refine⟨by simpa using h.1,λk hk hg=>?_⟩;have e:(w'.setCell ⟨g,o,be⟩ v).heap[k]?=w'.heap[k]?:=by
  simp only[World.setCell,Array.getElem?_modify];rw[if_neg (Ne.symm hg)]
 rw[e];exact h.2 k hk hg
theorem rl.setCells{g:Nat}:∀(vs:List Value) (o:Nat) (w w':World),rl g w w'->rl g w (w'.setCells g o vs)
 |[],_,_,_,h=>h
 |v::r,o,w,_,h=>rl.setCells r (o+1) w _ (h.setCell o v)
theorem tl(rs:List bL)(n g c tb base:Nat)(times:Int)(w:World)(hn:rs.length=n)(yZ:n<=1000)(ho:cH base w (J (AI ⟨g,0,be⟩) n c) rs)(hbase:base<=w.heap.size)(RN:tb<base)(ht:w.cell? ⟨tb,0,be⟩=AI (U O times)) :
 Calls AS 74 #[J (AI ⟨g,0,be⟩) n c,.func (.func 75) #[] #[Ie (AI ⟨tb,0,be⟩)]] w λe w'=>∃m,e=By (J (AI ⟨g,0,be⟩) m c)/\cH base w' (J (AI ⟨g,0,be⟩) m c) (rs.filter (ei times))/\Below base w w'/\rl g w w':=by
 have HO:Hid (cH _ _ _ _):=ho;have HN:Hid _:=hn;have HT:Hid _:=ht;obtain⟨dn,hgh⟩:=HO.out.lt g rfl;obtain⟨fG,dO⟩:n<=c/\c<=maxLen:=by
  rcases HO.out.2 with⟨hv,_⟩|⟨g',c',cur,hv,ev,hg,fG,dO,b9,bf⟩
  .cases hv
  .simp only[Value.slice.injEq,Option.some.injEq,Addr.mk.injEq,and_true] at hv
   obtain⟨rfl,rfl,rfl⟩:=hv;exact⟨by omega,dO⟩
 unfold maxLen at dO;clear ho hn ht;go_enter Tryz.func74,Tryz.ntmps74;go_wp2_with fail;refine(uU rs n g 0 c tb times _ HN.out yZ (pI HO.out) (λ_=>hgh) HT.out).mono ?_;rintro e w1 ⟨⟨rfl,ku⟩|⟨i0,fL,rfl,yq,yr⟩,aB⟩
 .have HF:Hid _:=filter_all (λj hj=>ku j (by rw[HN.out] at hj;exact hj))
  have lC:Hid (cH _ _ _ _):=HO.out.below aB;have aV:Hid (Below base w w1):=aB.mono hbase;have Pt:Hid (rl g w w1):=rl.of aB;clear ku aB;go_wp2_with fail;go_ret;exact⟨n,rfl,by rw[HF.out];exact lC.out,aV.out,Pt.out⟩
 .have lC:Hid (cH base w1 (J (AI ⟨g,0,be⟩) n c) rs):=HO.out.below aB
  have aV:Hid (Below base w w1):=aB.mono hbase;have VP:Hid (C5 rs rs times i0 (i0+1)):=C5.start (by rw[HN.out];exact fL) yq yr;have Pt:Hid (rl g w w1):=rl.of aB;clear yq yr aB;go_wp2_with fail;go_loopw [5,6] (λx y wr=>∃(i j:Nat) (cur:List bL),i<j/\j<=n/\x=U O i/\y=U O j/\Hid (C5 rs cur times i j)/\Hid (cH base wr (J (AI ⟨g,0,be⟩) n c) cur)/\Hid (Below base w wr)/\Hid (rl g w wr)) (λ_ y _=>n-(intOf y).toNat)
  case atStart=>exact⟨i0,i0+1,rs,by omega,by omega,rfl,by go_num,VP,lC,aV,Pt⟩
  case round=>
   clear lC aV VP Pt;obtain⟨i,j,cur,iY,hj,rfl,rfl,HC,Bi,HB,Pt⟩:=hrel;have cF:base<=wr.heap.size:=by have:=HB.out.size;omega
   have wM:g<wr.heap.size:=(Bi.out.lt g rfl).2;have o9:cur.length=n:=by rw[HC.out.len,HN.out]
   by_cases aW:j<n
   .obtain⟨c0,c1,c2,c3,c4,c5⟩:=pI Bi.out j (by rw[o9];exact aW)
    rw[HC.out.get] at c0 c1 c2 c3 c4 c5;have Mm:∀ob,(wr.alloc ob).cell? ⟨tb,0,be⟩=AI (U O times):=λob=>by
     rw[((Below.refl wr.heap.size wr).alloc (Ic _) ob).cell (p:=⟨tb,0,be⟩) (by simp only;omega),HB.out.cell (p:=⟨tb,0,be⟩) RN];exact HT.out
    have hF:=λw h=>vM (rs.getD j dr) tb times w h;simp only[IC] at c0 c1 c2 c3 c4 c5;rcases hkp:ei times (rs.getD j dr) with _|_
    .have TP:Hid (C5 rs cur times i (j+1)):=HC.out.skip (by rw[HN.out];exact aW) hkp
     rw[hkp] at hF;clear hkp HC;generalize(rs.getD j dr)=rk at *;obtain⟨⟨nm,st,lf,ad,sv⟩,td⟩:=rk;simp only at c0 c1 c2 c3 c4 c5 hF;go_wp2_with fail;refine(hF _ (Mm _)).mono ?_;rintro e w2 ⟨rfl,rfl⟩;have aJ:Below wr.heap.size wr ((wr.alloc (.cells #[Y nm,U O st,U O lf,U O ad,Ia sv,U O td] 111)).alloc (.cells #[Y nm,U O st,U O lf,U O ad,Ia sv,U O td] 111)):=((Below.refl _ _).alloc (Ic _) _).alloc (by simp) _;have gX:=Bi.out.below aJ;have dY:Hid (cH _ _ _ _):=gX;have cj:Hid _:=HB.out.trans (aJ.mono cF);have rM:Hid (rl _ _ _):=Pt.out.trans (rl.of aJ);clear aJ gX;go_wp2_with fail;refine⟨⟨_,_,_,_,_,_,_,_,_,_,_,_,_,_,_,_,_,_,_,_,_,_,_,⟨i,j+1,cur,by omega,by omega,rfl,by go_num,TP,dY,cj,rM⟩,rfl⟩,?_⟩;simp[intOf];omega
    .have TP:Hid _:=HC.out.fa iY (by rw[HN.out];exact aW) hkp
     rw[hkp] at hF;have rf:∀o,wr.frozen? ⟨g,o,be⟩=false:=λo=>World.ownsRow.frozenAt (n:=n) (xs:=eQ cur) (by have h:=Bi.out;have h2:wr.ownsRow base 111 6 (J (AI ⟨g,0,be⟩) n c) cur.length (eQ cur):=h;rw[o9] at h2;exact h2) o;obtain⟨d0,d1,d2,d3,d4,d5⟩:=pI Bi.out i (by rw[o9];omega);simp only[IC] at d0 d1 d2 d3 d4 d5;clear hkp HC;generalize(rs.getD j dr)=rk at *;obtain⟨⟨nm,st,lf,ad,sv⟩,td⟩:=rk;simp only at c0 c1 c2 c3 c4 c5 hF;have hOS:(wr.setCells g (i*6) (bL.mk ⟨nm,st,lf,ad,sv⟩ td).cs).ownsRow base 111 6 (J (AI ⟨g,0,be⟩) n c) n (eQ (cur.set i ⟨⟨nm,st,lf,ad,sv⟩,td⟩)):=by
      have h2:wr.ownsRow base 111 6 (J (AI ⟨g,0,be⟩) n c) cur.length (eQ cur):=Bi.out;rw[o9] at h2;have h3:=fV (bL.mk ⟨nm,st,lf,ad,sv⟩ td).cs _ (i*6) _ h2
      rwa [Mt (by rw[o9];omega)] at h3
     have HOS:Hid (cH base (wr.setCells g (i*6) (bL.mk ⟨nm,st,lf,ad,sv⟩ td).cs) (J (AI ⟨g,0,be⟩) n c) (cur.set i ⟨⟨nm,st,lf,ad,sv⟩,td⟩)):=(show J1 _ _ _ _ _ (cur.set i ⟨⟨nm,st,lf,ad,sv⟩,td⟩).length _ by rw[IS,o9];exact hOS);have HFS:Hid (rl g w (wr.setCells g (i*6) (bL.mk ⟨nm,st,lf,ad,sv⟩ td).cs)):=rl.setCells _ _ _ _ Pt.out;have HBS:Hid (Below base w (wr.setCells g (i*6) (bL.mk ⟨nm,st,lf,ad,sv⟩ td).cs)):=dV dn _ _ _ _ HB.out;clear hOS;go_wp2_with fail;refine(hF _ (Mm _)).mono ?_;rintro e w2 ⟨rfl,rfl⟩;go_wp2_with fail;have hbz:Below (wr.setCells g (i*6) (bL.mk ⟨nm,st,lf,ad,sv⟩ td).cs).heap.size (wr.setCells g (i*6) (bL.mk ⟨nm,st,lf,ad,sv⟩ td).cs) (((wr.setCells g (i*6) (bL.mk ⟨nm,st,lf,ad,sv⟩ td).cs).alloc (.cells #[Y nm,U O st,U O lf,U O ad,Ia sv,U O td] 111)).alloc (.cells #[Y nm,U O st,U O lf,U O ad,Ia sv,U O td] 111)):=((Below.refl _ _).alloc (Ic _) _).alloc (by simp) _;refine⟨⟨_,_,_,_,_,_,_,_,_,_,_,_,_,_,_,_,_,_,_,_,_,_,_,⟨i+1,j+1,cur.set i ⟨⟨nm,st,lf,ad,sv⟩,td⟩,by omega,by omega,by go_num,by go_num,TP,HOS.out.below hbz,HBS.out.trans (hbz.mono (by have:=HBS.out.size;omega)),HFS.out.trans (rl.of hbz)⟩,rfl⟩,?_⟩;simp[intOf];omega
   .have CB:j=n:=by omega
    subst CB;have HR:Hid (cur.take i=rs.filter (ei times)):=by
     have h:=HC.out.head;rw[show rs.take j=rs by rw[<- HN.out];exact List.take_length] at h;exact h
    have hOW:wr.ownsRow base 111 6 (J (AI ⟨g,0,be⟩) j c) j (eQ cur):=by
     have h2:wr.ownsRow base 111 6 (J (AI ⟨g,0,be⟩) j c) cur.length (eQ cur):=Bi.out;rw[o9] at h2;exact h2
    have GW:∀ty,(Ov #[35] ty #[J (AI ⟨g,i*6,be⟩) (j-i) (c-i)]).run AS wr=.ok (Ik #[]) (wr.setCells g (i*6) (Gj (j-i))):=λty=>
     tj _ ty g _ _ _ (by omega) (λk hk=>by rw[World.ownsRow.cellAt hOW _ (by omega),If (by rw[dX,o9];omega)];rfl) (λk _=>World.ownsRow.frozenAt hOW _)
    have HF:Hid ((wr.setCells g (i*6) (Gj (j-i))).ownsRow base 111 6 (J (AI ⟨g,0,be⟩) i c) i (eQ (cur.take i))):=by
     have h:=mI (m:=i) (fV (Gj (j-i)) _ (i*6) _ hOW) (by omega);rw[oo (ys:=eQ (cur.take i)) (by rw[ju,dX,o9];omega) (by rw[dX,IA];omega) (λk hk=>by
      rw[ki _ _ _ _ (by omega),<- sV,IL hk])] at h
     exact h
    have LG:Hid ((cur.take i).length=i):=(show(cur.take i).length=i by rw[IA];omega);have HBF:Hid (Below base w (wr.setCells g (i*6) (Gj (j-i)))):=dV dn _ _ _ _ HB.out;have HFF:Hid (rl g w (wr.setCells g (i*6) (Gj (j-i)))):=rl.setCells _ _ _ _ Pt.out;have hic:i<=c:=by omega
    have ajF:¬ c=i:=by omega
    clear hOW Bi HB HC;go_wp2_with fail;go_ret;refine⟨i,rfl,?_,HBF.out,HFF.out⟩;rw[<- HR.out];show J1 _ _ _ _ _ (cur.take i).length _;rw[LG.out];exact HF.out
structure iR(rs:List bL)(ord:List Nat):Prop where
 perm:ord.Perm (List.range rs.length)
 less:∀i j,i<j->j<ord.length->cfR rs (ord.getD i 0) (ord.getD j 0)<0
theorem iR.len{rs:List bL}{ord:List Nat}(h:iR rs ord):ord.length=rs.length:=by rw[h.perm.length_eq];simp
theorem iR.bd{rs:List bL}{ord:List Nat}(h:iR rs ord):∀x∈ord,x<rs.length:=λx hx=>by simpa using h.perm.mem_iff.1 hx
theorem iR.nodup{rs:List bL}{ord:List Nat}(h:iR rs ord):ord.Nodup:=h.perm.nodup_iff.2 List.nodup_range
theorem pJ{ord:List Nat}{j:Nat}(h:j<ord.length):ord.getD j 0=ord[j]:=by simp[Ip,If h]
theorem iR.lt{rs:List bL}{ord:List Nat}(h:iR rs ord){j:Nat}(hj:j<rs.length):ord.getD j 0<rs.length:=by
 have Ea:j<ord.length:=by rw[h.len];exact hj
 rw[pJ Ea];exact h.bd _ (List.getElem_mem Ea)
theorem iR.fresh{rs:List bL}{ord:List Nat}(h:iR rs ord){j:Nat}(hj:j<rs.length):ord.getD j 0 ∉ ord.take j:=by
 have Ea:j<ord.length:=by rw[h.len];exact hj
 rw[pJ Ea];intro hm;obtain⟨i,hi,e⟩:=IU hm;rw[IA] at hi;rw[List.getElem_take] at e;exact List.pairwise_iff_getElem.1 h.nodup i j (by omega) Ea (by omega) e
def eK(l:List bL)(i:Nat):List bL:=l.set i ⟨(l.getD i dr).m,(l.getD i dr).told+1⟩
def bump(rs:List bL)(ord:List Nat)(k:Nat):List bL:=(ord.take k).foldl eK rs
def gv(rs:List bL)(ord:List Nat)(k:Nat):List Mem:=(ord.take k).map (λi=>(rs.getD i dr).m)
theorem Eb(rs:List bL)(ord:List Nat):bump rs ord 0=rs:=by simp[bump]
theorem Bj(rs:List bL)(ord:List Nat):gv rs ord 0=[]:=by simp[gv]
theorem zo{ord:List Nat}{k:Nat}(h:k<ord.length):ord.take (k+1)=ord.take k++[ord.getD k 0]:=by
 rw[IF h,pJ h]
theorem Ec{rs:List bL}{ord:List Nat}{k:Nat}(h:k<ord.length):bump rs ord (k+1)=eK (bump rs ord k) (ord.getD k 0):=by
 unfold bump;rw[zo h,List.foldl_append];rfl
theorem Bk{rs:List bL}{ord:List Nat}{k:Nat}(h:k<ord.length):gv rs ord (k+1)=gv rs ord k++[(rs.getD (ord.getD k 0) dr).m]:=by
 unfold gv;rw[zo h,List.map_append];rfl
theorem vO:∀(is:List Nat) (l:List bL),(is.foldl eK l).length=l.length
 |[],_=>rfl
 |i::r,l=>by rw[OD,vO r,eK,IS]
theorem tm(rs:List bL)(ord:List Nat)(k:Nat):(bump rs ord k).length=rs.length:=vO _ _
theorem rm:∀(is:List Nat) (l:List bL) (j:Nat),j ∉ is->(is.foldl eK l).getD j dr=l.getD j dr
 |[],_,_,_=>rfl
 |i::r,l,j,h=>by
  simp only[List.mem_cons,not_or] at h;rw[OD,rm r _ j h.2,eK];simp[Ip,JR (Ne.symm h.1)]
theorem ow{rs:List bL}{ord:List Nat}(h:iR rs ord){k:Nat}(hk:k<rs.length):(bump rs ord k).getD (ord.getD k 0) dr=rs.getD (ord.getD k 0) dr:=
 rm _ _ _ (h.fresh hk)
end Go.Proofs.YtfidhgjmifendaaGreatDoor
