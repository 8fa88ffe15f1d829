import Derived.Test.YtbfghimjdlpicaaGreatDoorna10
import Derived.Test.YtbfghimjdlpicaaGreatDoorna13
import Derived.Laws.EntriesVeiled
import Derived.OneCell
set_option maxHeartbeats 12800000
set_option maxRecDepth 100000
open Go.Value renaming string→Y,agg→Ik,int→U,bool→Ia,pointer→If,slice→J,func→IQ,tuple→Ip,ownBlock→JF
open Option renaming none→be,some→AI,isNone_none→OX,isNone_some→OY
open Go.IntKind renaming i64→O
open Go.Ending renaming returned→AT
open Go.Obj renaming cells→By
open Go.Proofs.Tryz renaming prog→AS,underlying47→Oa,underlying48→Ob
open Go.World renaming block_lt_of_cell?→Iw,frozen?→It,cell?_alloc_past→Oq,ownsRow_made→OZ
open Go.RowKit.Below renaming refl→Ib,heap_alloc→II,heap_setCell→I0
open Nat renaming le_refl→Ie,zero_le→IF,lt_of_lt_of_le→IJ
open Go renaming heap_alloc_new→Ij,bodyPost_ret→IL,maxLen→Io,TypeId→Ja,wpList_append_own→IZ,ownsRow_setCell_other→Iv
open Array renaming getElem?_eq_some_iff→BY
open List renaming getD→Ir,getElem?_eq_getElem→Ic,any_eq_true→Qq,getElem_mem→IK,getElem_of_mem→IT,length_nil→IX,getElem?_eq_some_iff→Jt,findIdx_le_length→QD,pairwise_iff_getElem→Jb,length_append→Ii,mem_append→Jk,pairwise_append→Q1,length_set→IS
open Bool renaming and_eq_true→IG
open Go.Lib renaming run_eql_slice_nil→Jy
open Go.RowKit renaming ownsRow_setCell_below→Il
open Go.Joins renaming block_setCell→IC
namespace Go.Proofs.YtbfghimjdlpicaaGreatDoor
open Go.RowKit
theorem GN(m:Mem)(nb:Nat)(nm:ByteArray)(w:World)(h:w.cell? ⟨nb,0,be⟩=AI (Y nm)) :
 Calls AS 113 #[Ik #[Y m.name,U O m.state,U O m.aI,U O m.addr,Ia m.server],If (AI ⟨nb,0,be⟩)] w λe w'=>e=AT (Ia (decide (m.name=nm)))/\w'=w.alloc (By #[Y m.name,U O m.state,U O m.aI,U O m.addr,Ia m.server] 52):=by
 have hb:=Iw w _ h;have h2:∀ob,(w.alloc ob).cell? ⟨nb,0,be⟩=AI (Y nm):=λob=>by
  rw[((Ib w.heap.size w).alloc (Ie _) ob).cell (p:=⟨nb,0,be⟩) hb];exact h
 obtain⟨mn,st,lf,ad,sv⟩:=m;go_enter Tryz.func113,Tryz.ntmps113;go_wp2_with fail;go_ret;exact⟨aW (kC _ _),rfl⟩
theorem CT(ms:List Mem)(pa:Option Addr)(n c nb:Nat)(nm:ByteArray)(w:World)(hv:Sl w (J pa n c) ms)(xM:n<=1000)(ht:w.cell? ⟨nb,0,be⟩=AI (Y nm)) :
 Calls AS 114 #[J pa n c,IQ (.func 113) #[] #[If (AI ⟨nb,0,be⟩)]] w λe w'=>
  ((e=AT (U O (-1))/\Hid (bX ms nm=be))\/(∃i:Nat,i<n/\e=AT (U O i)/\Hid (bX ms nm=AI (ms.getD i dm))))/\Below w.heap.size w w':=by
 obtain⟨pa',ca,he,_,ha⟩:=hv;simp only[Value.slice.injEq] at he;obtain⟨rfl,hN,rfl⟩:=he;have HA:Hid _:=ha;have HN:Hid _:=hN.symm;have HT:Hid _:=ht;have Wd:=Iw w _ ht;clear ha hN ht;go_enter Tryz.func114,Tryz.ntmps114;go_wp2_with fail;go_loopw [8] (λi wr=>∃k:Nat,k<=n/\i=U O k/\Hid (∀j,j<k->(ms.getD j dm).name≠nm)/\Hid (Below w.heap.size w wr)) (λi _=>n-(intOf i).toNat)
 case atStart=>exact⟨0,IF _,rfl,λj hj=>by omega,Ib _ _⟩
 case round=>
  obtain⟨k,hk,rfl,HZ,HB⟩:=hrel;by_cases aX:k<n
  .obtain⟨b,off,ru,kb,hr⟩:∃b off,pa=AI ⟨b,off,be⟩/\b<w.heap.size/\Row w b off ms:=by
    rcases HA.out with h|h
    .have:=HN.out;rw[h] at this;simp at this;omega
    .exact h
   subst ru;obtain⟨c0,c1,c2,c3,c4⟩:=hr.later HB.out kb k (by rw[HN.out];exact aX);clear hr;have RO:wr.cell? ⟨nb,0,be⟩=AI (Y nm):=by rw[HB.out.cell (p:=⟨nb,0,be⟩) Wd];exact HT.out
   have HY:Hid ((ms.getD k dm).name=nm->bX ms nm=AI (ms.getD k dm)):=λh=>oX (by rw[HN.out];exact aX) HZ.out h;have ma:Hid ((ms.getD k dm).name≠nm->∀j,j<k+1->(ms.getD j dm).name≠nm):=λh j hj=>by
    by_cases e:j=k
    .subst e;exact h
    .exact HZ.out j (by omega)
   have hF:=λw h=>GN (ms.getD k dm) nb nm w h;by_cases oo:(ms.getD k dm).name=nm
   .have HF:Hid _:=HY.out oo
    rw[decide_eq_true oo] at hF;clear oo ma HY;generalize RS:ms.getD k dm=mk at *;have HMK:Hid _:=RS;clear RS;obtain⟨mn,st,lf,ad,sv⟩:=mk;simp only at c0 c1 c2 c3 c4 hF;go_wp2_with fail;refine(hF _ RO).mono ?_;rintro e w1 ⟨rfl,rfl⟩;go_wp2_with fail;go_ret;exact⟨.inr ⟨k,aX,rfl,by rw[HMK.out];exact HF⟩,HB.out.alloc HB.out.size _⟩
   .have qV:Hid _:=ma.out oo
    rw[decide_eq_false oo] at hF;clear oo ma HY HZ;generalize ms.getD k dm=mk at *;obtain⟨mn,st,lf,ad,sv⟩:=mk;simp only at c0 c1 c2 c3 c4 hF;go_wp2_with fail;refine(hF _ RO).mono ?_;rintro e w1 ⟨rfl,rfl⟩;go_wp2_with fail;go_roundw
    case rel=>exact⟨k+1,by omega,by go_num,qV,HB.out.alloc HB.out.size _⟩
    case measure=>simp[intOf];omega
  .have qV:Hid _:=sG λj hj=>HZ.out j (by have:=HN.out;omega)
   clear HZ;go_wp2_with fail;go_ret;exact⟨.inl ⟨rfl,qV⟩,HB.out⟩
theorem ff{ms:List Mem}{t:ByteArray}{m:Mem}(h:bX ms t=AI m):eR ms t=m:=by unfold eR;rw[h];rfl
theorem uT{ms:List Mem}{t:ByteArray}(h:bX ms t=be):eR ms t=dm:=by unfold eR;rw[h];rfl
theorem jK(b:Nat)(pm:Option Addr)(nm cm:Nat)(ms:List Mem)(t:ByteArray)(w:World)(hc:w.cell? ⟨b,2,be⟩=AI (J pm nm cm))(hm:Sl w (J pm nm cm) ms)(hn:nm<=1000) :
 Calls AS 64 #[If (AI ⟨b,0,be⟩),Y t] w λe w'=>e=AT (Ip #[Ik #[Y (eR ms t).name,U O (eR ms t).state,U O (eR ms t).aI,U O (eR ms t).addr,Ia (eR ms t).server],Ia (bX ms t).isSome])/\Below w.heap.size w w':=by
 have HM:Hid (Sl _ _ _):=hm;have hb:=Iw w _ hc;have HC:Hid _:=hc;clear hm;obtain⟨W,hW⟩:∃W,W=(w.alloc (By #[Y t] 9)).alloc (By #[Y ⟨#[]⟩,U O 0,U O 0,U O 0,Ia false] 52):=⟨_,rfl⟩;have tp:Below w.heap.size w W:=by rw[hW];exact((Ib _ _).alloc (Ie _) _).alloc (by simp) _
 have cI:W.heap[w.heap.size]?=AI (By #[Y t] 9 (0,0)):=by
  rw[hW,II _ _ _ (by simp)];exact Ij w _
 have dO:W.heap[w.heap.size+1]?=AI (By #[Y ⟨#[]⟩,U O 0,U O 0,U O 0,Ia false] 52 (0,0)):=by
  have h:=Ij (w.alloc (By #[Y t] 9)) (By #[Y ⟨#[]⟩,U O 0,U O 0,U O 0,Ia false] 52);rw[hW];simpa using h
 have RT:W.heap.size=w.heap.size+2:=by rw[hW];simp
 go_enter Tryz.func64,Tryz.ntmps64;go_wp2_with fail;rw[<- hW];clear hW;refine(CT ms pm nm cm _ t W (HM.out.below tp) hn (ae cI 0)).mono ?_;rintro e w1 ⟨Ra,aC⟩;have h2:=(aC.block _ (by omega)).trans dO;have HB:Hid _:=tp.trans (aC.mono (by omega));have T0:Hid (Sl _ _ _):=HM.out.below HB.out;have d2:w1.cell? ⟨b,2,be⟩=AI (J pm nm cm):=by rw[HB.out.cell (p:=⟨b,2,be⟩) hb];exact HC.out
 have r0:=ae h2 0;have r1:=ae h2 1;have r2:=ae h2 2;have r3:=ae h2 3;have r4:=ae h2 4;have z0:w1.frozen? ⟨w.heap.size+1,0,be⟩=false:=by simp[It,h2]
 have z1:w1.frozen? ⟨w.heap.size+1,1,be⟩=false:=by simp[It,h2]
 have z2:w1.frozen? ⟨w.heap.size+1,2,be⟩=false:=by simp[It,h2]
 have z3:w1.frozen? ⟨w.heap.size+1,3,be⟩=false:=by simp[It,h2]
 have z4:w1.frozen? ⟨w.heap.size+1,4,be⟩=false:=by simp[It,h2]
 have pA:=(BY.1 h2).1;clear tp cI dO aC h2 RT hc;rcases Ra with⟨rfl,HF⟩|⟨i,hi,rfl,HF⟩
 .have HO:Hid (eR ms t=dm/\(bX ms t).isSome=false):=⟨uT HF.out,by rw[HF.out];rfl⟩
  go_wp2_with fail;refine IL (v:=Ip #[Ik #[Y ⟨#[]⟩,U O 0,U O 0,U O 0,Ia false],Ia false]) ?_ rfl ⟨by rw[HO.out.1,HO.out.2];rfl,?_⟩
  .simp[results,Tryz.results64,go_sem,r0,r1,r2,r3,r4]
  exact((((HB.out.setCell (p:=⟨w.heap.size+1,0,be⟩) (by simp) _).setCell (p:=⟨w.heap.size+1,1,be⟩) (by simp) _).setCell (p:=⟨w.heap.size+1,2,be⟩) (by simp) _).setCell (p:=⟨w.heap.size+1,3,be⟩) (by simp) _).setCell (p:=⟨w.heap.size+1,4,be⟩) (by simp) _
 .have HO:Hid (eR ms t=ms.getD i dm/\(bX ms t).isSome=true):=⟨ff HF.out,by rw[HF.out];rfl⟩
  obtain⟨pa',ca,he,_,ha⟩:=T0.out;simp only[Value.slice.injEq] at he;obtain⟨rfl,hN,rfl⟩:=he;obtain⟨b2,off,ru,kb,hr⟩:∃b off,pm=AI ⟨b,off,be⟩/\b<w1.heap.size/\Row w1 b off ms:=by
   rcases ha with h|h
   .rw[h] at hN;simp at hN;omega
   .exact h
  subst ru;obtain⟨c0,c1,c2,c3,c4⟩:=hr i (by omega);clear hr hN ha HF;generalize ms.getD i dm=mk at *;obtain⟨mn,st,lf,ad,sv⟩:=mk;simp only at c0 c1 c2 c3 c4;go_wp2_with fail;refine IL (v:=Ip #[Ik #[Y mn,U O st,U O lf,U O ad,Ia sv],Ia true]) ?_ rfl ⟨by rw[HO.out.1,HO.out.2],?_⟩
  .simp[results,Tryz.results64,go_sem,r0,r1,r2,r3,r4]
  exact((((HB.out.setCell (p:=⟨w.heap.size+1,0,be⟩) (by simp) _).setCell (p:=⟨w.heap.size+1,1,be⟩) (by simp) _).setCell (p:=⟨w.heap.size+1,2,be⟩) (by simp) _).setCell (p:=⟨w.heap.size+1,3,be⟩) (by simp) _).setCell (p:=⟨w.heap.size+1,4,be⟩) (by simp) _
def ed(ms:List Mem)(r:bU):Bool:=match bX ms r.m.name with
 |none=>true
 |some k=>bF r.m k==0&&dn r.m k
theorem A9(b:Nat)(pm:Option Addr)(nm cm:Nat)(ms:List Mem)(r:bU)(w:World)(hc:w.cell? ⟨b,2,be⟩=AI (J pm nm cm))(hm:Sl w (J pm nm cm) ms)(hn:nm<=1000)(hr:r.m.name.size<=Io) :
 Calls AS 102 #[If (AI ⟨b,0,be⟩),Ik #[Y r.m.name,U O r.m.state,U O r.m.aI,U O r.m.addr,Ia r.m.server,U O r.told]] w λe w'=>e=AT (Ia (ed ms r))/\Below w.heap.size w w':=by
 have hb:=Iw w _ hc;have HS:Hid (∀m,bX ms r.m.name=AI m->m.name.size<=Io):=λm h=>by
  obtain⟨a,c,he,hs,_⟩:=hm;exact dI hs m (dH h).1
 have HD:Hid (ed ms r=match bX ms r.m.name with
  |none=>true
  |some k=>bF r.m k==0&&dn r.m k):=rfl
 generalize ed ms r=res at *;obtain⟨W,hW,tp,-,hg⟩:=bV w #[Y r.m.name,U O r.m.state,U O r.m.aI,U O r.m.addr,Ia r.m.server,U O r.told] 111;have HCW:Hid (Calls AS 64 #[If (AI ⟨b,0,be⟩),Y r.m.name] W λe w'=>e=AT (Ip #[Ik #[Y (eR ms r.m.name).name,U O (eR ms r.m.name).state,U O (eR ms r.m.name).aI,U O (eR ms r.m.name).addr,Ia (eR ms r.m.name).server],Ia (bX ms r.m.name).isSome])/\Below W.heap.size W w'):=
  jK b pm nm cm ms r.m.name W (by rw[tp.cell (p:=⟨b,2,be⟩) hb];exact hc) (hm.below tp) hn
 have x0:=ae hg 0;have RT:W.heap.size=w.heap.size+1:=by rw[hW];simp
 clear hc hm;go_enter Tryz.func102,Tryz.ntmps102;go_wp2_with fail;rw[<- hW];clear hW;refine HCW.out.mono ?_;rintro e w1 ⟨rfl,aC⟩;have cI:=(aC.block _ (by omega)).trans hg;have y0:=ae cI 0;have y1:=ae cI 1;have y2:=ae cI 2;have y3:=ae cI 3;have y4:=ae cI 4;have fO:=(BY.1 cI).1;have aZ:Hid _:=tp.trans (aC.mono (by omega));clear aC cI hg tp HCW x0;rcases hf:bX ms r.m.name with _|k
 .have HR:Hid _:=HD.out.trans (by rw[hf])
  have Mu:=uT hf;rw[Mu];clear hf Mu;go_wp2_with fail;go_ret;exact⟨aW HR.out.symm,aZ.out.alloc aZ.out.size _⟩
 .have HR:Hid (res=(bF r.m k==0&&dn r.m k)):=HD.out.trans (by rw[hf])
  have hk:=HS.out k hf;have Mu:eR ms r.m.name=k:=ff hf;rw[Mu];clear hf Mu;have HN:Hid (∀W,Calls AS 149 #[Ik #[Y r.m.name,U O r.m.state,U O r.m.aI,U O r.m.addr,Ia r.m.server],Ik #[Y k.name,U O k.state,U O k.aI,U O k.addr,Ia k.server]] W λe w'=>e=AT (Ip #[Ia (bF r.m k==0&&dn r.m k),U O (bF r.m k)])/\Below W.heap.size W w'):=λW=>qg r.m k W hr hk;generalize(bF r.m k==0&&dn r.m k)=q at *;go_wp2_with fail;refine(HN.out _).mono ?_;rintro e w2 ⟨rfl,aL⟩;have bA:Hid (Below w.heap.size w w2):=(aZ.out.alloc aZ.out.size _).trans (aL.mono (by have:=aZ.out.size;simp;omega));clear aL;go_wp2_with fail;go_ret;exact⟨aW HR.out.symm,bA.out⟩
theorem CU(b:Nat)(pm:Option Addr)(nm cm:Nat)(ms:List Mem)(rs:List bU)(v:Value)(w:World)(hv:oj w v rs)(hc:w.cell? ⟨b,2,be⟩=AI (J pm nm cm))(hm:Sl w (J pm nm cm) ms)(hn:nm<=1000)(xM:rs.length<=1000) :
 Calls AS 148 #[v,IQ (.func 102) #[If (AI ⟨b,0,be⟩)] #[]] w λe w'=>
  ((e=AT (U O (-1))/\Hid (rs.any (ed ms)=false))\/(∃i:Nat,i<rs.length/\e=AT (U O i)/\Hid (rs.any (ed ms)=true)))/\Below w.heap.size w w':=by
 obtain⟨pa,ca,rfl,hs,ha⟩:=hv;have hb:=Iw w _ hc;have HA:Hid _:=ha;have HS:Hid _:=hs;have HI:Hid (∀W,Below w.heap.size w W->∀r:bU,r.m.name.size<=Io->Calls AS 102 #[If (AI ⟨b,0,be⟩),Ik #[Y r.m.name,U O r.m.state,U O r.m.aI,U O r.m.addr,Ia r.m.server,U O r.told]] W λe w'=>e=AT (Ia (ed ms r))/\Below W.heap.size W w'):=λW hW r hr=>
  A9 b pm nm cm ms r W (by rw[hW.cell (p:=⟨b,2,be⟩) hb];exact hc) (hm.below hW) hn hr
 clear ha hs hc hm;generalize hN:rs.length=n at *;have HN:Hid _:=hN;clear hN;go_enter Tryz.func148,Tryz.ntmps148;go_wp2_with fail;go_loopw [8] (λi wr=>∃k:Nat,k<=n/\i=U O k/\Hid (∀j,j<k->ed ms (rs.getD j dr)=false)/\Hid (Below w.heap.size w wr)) (λi _=>n-(intOf i).toNat)
 case atStart=>exact⟨0,IF _,rfl,λj hj=>by omega,Ib _ _⟩
 case round=>
  obtain⟨k,hk,rfl,HZ,HB⟩:=hrel;by_cases aX:k<n
  .obtain⟨b2,off,ru,kb,hr⟩:∃b off,pa=AI ⟨b,off,be⟩/\b<w.heap.size/\om w b off rs:=by
    rcases HA.out with h|h
    .have:=HN.out;rw[h] at this;simp at this;omega
    .exact h
   subst ru;obtain⟨c0,c1,c2,c3,c4,c5⟩:=hr.below HB.out kb k (by rw[HN.out];exact aX);clear hr;have cY:=HS.out k;have HY:Hid (ed ms (rs.getD k dr)=true->rs.any (ed ms)=true):=λh=>by
    rw[show rs.getD k dr=rs[k]'(by rw[HN.out];exact aX) by simp[Ir,Ic (show k<rs.length by rw[HN.out];exact aX)]] at h;exact Qq.2 ⟨_,IK _,h⟩
   have ma:Hid (ed ms (rs.getD k dr)=false->∀j,j<k+1->ed ms (rs.getD j dr)=false):=λh j hj=>by
    by_cases e:j=k
    .subst e;exact h
    .exact HZ.out j (by omega)
   have HF:Hid (∀W,Below w.heap.size w W->Calls _ _ _ _ _):=λW hW=>HI.out W hW _ cY;generalize hah:ed ms (rs.getD k dr)=ah at *;clear hah;generalize rs.getD k dr=rk at *;obtain⟨⟨mn,st,lf,ad,sv⟩,td⟩:=rk;simp only at c0 c1 c2 c3 c4 c5 HF;clear HZ;have cB:=HB.out.size;cases ah
   .have qV:Hid _:=ma.out rfl
    clear HY ma;go_wp2_with fail;refine(HF.out _ HB.out).mono ?_;rintro e w1 ⟨rfl,aC⟩;have aZ:Hid _:=HB.out.trans (aC.mono cB);clear aC;go_wp2_with fail;go_roundw
    case rel=>exact⟨k+1,by omega,by go_num,qV,aZ⟩
    case measure=>simp[intOf];omega
   .have HR:Hid _:=HY.out rfl
    clear HY ma;go_wp2_with fail;refine(HF.out _ HB.out).mono ?_;rintro e w1 ⟨rfl,aC⟩;have aZ:Hid _:=HB.out.trans (aC.mono cB);clear aC;go_wp2_with fail;go_ret;exact⟨.inr ⟨k,aX,rfl,HR⟩,aZ.out⟩
  .have qV:Hid (rs.any (ed ms)=false):=by
    rcases h:rs.any (ed ms) with _|_
    .rfl
    .obtain⟨r,hr,h2⟩:=Qq.1 h
     obtain⟨j,hj,rfl⟩:=IT hr;have h3:=HZ.out j (by have:=HN.out;omega);rw[show rs.getD j dr=rs[j] by simp[Ir,Ic hj],h2] at h3;cases h3
   clear HZ;go_wp2_with fail;go_ret;exact⟨.inl ⟨rfl,qV⟩,HB.out⟩
theorem yX(b:Nat)(pm:Option Addr)(nm cm:Nat)(ms:List Mem)(rs:List bU)(v:Value)(w:World)(hv:oj w v rs)(hc:w.cell? ⟨b,2,be⟩=AI (J pm nm cm))(hm:Sl w (J pm nm cm) ms)(hn:nm<=1000)(xM:rs.length<=1000) :
 Calls AS 101 #[v,IQ (.func 102) #[If (AI ⟨b,0,be⟩)] #[]] w λe w'=>e=AT (Ia (rs.any (ed ms)))/\Below w.heap.size w w':=by
 have HI:Hid (Calls AS 148 #[v,IQ (.func 102) #[If (AI ⟨b,0,be⟩)] #[]] w λe w'=>
  ((e=AT (U O (-1))/\Hid (rs.any (ed ms)=false))\/(∃i:Nat,i<rs.length/\e=AT (U O i)/\Hid (rs.any (ed ms)=true)))/\Below w.heap.size w w'):=CU b pm nm cm ms rs v w hv hc hm hn xM
 clear hv hc hm;generalize rs.any (ed ms)=q at *;go_enter Tryz.func101,Tryz.ntmps101;go_wp2_with fail;refine HI.out.mono ?_;rintro e w1 ⟨Ra,aC⟩;have HB:Hid _:=aC;clear aC;rcases Ra with⟨rfl,HF⟩|⟨i,hi,rfl,HF⟩
 .go_wp2_with fail
  go_ret;exact⟨aW HF.out.symm,HB.out⟩
 .go_wp2_with fail
  go_ret;exact⟨aW HF.out.symm,HB.out⟩
abbrev dE(n:Nd)(vm vr vs vg vw:Value):Array Value:=#[Y n.name,Y n.av,vm,vr,vs,vg,U O n.p.x,U O n.p.y,U O n.p.z,U O n.p.h,U O n.p.s,vw]
structure eY(w:World)(n:Nd)(vm vr vs vg vw:Value):Prop where
 ms:Sl w vm n.ms
 rs:oj w vr n.rs
 sv:Sv.Sl w vs n.sv
 gw:Gw.Sl w vg n.gw
 wh:Wh.Sl w vw n.wh
 name:n.name.size<=Io
 av:n.av.size<=Io
theorem eY.below{w w':World}{n:Nd}{vm vr vs vg vw:Value}(h:eY w n vm vr vs vg vw)(hb:Below w.heap.size w w'):eY w' n vm vr vs vg vw:=⟨h.ms.below hb,h.rs.below hb,h.sv.below hb,h.gw.below hb,h.wh.below hb,h.name,h.av⟩
theorem uU(w:World):Sl w (J be 0 0) []:=⟨be,0,rfl,cD (λm hm=>by simp at hm),.inl rfl⟩
theorem Sv.uU(w:World):Sv.Sl w (J be 0 0) []:=⟨be,0,rfl,Sv.cD (λm hm=>by simp at hm),.inl rfl⟩
theorem Gw.uU(w:World):Gw.Sl w (J be 0 0) []:=⟨be,0,rfl,Gw.cD (λm hm=>by simp at hm),.inl rfl⟩
theorem Mw{nm:ByteArray}{wh:List Wh.bT}(h:bl nm=true):Pk.e ⟨nm,true,[],[],[],wh⟩=Wh.bp wh:=by
 unfold Pk.e;rw[if_pos (by simp[h])];rfl
theorem GO:Roomy (J be 0 0):=by unfold Roomy;exact Ie _
theorem yY(nm:ByteArray)(wh:List Wh.bT)(vw:Value)(W:World)(RH:Wh.Sl W vw wh)(cY:nm.size<=Io)(hl:bl nm=true) :
 ly 59 #[Ik #[Y nm,Ia true,J be 0 0,J be 0 0,J be 0 0,vw]] W (U O (Wh.bp wh)):=by
 have hp:lz W ⟨nm,true,[],[],[],wh⟩ (J be 0 0) (J be 0 0) (J be 0 0) vw:=⟨uU W,Sv.uU W,Gw.uU W,RH,cY,GO⟩;rw[<- Mw hl];exact mU ⟨nm,true,[],[],[],wh⟩ (J be 0 0) (J be 0 0) (J be 0 0) vw W hp (.inl rfl)
theorem xU{W:World}{cs:Array Value}{t:Ja}{g k:Nat}(hg:g=W.heap.size):((W.alloc (By cs t)).drew).cell? ⟨g,k,be⟩=cs[k]?:=by subst hg;exact ae (Ij W _) k
theorem Ba(a b:ByteArray)(ha:a.size<=Io)(hb:b.size<=Io)(g c:Nat)(W:World)(h0:W.cell? ⟨g,0,be⟩=AI (Y a))(h1:W.cell? ⟨g,1,be⟩=AI (Y b)) :
 aK 28 #[J (AI ⟨g,0,be⟩) 2 c] W λe w'=>e=AT (Ia (bl a&&bl b))/\w'=W:=by
 have h:=pZ [a,b] g c W (λj hj=>by
  have:j=0\/j=1:=by simp at hj;omega
  rcases this with rfl|rfl
  .exact h0
  .exact h1) (λj=>by
  match j with
  |0=>exact ha
  |1=>exact hb
  |_+2=>simp[Ir]) (by simp)
 rw[show[a,b].all bl=(bl a&&bl b) by simp] at h;exact h
theorem uV(n:Nd)(b:Nat)(vm vr vs vg vw:Value)(w:World)(h:eY w n vm vr vs vg vw)(hg:w.heap[b]?=AI (By (dE n vm vr vs vg vw) 107 (0,0))) :
 ly 52 #[If (AI ⟨b,0,be⟩)] w (U O n.pE):=by
 obtain⟨nm,ct,ms,rs,sv,gw,⟨px,py,pz,ph,pq⟩,wh⟩:=n;obtain⟨gE,pW,Lu,wW,RH,cY,Ms⟩:=h;simp only at gE pW Lu wW RH cY Ms hg;have hb:=(BY.1 hg).1;have HM:Hid (∀W,Below w.heap.size w W->aK _ _ _ _):=λW hW=>bD ms vm W (gE.below hW);have jW:Hid (∀W,Below w.heap.size w W->aK _ _ _ _):=λW hW=>hU rs vr W (pW.below hW);have HS:Hid (∀W,Below w.heap.size w W->aK _ _ _ _):=λW hW=>Sv.bD sv vs W (Lu.below hW);have HG:Hid (∀W,Below w.heap.size w W->aK _ _ _ _):=λW hW=>Gw.bD gw vg W (wW.below hW);have HP:Hid (∀W,Below w.heap.size w W->aK _ _ _ _):=λW _=>mO ⟨px,py,pz,ph,pq⟩ W;have HX:Hid (∀W,Below w.heap.size w W->W.cell? ⟨b,0,be⟩=AI (Y nm)/\W.cell? ⟨b,1,be⟩=AI (Y ct)/\W.cell? ⟨b,2,be⟩=AI vm/\W.cell? ⟨b,3,be⟩=AI vr/\W.cell? ⟨b,4,be⟩=AI vs/\W.cell? ⟨b,5,be⟩=AI vg/\W.cell? ⟨b,6,be⟩=AI (U O px)/\W.cell? ⟨b,7,be⟩=AI (U O py)/\W.cell? ⟨b,8,be⟩=AI (U O pz)/\W.cell? ⟨b,9,be⟩=AI (U O ph)/\W.cell? ⟨b,10,be⟩=AI (U O pq)/\W.cell? ⟨b,11,be⟩=AI vw):=λW hW=>
  have xd:=(hW.block _ hb).trans hg
  ⟨ae xd 0,ae xd 1,ae xd 2,ae xd 3,ae xd 4,ae xd 5,ae xd 6,ae xd 7,ae xd 8,ae xd 9,ae xd 10,ae xd 11⟩
 have HE:Nd.pE ⟨nm,ct,ms,rs,sv,gw,⟨px,py,pz,ph,pq⟩,wh⟩=if(bl nm&&bl ct)=true then
  (if bp ms=0 then(if eB rs=0 then(if Sv.bp sv=0 then(if Gw.bp gw=0 then(if eF ⟨px,py,pz,ph,pq⟩=0 then Wh.bp wh else eF ⟨px,py,pz,ph,pq⟩) else Gw.bp gw) else Sv.bp sv) else eB rs) else bp ms) else 1:=by unfold Nd.pE;with_reducible rfl
 have HL:Hid (∀(W:World) (g:Nat),W.cell? ⟨g,0,be⟩=AI (Y nm)->W.cell? ⟨g,1,be⟩=AI (Y ct)->aK _ _ _ _):=λW g h0 h1=>Ba nm ct cY Ms g 2 W h0 h1;have HW:Hid (bl nm=true->∀W,Below w.heap.size w W->ly 59 #[Ik #[Y nm,Ia true,J be 0 0,J be 0 0,J be 0 0,vw]] W (U O (Wh.bp wh))):=λhl W hW=>yY nm wh vw W (RH.below hW) cY hl;have pM:Hid ((bl nm&&bl ct)=true->bl nm=true):=λh=>by rw[IG] at h;exact h.1
 generalize(bl nm&&bl ct)=lb at *;generalize Nd.pE ⟨nm,ct,ms,rs,sv,gw,⟨px,py,pz,ph,pq⟩,wh⟩=res at *;generalize bp ms=m1 at *;generalize eB rs=r1 at *;generalize Sv.bp sv=s1 at *;generalize Gw.bp gw=g1 at *;generalize eF ⟨px,py,pz,ph,pq⟩=p1 at *;generalize Wh.bp wh=wz at *;obtain⟨a5,c5,rfl,_,_⟩:=RH;generalize wh.length=n5 at *;clear gE pW Lu wW;obtain⟨y0,y1,y2,y3,y4,y5,y6,y7,y8,y9,y10,y11⟩:=HX.out w (Ib _ _);clear hg;go_enter Tryz.func52,Tryz.ntmps52;go_wp2_with fail;go_region_held3 (λw'=>w'.cell? ⟨b,0,be⟩=AI (Y nm)/\w'.cell? ⟨b,1,be⟩=AI (Y ct)) (go_keep) (first|(go_at_call 28;refine(HL.out _ _ (xU rfl) (xU rfl)).mono ?_;rintro e w' ⟨rfl,rfl⟩))
 obtain⟨W0,bP⟩:∃W0,W0=(w.alloc (By #[Y nm,Y ct] 9)).drew:=⟨_,rfl⟩;have df:Hid (Below w.heap.size w W0):=by rw[bP];exact((Ib _ _).alloc (Ie _) _).drew
 rw[<- bP];clear bP HL y0 y1 y2 y3 y4 y5 y6 y7 y8 y9 y10 y11;obtain⟨y0,y1,y2,y3,y4,y5,y6,y7,y8,y9,y10,y11⟩:=HX.out W0 df.out;cases lb
 .rw[if_neg (by simp)] at HE
  have HR:Hid _:=HE;clear HE;go_wp2_with fail;go_ret;exact⟨an HR.out.symm,df.out⟩
 rw[if_pos rfl] at HE;have HW:Hid (∀W,Below w.heap.size w W->aK _ _ _ _):=HW.out (pM.out rfl);go_wp2_with fail;refine(HM.out _ df.out).mono ?_;rintro e w1 ⟨rfl,aC⟩;have aZ:Hid _:=df.out.trans (aC.mono df.out.size);clear aC y0 y1 y2 y3 y4 y5 y6 y7 y8 y9 y10 y11;obtain⟨y0,y1,y2,y3,y4,y5,y6,y7,y8,y9,y10,y11⟩:=HX.out w1 aZ.out;by_cases rC:m1=0
 .rw[if_pos rC] at HE
  subst rC;go_wp2_with fail;refine(jW.out _ aZ.out).mono ?_;rintro e w2 ⟨rfl,aL⟩;have bA:Hid _:=aZ.out.trans (aL.mono aZ.out.size);clear aL y0 y1 y2 y3 y4 y5 y6 y7 y8 y9 y10 y11;obtain⟨y0,y1,y2,y3,y4,y5,y6,y7,y8,y9,y10,y11⟩:=HX.out w2 bA.out;by_cases ku:r1=0
  .rw[if_pos ku] at HE
   subst ku;go_wp2_with fail;refine(HS.out _ bA.out).mono ?_;rintro e w3 ⟨rfl,bY⟩;have cF:Hid _:=bA.out.trans (bY.mono bA.out.size);clear bY y0 y1 y2 y3 y4 y5 y6 y7 y8 y9 y10 y11;obtain⟨y0,y1,y2,y3,y4,y5,y6,y7,y8,y9,y10,y11⟩:=HX.out w3 cF.out;by_cases fO:s1=0
   .rw[if_pos fO] at HE
    subst fO;go_wp2_with fail;refine(HG.out _ cF.out).mono ?_;rintro e w4 ⟨rfl,eV⟩;have gC:Hid _:=cF.out.trans (eV.mono cF.out.size);clear eV y0 y1 y2 y3 y4 y5 y6 y7 y8 y9 y10 y11;obtain⟨y0,y1,y2,y3,y4,y5,y6,y7,y8,y9,y10,y11⟩:=HX.out w4 gC.out;by_cases cI:g1=0
    .rw[if_pos cI] at HE
     subst cI;go_wp2_with fail;refine(HP.out _ gC.out).mono ?_;rintro e w5 ⟨rfl,j9⟩;have jd:Hid _:=gC.out.trans (j9.mono gC.out.size);clear j9 y0 y1 y2 y3 y4 y5 y6 y7 y8 y9 y10 y11;obtain⟨y0,y1,y2,y3,y4,y5,y6,y7,y8,y9,y10,y11⟩:=HX.out w5 jd.out;by_cases ru:p1=0
     .rw[if_pos ru] at HE
      subst ru;go_wp2_with fail;go_region_held3 (λw'=>w'.cell? ⟨b,0,be⟩=AI (Y nm)/\w'.cell? ⟨b,11,be⟩=AI (J a5 n5 c5)) (first|assumption|go_keep) (first|(go_at_call 59;refine(HW.out _ jd.out.drew).mono ?_;rintro e w9 ⟨rfl,Bb⟩;have HB9:Hid (Below w.heap.size w w9):=jd.out.drew.trans (Bb.mono jd.out.size);have hS:w9.cell? ⟨b,0,be⟩=AI (Y nm)/\w9.cell? ⟨b,11,be⟩=AI (J a5 n5 c5):=⟨(HX.out w9 HB9.out).1,(HX.out w9 HB9.out).2.2.2.2.2.2.2.2.2.2.2⟩))
      go_wp2_with fail;go_ret;exact⟨an HE.symm,HB9.out⟩
     .have anH:(p1 !=0)=true:=by simpa using ru
      rw[if_neg ru] at HE;have HR:Hid _:=HE;clear ru HE;go_wp2_with fail;go_ret;exact⟨an HR.out.symm,jd.out⟩
    .have anI:(g1 !=0)=true:=by simpa using cI
     rw[if_neg cI] at HE;have HR:Hid _:=HE;clear cI HE;go_wp2_with fail;go_ret;exact⟨an HR.out.symm,gC.out⟩
   .have xe:(s1 !=0)=true:=by simpa using fO
    rw[if_neg fO] at HE;have HR:Hid _:=HE;clear fO HE;go_wp2_with fail;go_ret;exact⟨an HR.out.symm,cF.out⟩
  .have anJ:(r1 !=0)=true:=by simpa using ku
   rw[if_neg ku] at HE;have HR:Hid _:=HE;clear ku HE;go_wp2_with fail;go_ret;exact⟨an HR.out.symm,bA.out⟩
 .have anK:(m1 !=0)=true:=by simpa using rC
  rw[if_neg rC] at HE;have HR:Hid _:=HE;clear rC HE;go_wp2_with fail;go_ret;exact⟨an HR.out.symm,aZ.out⟩
theorem Wl{a b:Mem}(ha:a.e=0)(hb:b.e=0)(hn:a.name=b.name):bF a b=0:=by
 unfold bF;have h:aY [a] [b]=0:=by
  unfold aY;rw[kN,kN,if_pos ha,hb]
 rw[if_pos h,if_pos hn]
theorem jX{ms:List Mem}(h:bp ms=0):∀m∈ms,m.e=0:=by
 obtain⟨_,_,h3⟩:=aj h;exact bn ms h3
theorem mW{rs:List bU}(h:eB rs=0):rs.length<=20/\(∀r∈rs,r.m.e=0)/\iM rs/\dY rs:=by
 unfold eB at h;split at h
 .cases h
 .rename_i hn
  split at h
  .rename_i h1
   split at h
   .rename_i h2
    split at h
    .rename_i h3
     refine⟨by omega,λr hr=>?_,h2,h3⟩;exact bn _ h1 r.m (List.mem_map.2 ⟨r,hr,rfl⟩)
    .cases h
   .cases h
  .rename_i h1;exact absurd h h1
theorem GP{ms:List Mem}{r:bU}(h:bp ms=0)(hr:r.m.e=0):ed ms r=fu ms r:=by
 unfold ed fu;rcases hf:bX ms r.m.name with _|k
 .rfl
 .have hk:=dH hf
  simp only;rw[Wl hr (jX h k hk.1) hk.2.symm];simp
theorem GQ{ms:List Mem}{rs:List bU}(h:bp ms=0)(hr:eB rs=0):rs.any (ed ms)=rs.any (fu ms):=by
 have h2:=(mW hr).2.1;clear hr;induction rs with
 |nil=>rfl
 |cons r l ih=>
  rw[List.any_cons,List.any_cons,GP h (h2 r (by simp)),ih (λx hx=>h2 x (by simp[hx]))]
theorem uW(n:Nd)(b:Nat)(vm vr vs vg vw:Value)(w:World)(h:eY w n vm vr vs vg vw)(hg:w.heap[b]?=AI (By (dE n vm vr vs vg vw) 107 (0,0)))(hp:n.pE=0) :
 ly 53 #[If (AI ⟨b,0,be⟩)] w (U O n.wE):=by
 have Aw:Hid n.pN:=Nd.parts hp;have hb:b<w.heap.size:=(BY.1 hg).1;have Mx:n.ms.length<=20:=(aj Aw.out.ms).1;have hrl:n.rs.length<=20:=(mW Aw.out.rs).1;have tP:Hid (n.wE=match bX n.ms n.name with
  |none=>5
  |some m=>if m.state=2\/m.state=3 then 4 else if n.rs.any (ed n.ms)=true then 4 else 0):=by
  show n.wE=_;rw[GQ Aw.out.ms Aw.out.rs];rfl
 obtain⟨nm,ct,ms,rs,sv,gw,⟨px,py,pz,ph,pq⟩,wh⟩:=n;obtain⟨gE,pW,_,_,_,_,_⟩:=h;simp only at gE pW hg Mx hrl tP;generalize Nd.wE ⟨nm,ct,ms,rs,sv,gw,⟨px,py,pz,ph,pq⟩,wh⟩=res at *;obtain⟨am,cm,rfl,My,Mz⟩:=gE;have gE:Sl w (J am ms.length cm) ms:=⟨am,cm,rfl,My,Mz⟩;clear My Mz;have HX:Hid (∀W,Below w.heap.size w W->W.cell? ⟨b,0,be⟩=AI (Y nm)/\W.cell? ⟨b,2,be⟩=AI (J am ms.length cm)/\W.cell? ⟨b,3,be⟩=AI vr):=λW hW=>
  have xd:=(hW.block _ hb).trans hg
  ⟨ae xd 0,ae xd 2,ae xd 3⟩
 have GR:Hid (∀(W:World) (t:ByteArray),Below w.heap.size w W->ly 64 #[If (AI ⟨b,0,be⟩),Y t] W (Ip #[Ik #[Y (eR ms t).name,U O (eR ms t).state,U O (eR ms t).aI,U O (eR ms t).addr,Ia (eR ms t).server],Ia (bX ms t).isSome])):=λW t hW=>
  jK b am ms.length cm ms t W (HX.out W hW).2.1 (gE.below hW) (by omega)
 have HCF:Hid (∀W,Below w.heap.size w W->ly 101 #[vr,IQ (.func 102) #[If (AI ⟨b,0,be⟩)] #[]] W (Ia (rs.any (ed ms)))):=λW hW=>
  yX b am ms.length cm ms rs vr W (pW.below hW) (HX.out W hW).2.1 (gE.below hW) (by omega) (by omega)
 clear gE pW;generalize rs.any (ed ms)=ab at *;obtain⟨y0,y2,y3⟩:=HX.out w (Ib _ _);clear hg;go_enter Tryz.func53,Tryz.ntmps53;go_wp2_with fail;refine(GR.out _ nm (Ib _ _)).mono ?_;rintro e w1 ⟨rfl,aC⟩;have aZ:Hid _:=aC;clear aC y0 y2 y3;rcases hf:bX ms nm with _|m
 .have HR:Hid _:=tP.out.trans (by rw[hf])
  have Mu:=uT hf;rw[Mu];clear hf Mu;go_wp2_with fail;go_ret;exact⟨an HR.out.symm,aZ.out.alloc aZ.out.size _⟩
 .have HR:Hid _:=tP.out.trans (by rw[hf])
  have Mu:=ff hf;rw[Mu];clear hf Mu;obtain⟨mn,st,lf,ad,sv2⟩:=m;simp only at HR;by_cases h2:st=2
  .subst h2
   have tQ:Hid (res=4):=HR.out.trans (by simp);go_wp2_with fail;go_ret;exact⟨an tQ.out.symm,aZ.out.alloc aZ.out.size _⟩
  .by_cases h3:st=3
   .subst h3
    have tQ:Hid (res=4):=HR.out.trans (by simp);go_wp2_with fail;go_ret;exact⟨an tQ.out.symm,aZ.out.alloc aZ.out.size _⟩
   .have tQ:Hid _:=HR.out.trans (if_neg (by omega))
    have Rb:(st==2)=false:=by simpa using h2
    have h3':(st==3)=false:=by simpa using h3
    clear h2 h3 HR;obtain⟨W2,bO⟩:∃W2,W2=w1.alloc (By #[Y mn,U O st,U O lf,U O ad,Ia sv2] 52):=⟨_,rfl⟩;have bA:Hid (Below w.heap.size w W2):=by rw[bO];exact aZ.out.alloc aZ.out.size _
    obtain⟨y0,y2,y3⟩:=HX.out W2 bA.out;rw[bO] at y0 y2 y3;go_wp2_with fail;rw[<- bO];refine(HCF.out _ bA.out).mono ?_;rintro e w3 ⟨rfl,bY⟩;have cF:Hid _:=bA.out.trans (bY.mono bA.out.size);clear bY y0 y2 y3 bO;cases ab
    .go_wp2_with fail
     go_ret;exact⟨an tQ.out.symm,cF.out⟩
    .go_wp2_with fail
     go_ret;exact⟨an tQ.out.symm,cF.out⟩
theorem qo(n:Nd)(vm vr vs vg vw:Value)(w:World)(h:eY w n vm vr vs vg vw) :
 ly 30 #[Ik (dE n vm vr vs vg vw)] w (U O n.e):=by
 have HI:Hid _:=h;have HE:Hid (n.e=if n.pE=0 then n.wE else n.pE):=rfl;obtain⟨W,hW⟩:∃W,W=(w.alloc (By (dE n vm vr vs vg vw) 50)).alloc (By (dE n vm vr vs vg vw) 107):=⟨_,rfl⟩;have tp:Below w.heap.size w W:=by rw[hW];exact((Ib _ _).alloc (Ie _) _).alloc (by simp) _
 have hg:W.heap[w.heap.size+1]?=AI (By (dE n vm vr vs vg vw) 107 (0,0)):=by
  have h:=Ij (w.alloc (By (dE n vm vr vs vg vw) 50)) (By (dE n vm vr vs vg vw) 107);rw[hW];simpa using h
 have RT:W.heap.size=w.heap.size+2:=by rw[hW];simp
 have qp:Hid _:=tp;have HC:Hid (aK _ _ _ _):=uV n (w.heap.size+1) vm vr vs vg vw W (h.below tp) hg;have HD:Hid (n.pE=0->∀W1,Below W.heap.size W W1->ly 53 #[If (AI ⟨w.heap.size+1,0,be⟩)] W1 (U O n.wE)):=λhp W1 h1=>
  uW n (w.heap.size+1) vm vr vs vg vw W1 ((h.below tp).below h1) ((h1.block _ (by omega)).trans hg) hp
 obtain⟨nm,ct,ms,rs,sv,gw,⟨px,py,pz,ph,pq⟩,wh⟩:=n;obtain⟨⟨am,cm,rfl,_,_⟩,⟨ar,cr,rfl,_,_⟩,⟨aq,cq,rfl,_,_⟩,⟨ag,cg,rfl,_,_⟩,⟨aw,cw,rfl,_,_⟩,_,_⟩:=h;generalize Nd.e ⟨nm,ct,ms,rs,sv,gw,⟨px,py,pz,ph,pq⟩,wh⟩=res at *;generalize Nd.pE ⟨nm,ct,ms,rs,sv,gw,⟨px,py,pz,ph,pq⟩,wh⟩=pe at *;generalize Nd.wE ⟨nm,ct,ms,rs,sv,gw,⟨px,py,pz,ph,pq⟩,wh⟩=we at *;simp only[dE] at hW ⊢;clear hg tp;generalize ms.length=nms at *;generalize rs.length=nrs at *;generalize sv.length=nsv at *;generalize gw.length=ngw at *;generalize wh.length=nwh at *;go_enter Tryz.func30,Tryz.ntmps30;go_wp2_with fail;rw[<- hW];refine HC.out.mono ?_;rintro e w1 ⟨rfl,aC⟩;have aZ:Hid _:=aC;have jI:Hid _:=qp.out.trans (aC.mono (by omega));clear aC;by_cases hp:pe=0
 .have HD2:=HD.out hp w1 aZ.out
  have HR:Hid _:=HE.out.trans (if_pos hp);subst hp;clear HD HE;go_wp2_with fail;refine HD2.mono ?_;rintro e w2 ⟨rfl,aL⟩;have rq:Hid _:=jI.out.trans (aL.mono jI.out.size);clear aL;go_wp2_with fail;go_ret;exact⟨an HR.out.symm,rq.out⟩
 .have hp':(pe !=0)=true:=by simpa using hp
  have HR:Hid _:=HE.out.trans (if_neg hp);clear hp HD HE;go_wp2_with fail;go_ret;exact⟨an HR.out.symm,jI.out⟩
end Go.Proofs.YtbfghimjdlpicaaGreatDoor
namespace Go.Proofs.YtbfghimjdlpicaaGreatDoor
namespace Gw
open Go.RowKit
theorem fJ(ms:List bN)(v:Value)(w:World)(h:Sl w v ms)(hn:ms.length<=1000) :
 aK 57 #[v] w λe w'=>∃v',e=AT v'/\Own w.heap.size w' v' ms/\Below w.heap.size w w':=by
 obtain⟨a,cap,rfl,hs,h⟩:=h;obtain⟨i0,fH,dt,gJ,gB⟩:=info_parts Tryz.oY;cases a with
 |none=>
  have he:ms=[]:=by
   rcases h with h|⟨b,off,h,_⟩
   .exact h
   .cases h
  subst he;clear h hs;have gV:=λ(w:World)=>Jy (P:=AS) w 47 102 be 0 cap 0 0 Oa;simp only[IX,OX] at gV ⊢;go_enter Tryz.func57,Tryz.ntmps57;go_wp2_with fail;go_ret;exact⟨_,rfl,cv _ _,Ib _ _⟩
 |some a=>
  have gV:=λ(w:World)=>Jy (P:=AS) w 47 102 (AI a) ms.length cap 0 0 Oa;simp only[OY] at gV;have hnews:Hid (∀j u,(fl ms)[j]?=AI u->(w.alloc (By #[] 102)).cell? (a.add j)=AI u):=by
   intro j u hj;rcases h with h|⟨b,off,h,hb,hr⟩
   .subst h;simp[fl] at hj
   .cases h
    have VX:j<ms.length*3:=by rw[<- da];exact(Jt.1 hj).1
    have h1:=eK ms (j/3) (by omega) (j%3) (by omega);rw[show j/3*3+j%3=j by omega,hj] at h1;rw[Addr.add_lit,Oq (w:=w) _ b _ hb];obtain⟨c0,c1,c2⟩:=hr (j/3) (by omega);have cE:j%3=0\/j%3=1\/j%3=2:=by omega
    rcases cE with e|e|e
    .rw[show off+j=off+j/3*3 by omega,c0];rw[e] at h1;simpa[bN.cs] using h1.symm
    .rw[show off+j=off+j/3*3+1 by omega,c1];rw[e] at h1;simpa[bN.cs] using h1.symm
    .rw[show off+j=off+j/3*3+2 by omega,c2];rw[e] at h1;simpa[bN.cs] using h1.symm
  have HO:Hid ((w.alloc (By #[] 102)).ownsRow w.heap.size 102 3 (J (AI ⟨w.heap.size,0,be⟩) 0 0) 0 []):=OZ w #[] 0 (Ie _) (by unfold Io;omega) rfl;clear h hs;go_enter Tryz.func57,Tryz.ntmps57;go_wp2_with (at_builtin;refine IZ _ rfl _ _ 47 rfl w.heap.size 102 i0 _ 3 32 Oa fH dt gJ gB rfl (by omega) _ 0 [] rfl HO.out a ms.length cap (fl ms) rfl (da ms) hnews.out (iK ms) (by unfold Io;omega) (by omega) (by simp) ?_);intro v' w' r1 r2 r3;go_wp2_with fail;go_ret;refine⟨v',rfl,?_,?_⟩
  .simpa using r1
  .exact((Ib _ _).alloc (Ie _) _).grown r2 (by simp) (λk hk=>by simp[JF] at hk;omega)
end Gw
namespace Wh
open Go.RowKit
theorem fJ(ms:List bT)(v:Value)(w:World)(h:Sl w v ms)(hn:ms.length<=1000) :
 aK 58 #[v] w λe w'=>∃v',e=AT v'/\Own w.heap.size w' v' ms/\Below w.heap.size w w':=by
 obtain⟨a,cap,rfl,hs,h⟩:=h;obtain⟨i0,fH,dt,gJ,gB⟩:=info_parts Tryz.oZ;cases a with
 |none=>
  have he:ms=[]:=by
   rcases h with h|⟨b,off,h,_⟩
   .exact h
   .cases h
  subst he;clear h hs;have gV:=λ(w:World)=>Jy (P:=AS) w 48 116 be 0 cap 0 0 Ob;simp only[IX,OX] at gV ⊢;go_enter Tryz.func58,Tryz.ntmps58;go_wp2_with fail;go_ret;exact⟨_,rfl,cv _ _,Ib _ _⟩
 |some a=>
  have gV:=λ(w:World)=>Jy (P:=AS) w 48 116 (AI a) ms.length cap 0 0 Ob;simp only[OY] at gV;have hnews:Hid (∀j u,(fl ms)[j]?=AI u->(w.alloc (By #[] 116)).cell? (a.add j)=AI u):=by
   intro j u hj;rcases h with h|⟨b,off,h,hb,hr⟩
   .subst h;simp[fl] at hj
   .cases h
    have VX:j<ms.length*6:=by rw[<- da];exact(Jt.1 hj).1
    have h1:=eK ms (j/6) (by omega) (j%6) (by omega);rw[show j/6*6+j%6=j by omega,hj] at h1;rw[Addr.add_lit,Oq (w:=w) _ b _ hb];obtain⟨c0,c1,c2,c3,c4,c5⟩:=hr (j/6) (by omega);have cE:j%6=0\/j%6=1\/j%6=2\/j%6=3\/j%6=4\/j%6=5:=by omega
    rcases cE with e|e|e|e|e|e
    .rw[show off+j=off+j/6*6 by omega,c0];rw[e] at h1;simpa[bT.cs] using h1.symm
    .rw[show off+j=off+j/6*6+1 by omega,c1];rw[e] at h1;simpa[bT.cs] using h1.symm
    .rw[show off+j=off+j/6*6+2 by omega,c2];rw[e] at h1;simpa[bT.cs] using h1.symm
    .rw[show off+j=off+j/6*6+3 by omega,c3];rw[e] at h1;simpa[bT.cs] using h1.symm
    .rw[show off+j=off+j/6*6+4 by omega,c4];rw[e] at h1;simpa[bT.cs] using h1.symm
    .rw[show off+j=off+j/6*6+5 by omega,c5];rw[e] at h1;simpa[bT.cs] using h1.symm
  have HO:Hid ((w.alloc (By #[] 116)).ownsRow w.heap.size 116 6 (J (AI ⟨w.heap.size,0,be⟩) 0 0) 0 []):=OZ w #[] 0 (Ie _) (by unfold Io;omega) rfl;clear h hs;go_enter Tryz.func58,Tryz.ntmps58;go_wp2_with (at_builtin;refine IZ _ rfl _ _ 48 rfl w.heap.size 116 i0 _ 6 56 Ob fH dt gJ gB rfl (by omega) _ 0 [] rfl HO.out a ms.length cap (fl ms) rfl (da ms) hnews.out (iK ms) (by unfold Io;omega) (by omega) (by simp) ?_);intro v' w' r1 r2 r3;go_wp2_with fail;go_ret;refine⟨v',rfl,?_,?_⟩
  .simpa using r1
  .exact((Ib _ _).alloc (Ie _) _).grown r2 (by simp) (λk hk=>by simp[JF] at hk;omega)
end Wh
end Go.Proofs.YtbfghimjdlpicaaGreatDoor
namespace Go.Proofs.YtbfghimjdlpicaaGreatDoor
open Go.RowKit
theorem bQ{W:World}{b:Nat}{T:Ja}{f:Nat×Nat}{c0 c1 c2 c3 c4 c5 c6 c7 c8 c9 c10 c11:Value}(h:W.heap[b]?=AI (By #[c0,c1,c2,c3,c4,c5,c6,c7,c8,c9,c10,c11] T f)):W.cell? ⟨b,0,be⟩=AI c0/\W.cell? ⟨b,1,be⟩=AI c1/\W.cell? ⟨b,2,be⟩=AI c2/\W.cell? ⟨b,3,be⟩=AI c3/\W.cell? ⟨b,4,be⟩=AI c4/\W.cell? ⟨b,5,be⟩=AI c5/\W.cell? ⟨b,6,be⟩=AI c6/\W.cell? ⟨b,7,be⟩=AI c7/\W.cell? ⟨b,8,be⟩=AI c8/\W.cell? ⟨b,9,be⟩=AI c9/\W.cell? ⟨b,10,be⟩=AI c10/\W.cell? ⟨b,11,be⟩=AI c11:=⟨ae h 0,ae h 1,ae h 2,ae h 3,ae h 4,ae h 5,ae h 6,ae h 7,ae h 8,ae h 9,ae h 10,ae h 11⟩
theorem kR{W:World}{b:Nat}{T:Ja}{cs:Array Value}(h:W.heap[b]?=AI (By cs T (0,0))):W.frozen? ⟨b,0,be⟩=false/\W.frozen? ⟨b,1,be⟩=false/\W.frozen? ⟨b,2,be⟩=false/\W.frozen? ⟨b,3,be⟩=false/\W.frozen? ⟨b,4,be⟩=false/\W.frozen? ⟨b,5,be⟩=false/\W.frozen? ⟨b,6,be⟩=false/\W.frozen? ⟨b,7,be⟩=false/\W.frozen? ⟨b,8,be⟩=false/\W.frozen? ⟨b,9,be⟩=false/\W.frozen? ⟨b,10,be⟩=false/\W.frozen? ⟨b,11,be⟩=false:=by simp[It,h]
theorem MA{W:World}{b:Nat}{T:Ja}{f:Nat×Nat}{c0 c1 c2 c3 c4 c5 c6 c7 c8:Value}(h:W.heap[b]?=AI (By #[c0,c1,c2,c3,c4,c5,c6,c7,c8] T f)):W.cell? ⟨b,0,be⟩=AI c0/\W.cell? ⟨b,1,be⟩=AI c1/\W.cell? ⟨b,2,be⟩=AI c2/\W.cell? ⟨b,3,be⟩=AI c3/\W.cell? ⟨b,4,be⟩=AI c4/\W.cell? ⟨b,5,be⟩=AI c5/\W.cell? ⟨b,6,be⟩=AI c6/\W.cell? ⟨b,7,be⟩=AI c7/\W.cell? ⟨b,8,be⟩=AI c8:=⟨ae h 0,ae h 1,ae h 2,ae h 3,ae h 4,ae h 5,ae h 6,ae h 7,ae h 8⟩
theorem fX{W:World}{b:Nat}{T:Ja}{f:Nat×Nat}{c0 c1 c2 c3 c4 c5:Value}(h:W.heap[b]?=AI (By #[c0,c1,c2,c3,c4,c5] T f)):W.cell? ⟨b,0,be⟩=AI c0/\W.cell? ⟨b,1,be⟩=AI c1/\W.cell? ⟨b,2,be⟩=AI c2/\W.cell? ⟨b,3,be⟩=AI c3/\W.cell? ⟨b,4,be⟩=AI c4/\W.cell? ⟨b,5,be⟩=AI c5:=⟨ae h 0,ae h 1,ae h 2,ae h 3,ae h 4,ae h 5⟩
theorem MB{W:World}{b:Nat}{T:Ja}{cs:Array Value}(h:W.heap[b]?=AI (By cs T (0,0))):W.frozen? ⟨b,0,be⟩=false/\W.frozen? ⟨b,1,be⟩=false/\W.frozen? ⟨b,2,be⟩=false/\W.frozen? ⟨b,3,be⟩=false/\W.frozen? ⟨b,4,be⟩=false/\W.frozen? ⟨b,5,be⟩=false:=by simp[It,h]
theorem jY{W:World}{b:Nat}{T:Ja}{f:Nat×Nat}{c0 c1 c2 c3 c4:Value}(h:W.heap[b]?=AI (By #[c0,c1,c2,c3,c4] T f)):W.cell? ⟨b,0,be⟩=AI c0/\W.cell? ⟨b,1,be⟩=AI c1/\W.cell? ⟨b,2,be⟩=AI c2/\W.cell? ⟨b,3,be⟩=AI c3/\W.cell? ⟨b,4,be⟩=AI c4:=⟨ae h 0,ae h 1,ae h 2,ae h 3,ae h 4⟩
theorem agB{W:World}{b:Nat}{T:Ja}{cs:Array Value}(h:W.heap[b]?=AI (By cs T (0,0))):W.frozen? ⟨b,0,be⟩=false/\W.frozen? ⟨b,1,be⟩=false/\W.frozen? ⟨b,2,be⟩=false/\W.frozen? ⟨b,3,be⟩=false/\W.frozen? ⟨b,4,be⟩=false:=by simp[It,h]
theorem oq{B b:Nat}{a w:World}(h:Below B a w)(hb:B<=b)(x0 x1 x2 x3 x4 x5 x6 x7 x8 x9 x10 x11:Value):Below B a ((((((((((((w.setCell ⟨b,0,be⟩ x0).setCell ⟨b,1,be⟩ x1).setCell ⟨b,2,be⟩ x2).setCell ⟨b,3,be⟩ x3).setCell ⟨b,4,be⟩ x4).setCell ⟨b,5,be⟩ x5).setCell ⟨b,6,be⟩ x6).setCell ⟨b,7,be⟩ x7).setCell ⟨b,8,be⟩ x8).setCell ⟨b,9,be⟩ x9).setCell ⟨b,10,be⟩ x10).setCell ⟨b,11,be⟩ x11):=((((((((((((h).setCell (p:=⟨b,0,be⟩) hb _).setCell (p:=⟨b,1,be⟩) hb _).setCell (p:=⟨b,2,be⟩) hb _).setCell (p:=⟨b,3,be⟩) hb _).setCell (p:=⟨b,4,be⟩) hb _).setCell (p:=⟨b,5,be⟩) hb _).setCell (p:=⟨b,6,be⟩) hb _).setCell (p:=⟨b,7,be⟩) hb _).setCell (p:=⟨b,8,be⟩) hb _).setCell (p:=⟨b,9,be⟩) hb _).setCell (p:=⟨b,10,be⟩) hb _).setCell (p:=⟨b,11,be⟩) hb _
theorem dw{base b n k:Nat}{T:Ja}{w:World}{v:Value}{xs:List Value}(h:w.ownsRow base T k v n xs)(hb:b<base)(x0 x1 x2 x3 x4 x5 x6 x7 x8 x9 x10 x11:Value):((((((((((((w.setCell ⟨b,0,be⟩ x0).setCell ⟨b,1,be⟩ x1).setCell ⟨b,2,be⟩ x2).setCell ⟨b,3,be⟩ x3).setCell ⟨b,4,be⟩ x4).setCell ⟨b,5,be⟩ x5).setCell ⟨b,6,be⟩ x6).setCell ⟨b,7,be⟩ x7).setCell ⟨b,8,be⟩ x8).setCell ⟨b,9,be⟩ x9).setCell ⟨b,10,be⟩ x10).setCell ⟨b,11,be⟩ x11).ownsRow base T k v n xs:=Il (Il (Il (Il (Il (Il (Il (Il (Il (Il (Il (Il (h) (a:=⟨b,0,be⟩) hb _) (a:=⟨b,1,be⟩) hb _) (a:=⟨b,2,be⟩) hb _) (a:=⟨b,3,be⟩) hb _) (a:=⟨b,4,be⟩) hb _) (a:=⟨b,5,be⟩) hb _) (a:=⟨b,6,be⟩) hb _) (a:=⟨b,7,be⟩) hb _) (a:=⟨b,8,be⟩) hb _) (a:=⟨b,9,be⟩) hb _) (a:=⟨b,10,be⟩) hb _) (a:=⟨b,11,be⟩) hb _
structure cZ(B:Nat)(w:World)(n:Nd)(vm vr vs vg vw:Value):Prop where
 ms:Own B w vm n.ms
 rs:cV B w vr n.rs
 sv:Sv.Own B w vs n.sv
 gw:Gw.Own B w vg n.gw
 wh:Wh.Own B w vw n.wh
theorem aE{base n k:Nat}{T:Ja}{w:World}{v:Value}{xs:List Value}(h:w.ownsRow base T k v n xs):∃a c,v=J a n c/\n<=c:=by
 rcases h.2 with⟨h1,h2⟩|⟨g,c,cur,h1,_,_,hn,_⟩
 .subst h2;exact⟨be,0,h1,Ie _⟩
 .exact⟨_,c,h1,hn⟩
theorem cZ.below{B:Nat}{w w':World}{n:Nd}{vm vr vs vg vw:Value}(h:cZ B w n vm vr vs vg vw)(hb:Below w.heap.size w w'):cZ B w' n vm vr vs vg vw:=⟨h.ms.below hb,h.rs.below hb,h.sv.below hb,h.gw.below hb,h.wh.below hb⟩
structure iE(n:Nd):Prop where
 ms:∀m∈n.ms,m.name.size<=Io
 rs:∀r∈n.rs,r.m.name.size<=Io
 sv:∀m∈n.sv,m.ok
 gw:∀m∈n.gw,m.ok
 wh:∀m∈n.wh,m.ok
 name:n.name.size<=Io
 av:n.av.size<=Io
theorem eY.ok{w:World}{n:Nd}{vm vr vs vg vw:Value}(h:eY w n vm vr vs vg vw):iE n:=by
 obtain⟨⟨_,_,_,h1,_⟩,⟨_,_,_,h2,_⟩,⟨_,_,_,h3,_⟩,⟨_,_,_,h4,_⟩,⟨_,_,_,h5,_⟩,h6,h7⟩:=h;exact⟨dI h1,RU h2,Sv.dI h3,Gw.dI h4,Wh.dI h5,h6,h7⟩
theorem cZ.is{B:Nat}{w:World}{n:Nd}{vm vr vs vg vw:Value}(h:cZ B w n vm vr vs vg vw)(hk:iE n):eY w n vm vr vs vg vw:=
 ⟨h.ms.sl (cD hk.ms),h.rs.sl (RV hk.rs),h.sv.sl (Sv.cD hk.sv),h.gw.sl (Gw.cD hk.gw),h.wh.sl (Wh.cD hk.wh),hk.name,hk.av⟩
theorem sH(n:Nd)(vm vr vs vg vw:Value)(w:World)(h:eY w n vm vr vs vg vw)(l1:n.ms.length<=1000)(l2:n.rs.length<=1000)(l3:n.sv.length<=1000)(l4:n.gw.length<=1000)(l5:n.wh.length<=1000) :
 aK 31 #[Ik (dE n vm vr vs vg vw)] w λe w'=>∃um ur us ug uw,e=AT (Ik (dE n um ur us ug uw))/\cZ w.heap.size w' n um ur us ug uw/\Below w.heap.size w w':=by
 obtain⟨nm,ct,ms,rs,sv,gw,⟨px,py,pz,ph,pq⟩,wh⟩:=n;obtain⟨hm,hr,hs,wW,hh,_,_⟩:=h;simp only at hm hr hs wW hh l1 l2 l3 l4 l5;have Hm:Hid (∀W,Below w.heap.size w W->aK _ _ _ _):=λW hW=>fJ ms vm W (hm.below hW) l1;have Hr:Hid (∀W,Below w.heap.size w W->aK _ _ _ _):=λW hW=>hY rs vr W (hr.below hW) l2;have Hs:Hid (∀W,Below w.heap.size w W->aK _ _ _ _):=λW hW=>Sv.fJ sv vs W (hs.below hW) l3;have Hg:Hid (∀W,Below w.heap.size w W->aK _ _ _ _):=λW hW=>Gw.fJ gw vg W (wW.below hW) l4;have Hh:Hid (∀W,Below w.heap.size w W->aK _ _ _ _):=λW hW=>Wh.fJ wh vw W (hh.below hW) l5;obtain⟨em,cm,rfl,_,_⟩:=hm;obtain⟨er,cr,rfl,_,_⟩:=hr;obtain⟨es,cs,rfl,_,_⟩:=hs;obtain⟨eg,cg,rfl,_,_⟩:=wW;obtain⟨eh,ch,rfl,_,_⟩:=hh;generalize hNm:ms.length=km at *;have HNm:Hid _:=hNm;clear hNm;generalize hNr:rs.length=kr at *;have HNr:Hid _:=hNr;clear hNr;generalize hNs:sv.length=ks at *;have RW:Hid _:=hNs;clear hNs;generalize hNg:gw.length=kg at *;have HNg:Hid _:=hNg;clear hNg;generalize hNh:wh.length=kh at *;have HNh:Hid _:=hNh;clear hNh;simp only[dE];obtain⟨W0,bP⟩:∃W0,W0=(w.alloc (By #[Y nm,Y ct,J em km cm,J er kr cr,J es ks cs,J eg kg cg,U O px,U O py,U O pz,U O ph,U O pq,J eh kh ch] 50)).alloc (By #[Y ⟨#[]⟩,Y ⟨#[]⟩,J be 0 0,J be 0 0,J be 0 0,J be 0 0,U O 0,U O 0,U O 0,U O 0,U O 0,J be 0 0] 50):=⟨_,rfl⟩;have bK:Below w.heap.size w W0:=by rw[bP];exact((Ib _ _).alloc (Ie _) _).alloc (by simp) _
 have dX:W0.heap[w.heap.size]?=AI (By #[Y nm,Y ct,J em km cm,J er kr cr,J es ks cs,J eg kg cg,U O px,U O py,U O pz,U O ph,U O pq,J eh kh ch] 50 (0,0)):=by
  rw[bP,II _ _ _ (by simp)];exact Ij w _
 have dt:W0.heap[w.heap.size+1]?=AI (By #[Y ⟨#[]⟩,Y ⟨#[]⟩,J be 0 0,J be 0 0,J be 0 0,J be 0 0,U O 0,U O 0,U O 0,U O 0,U O 0,J be 0 0] 50 (0,0)):=by
  have h:=Ij (w.alloc (By #[Y nm,Y ct,J em km cm,J er kr cr,J es ks cs,J eg kg cg,U O px,U O py,U O pz,U O ph,U O pq,J eh kh ch] 50)) (By #[Y ⟨#[]⟩,Y ⟨#[]⟩,J be 0 0,J be 0 0,J be 0 0,J be 0 0,U O 0,U O 0,U O 0,U O 0,U O 0,J be 0 0] 50);rw[bP];simpa using h
 have fj:w.heap.size+1<W0.heap.size:=by rw[bP];simp
 have df:Hid _:=bK;have Aq:Hid _:=dX;have pC:Hid _:=dt;clear bK dX dt;go_enter Tryz.func31,Tryz.ntmps31;go_wp2_with fail;rw[<- bP];clear bP;refine(Hm.out W0 df.out).mono ?_;rintro e X1 ⟨v',rfl,ho,hx⟩;obtain⟨bm,GS,EZ,_⟩:=aE ho;rw[HNm.out] at EZ;subst EZ;have iH:=(hx.block _ (by omega)).trans Aq.out;obtain⟨y0,y1,y2,y3,y4,y5,y6,y7,y8,y9,y10,y11⟩:=bQ iH;have z2:X1.frozen? ⟨w.heap.size,2,be⟩=false:=by simp[It,iH]
 have Ly:w.heap.size<X1.heap.size:=by have:=hx.size;omega
 obtain⟨W1,db⟩:∃W1,W1=X1.setCell ⟨w.heap.size,2,be⟩ (J bm km GS):=⟨_,rfl⟩;have xf:Hid (W1.heap[w.heap.size]?=AI (By #[Y nm,Y ct,J bm km GS,J er kr cr,J es ks cs,J eg kg cg,U O px,U O py,U O pz,U O ph,U O pq,J eh kh ch] 50 (0,0))):=by rw[db];exact IC (i:=2) iH _
 have Lz:Hid (W1.heap[w.heap.size+1]?=AI (By #[Y ⟨#[]⟩,Y ⟨#[]⟩,J be 0 0,J be 0 0,J be 0 0,J be 0 0,U O 0,U O 0,U O 0,U O 0,U O 0,J be 0 0] 50 (0,0))):=by rw[db];exact(I0 _ _ _ _ (by simp)).trans ((hx.block _ (by omega)).trans pC.out)
 have agC:Hid (Own (w.heap.size+2) W1 (J bm km GS) ms):=by rw[db];exact Il (ho.mono (by omega)) (by simp) _
 have aZ:Hid (Below w.heap.size w W1):=by rw[db];exact(df.out.trans (hx.mono df.out.size)).setCell (p:=⟨w.heap.size,2,be⟩) (by simp) _
 have fO:=(BY.1 Lz.out).1;clear ho hx iH fj;go_wp2_with fail;rw[<- db];clear db y0 y1 y2 y3 y4 y5 y6 y7 y8 y9 y10 y11 z2 Ly;refine(Hr.out W1 aZ.out).mono ?_;rintro e X2 ⟨v',rfl,ho,hx⟩;obtain⟨br,MC,EZ,_⟩:=aE ho;rw[HNr.out] at EZ;subst EZ;have iH:=(hx.block _ (by omega)).trans xf.out;obtain⟨y0,y1,y2,y3,y4,y5,y6,y7,y8,y9,y10,y11⟩:=bQ iH;have z3:X2.frozen? ⟨w.heap.size,3,be⟩=false:=by simp[It,iH]
 have Ly:w.heap.size<X2.heap.size:=by have:=hx.size;omega
 obtain⟨W2,bO⟩:∃W2,W2=X2.setCell ⟨w.heap.size,3,be⟩ (J br kr MC):=⟨_,rfl⟩;have yR:Hid (W2.heap[w.heap.size]?=AI (By #[Y nm,Y ct,J bm km GS,J br kr MC,J es ks cs,J eg kg cg,U O px,U O py,U O pz,U O ph,U O pq,J eh kh ch] 50 (0,0))):=by rw[bO];exact IC (i:=3) iH _
 have ma:Hid (W2.heap[w.heap.size+1]?=AI (By #[Y ⟨#[]⟩,Y ⟨#[]⟩,J be 0 0,J be 0 0,J be 0 0,J be 0 0,U O 0,U O 0,U O 0,U O 0,U O 0,J be 0 0] 50 (0,0))):=by rw[bO];exact(I0 _ _ _ _ (by simp)).trans ((hx.block _ (by omega)).trans Lz.out)
 have agD:Hid (cV (w.heap.size+2) W2 (J br kr MC) rs):=by rw[bO];exact Il (ho.base (by omega)) (by simp) _
 have agE:Hid (Own (w.heap.size+2) W2 (J bm km GS) ms):=by rw[bO];exact Il (agC.out.below hx) (by simp) _
 have bA:Hid (Below w.heap.size w W2):=by rw[bO];exact(aZ.out.trans (hx.mono aZ.out.size)).setCell (p:=⟨w.heap.size,3,be⟩) (by simp) _
 have jb:=(BY.1 ma.out).1;clear ho hx iH fO;go_wp2_with fail;rw[<- bO];clear bO y0 y1 y2 y3 y4 y5 y6 y7 y8 y9 y10 y11 z3 Ly;refine(Hs.out W2 bA.out).mono ?_;rintro e X3 ⟨v',rfl,ho,hx⟩;obtain⟨bs,RX,EZ,_⟩:=aE ho;rw[RW.out] at EZ;subst EZ;have iH:=(hx.block _ (by omega)).trans yR.out;obtain⟨y0,y1,y2,y3,y4,y5,y6,y7,y8,y9,y10,y11⟩:=bQ iH;have z4:X3.frozen? ⟨w.heap.size,4,be⟩=false:=by simp[It,iH]
 have Ly:w.heap.size<X3.heap.size:=by have:=hx.size;omega
 obtain⟨W3,ee⟩:∃W3,W3=X3.setCell ⟨w.heap.size,4,be⟩ (J bs ks RX):=⟨_,rfl⟩;have Wg:Hid (W3.heap[w.heap.size]?=AI (By #[Y nm,Y ct,J bm km GS,J br kr MC,J bs ks RX,J eg kg cg,U O px,U O py,U O pz,U O ph,U O pq,J eh kh ch] 50 (0,0))):=by rw[ee];exact IC (i:=4) iH _
 have qV:Hid (W3.heap[w.heap.size+1]?=AI (By #[Y ⟨#[]⟩,Y ⟨#[]⟩,J be 0 0,J be 0 0,J be 0 0,J be 0 0,U O 0,U O 0,U O 0,U O 0,U O 0,J be 0 0] 50 (0,0))):=by rw[ee];exact(I0 _ _ _ _ (by simp)).trans ((hx.block _ (by omega)).trans ma.out)
 have agF:Hid (Sv.Own (w.heap.size+2) W3 (J bs ks RX) sv):=by rw[ee];exact Il (ho.mono (by omega)) (by simp) _
 have agG:Hid (Own (w.heap.size+2) W3 (J bm km GS) ms):=by rw[ee];exact Il (agE.out.below hx) (by simp) _
 have agH:Hid (cV (w.heap.size+2) W3 (J br kr MC) rs):=by rw[ee];exact Il (agD.out.below hx) (by simp) _
 have cF:Hid (Below w.heap.size w W3):=by rw[ee];exact(bA.out.trans (hx.mono bA.out.size)).setCell (p:=⟨w.heap.size,4,be⟩) (by simp) _
 have tR:=(BY.1 qV.out).1;clear ho hx iH jb;go_wp2_with fail;rw[<- ee];clear ee y0 y1 y2 y3 y4 y5 y6 y7 y8 y9 y10 y11 z4 Ly;refine(Hg.out W3 cF.out).mono ?_;rintro e X4 ⟨v',rfl,ho,hx⟩;obtain⟨bg,Wm,EZ,_⟩:=aE ho;rw[HNg.out] at EZ;subst EZ;have iH:=(hx.block _ (by omega)).trans Wg.out;obtain⟨y0,y1,y2,y3,y4,y5,y6,y7,y8,y9,y10,y11⟩:=bQ iH;have z5:X4.frozen? ⟨w.heap.size,5,be⟩=false:=by simp[It,iH]
 have Ly:w.heap.size<X4.heap.size:=by have:=hx.size;omega
 obtain⟨W4,nU⟩:∃W4,W4=X4.setCell ⟨w.heap.size,5,be⟩ (J bg kg Wm):=⟨_,rfl⟩;have Fa:Hid (W4.heap[w.heap.size]?=AI (By #[Y nm,Y ct,J bm km GS,J br kr MC,J bs ks RX,J bg kg Wm,U O px,U O py,U O pz,U O ph,U O pq,J eh kh ch] 50 (0,0))):=by rw[nU];exact IC (i:=5) iH _
 have Va:Hid (W4.heap[w.heap.size+1]?=AI (By #[Y ⟨#[]⟩,Y ⟨#[]⟩,J be 0 0,J be 0 0,J be 0 0,J be 0 0,U O 0,U O 0,U O 0,U O 0,U O 0,J be 0 0] 50 (0,0))):=by rw[nU];exact(I0 _ _ _ _ (by simp)).trans ((hx.block _ (by omega)).trans qV.out)
 have agI:Hid (Gw.Own (w.heap.size+2) W4 (J bg kg Wm) gw):=by rw[nU];exact Il (ho.mono (by omega)) (by simp) _
 have agJ:Hid (Own (w.heap.size+2) W4 (J bm km GS) ms):=by rw[nU];exact Il (agG.out.below hx) (by simp) _
 have agK:Hid (cV (w.heap.size+2) W4 (J br kr MC) rs):=by rw[nU];exact Il (agH.out.below hx) (by simp) _
 have agL:Hid (Sv.Own (w.heap.size+2) W4 (J bs ks RX) sv):=by rw[nU];exact Il (agF.out.below hx) (by simp) _
 have gC:Hid (Below w.heap.size w W4):=by rw[nU];exact(cF.out.trans (hx.mono cF.out.size)).setCell (p:=⟨w.heap.size,5,be⟩) (by simp) _
 have Bc:=(BY.1 Va.out).1;clear ho hx iH tR;go_wp2_with fail;rw[<- nU];clear nU y0 y1 y2 y3 y4 y5 y6 y7 y8 y9 y10 y11 z5 Ly;refine(Hh.out W4 gC.out).mono ?_;rintro e X5 ⟨v',rfl,ho,hx⟩;obtain⟨bh,dh',EZ,_⟩:=aE ho;rw[HNh.out] at EZ;subst EZ;have iH:=(hx.block _ (by omega)).trans Fa.out;obtain⟨y0,y1,y2,y3,y4,y5,y6,y7,y8,y9,y10,y11⟩:=bQ iH;have z11:X5.frozen? ⟨w.heap.size,11,be⟩=false:=by simp[It,iH]
 have Ly:w.heap.size<X5.heap.size:=by have:=hx.size;omega
 obtain⟨W5,iF⟩:∃W5,W5=X5.setCell ⟨w.heap.size,11,be⟩ (J bh kh dh'):=⟨_,rfl⟩;have Fb:Hid (W5.heap[w.heap.size]?=AI (By #[Y nm,Y ct,J bm km GS,J br kr MC,J bs ks RX,J bg kg Wm,U O px,U O py,U O pz,U O ph,U O pq,J bh kh dh'] 50 (0,0))):=by rw[iF];exact IC (i:=11) iH _
 have HZ5:Hid (W5.heap[w.heap.size+1]?=AI (By #[Y ⟨#[]⟩,Y ⟨#[]⟩,J be 0 0,J be 0 0,J be 0 0,J be 0 0,U O 0,U O 0,U O 0,U O 0,U O 0,J be 0 0] 50 (0,0))):=by rw[iF];exact(I0 _ _ _ _ (by simp)).trans ((hx.block _ (by omega)).trans Va.out)
 have agM:Hid (Wh.Own (w.heap.size+2) W5 (J bh kh dh') wh):=by rw[iF];exact Il (ho.mono (by omega)) (by simp) _
 have agN:Hid (Own (w.heap.size+2) W5 (J bm km GS) ms):=by rw[iF];exact Il (agJ.out.below hx) (by simp) _
 have agO:Hid (cV (w.heap.size+2) W5 (J br kr MC) rs):=by rw[iF];exact Il (agK.out.below hx) (by simp) _
 have agP:Hid (Sv.Own (w.heap.size+2) W5 (J bs ks RX) sv):=by rw[iF];exact Il (agL.out.below hx) (by simp) _
 have agQ:Hid (Gw.Own (w.heap.size+2) W5 (J bg kg Wm) gw):=by rw[iF];exact Il (agI.out.below hx) (by simp) _
 have jd:Hid (Below w.heap.size w W5):=by rw[iF];exact(gC.out.trans (hx.mono gC.out.size)).setCell (p:=⟨w.heap.size,11,be⟩) (by simp) _
 have MD:=(BY.1 HZ5.out).1;have jV:=HZ5.out;have q0:=ae jV 0;have p0:=ae Fb.out 0;have zz0:W5.frozen? ⟨w.heap.size+1,0,be⟩=false:=by simp[It,jV]
 have q1:=ae jV 1;have p1:=ae Fb.out 1;have zz1:W5.frozen? ⟨w.heap.size+1,1,be⟩=false:=by simp[It,jV]
 have q2:=ae jV 2;have p2:=ae Fb.out 2;have zz2:W5.frozen? ⟨w.heap.size+1,2,be⟩=false:=by simp[It,jV]
 have q3:=ae jV 3;have p3:=ae Fb.out 3;have zz3:W5.frozen? ⟨w.heap.size+1,3,be⟩=false:=by simp[It,jV]
 have q4:=ae jV 4;have p4:=ae Fb.out 4;have zz4:W5.frozen? ⟨w.heap.size+1,4,be⟩=false:=by simp[It,jV]
 have q5:=ae jV 5;have p5:=ae Fb.out 5;have zz5:W5.frozen? ⟨w.heap.size+1,5,be⟩=false:=by simp[It,jV]
 have q6:=ae jV 6;have p6:=ae Fb.out 6;have zz6:W5.frozen? ⟨w.heap.size+1,6,be⟩=false:=by simp[It,jV]
 have q7:=ae jV 7;have p7:=ae Fb.out 7;have zz7:W5.frozen? ⟨w.heap.size+1,7,be⟩=false:=by simp[It,jV]
 have q8:=ae jV 8;have p8:=ae Fb.out 8;have zz8:W5.frozen? ⟨w.heap.size+1,8,be⟩=false:=by simp[It,jV]
 have q9:=ae jV 9;have p9:=ae Fb.out 9;have zz9:W5.frozen? ⟨w.heap.size+1,9,be⟩=false:=by simp[It,jV]
 have q10:=ae jV 10;have p10:=ae Fb.out 10;have anR:W5.frozen? ⟨w.heap.size+1,10,be⟩=false:=by simp[It,jV]
 have q11:=ae jV 11;have p11:=ae Fb.out 11;have anS:W5.frozen? ⟨w.heap.size+1,11,be⟩=false:=by simp[It,jV]
 clear ho hx iH Bc jV;go_upto_region 6 with fail
 rw[<- iF];clear iF y0 y1 y2 y3 y4 y5 y6 y7 y8 y9 y10 y11 z11 Ly;go_wp2_with fail;refine IL (v:=Ik #[Y nm,Y ct,J bm km GS,J br kr MC,J bs ks RX,J bg kg Wm,U O px,U O py,U O pz,U O ph,U O pq,J bh kh dh']) ?_ rfl ⟨J bm km GS,J br kr MC,J bs ks RX,J bg kg Wm,J bh kh dh',rfl,⟨?_,?_,?_,?_,?_⟩,?_⟩
 .simp[results,Tryz.results31,go_sem,q0,q1,q2,q3,q4,q5,q6,q7,q8,q9,q10,q11]
 .exact Own.mono (dw (agN.out) (by simp) _ _ _ _ _ _ _ _ _ _ _ _) (by omega)
 .exact cV.base (dw (agO.out) (by simp) _ _ _ _ _ _ _ _ _ _ _ _) (by omega)
 .exact Sv.Own.mono (dw (agP.out) (by simp) _ _ _ _ _ _ _ _ _ _ _ _) (by omega)
 .exact Gw.Own.mono (dw (agQ.out) (by simp) _ _ _ _ _ _ _ _ _ _ _ _) (by omega)
 .exact Wh.Own.mono (dw (agM.out) (by simp) _ _ _ _ _ _ _ _ _ _ _ _) (by omega)
 .exact oq jd.out (by simp) _ _ _ _ _ _ _ _ _ _ _ _
structure Sh(S:Nat->Prop)(w w':World):Prop where
 os:w'.os=w.os
 tape:w'.tape=w.tape
 output:w'.output=w.output
 size:w.heap.size<=w'.heap.size
 block:∀k,k<w.heap.size->¬ S k->w'.heap[k]?=w.heap[k]?
theorem Sh.refl(S:Nat->Prop)(w:World):Sh S w w:=⟨rfl,rfl,rfl,Ie _,λ_ _ _=>rfl⟩
theorem Sh.trans{S:Nat->Prop}{a b c:World}(h:Sh S a b)(k:Sh S b c):Sh S a c:=⟨k.os.trans h.os,k.tape.trans h.tape,k.output.trans h.output,Nat.le_trans h.size k.size,λi hi hn=>(k.block i (IJ hi h.size) hn).trans (h.block i hi hn)⟩
theorem Sh.of{S:Nat->Prop}{w w':World}(h:Below w.heap.size w w'):Sh S w w':=⟨h.os,h.tape,h.output,h.size,λk hk _=>h.block k hk⟩
theorem Sh.next{S:Nat->Prop}{a w w':World}(h:Sh S a w)(k:Below w.heap.size w w'):Sh S a w':=h.trans (.of k)
theorem Sh.alloc{S:Nat->Prop}{a w:World}(h:Sh S a w)(o:Obj):Sh S a (w.alloc o):=h.next ((Ib _ _).alloc (Ie _) _)
theorem Sh.setCell{S:Nat->Prop}{a w:World}(h:Sh S a w){b i:Nat}(hb:S b)(x:Value):Sh S a (w.setCell ⟨b,i,be⟩ x):=
 h.trans ⟨rfl,rfl,rfl,by simp[World.setCell],λk _ hn=>I0 w _ x k (λe=>hn (by simp only at e;rw[e];exact hb))⟩
theorem Sh.below{S:Nat->Prop}{w w':World}{B:Nat}(h:Sh S w w')(hB:B<=w.heap.size)(hS:∀k,S k->B<=k):Below B w w':=⟨h.os,h.tape,h.output,h.size,λk hk=>h.block k (by omega) (λe=>by have:=hS k e;omega)⟩
theorem Sh.mono{S T:Nat->Prop}{w w':World}(h:Sh S w w')(hS:∀k,S k->T k):Sh T w w':=⟨h.os,h.tape,h.output,h.size,λk hk hn=>h.block k hk (λe=>hn (hS k e))⟩
theorem aA{w:World}{b:Nat}{cs:Array Value}{T:Ja}(h:w.heap[b]?=AI (By cs T (0,0)))(o:Nat):w.frozen? ⟨b,o,be⟩=false:=by simp[It,h]
def Wk(L:Nat)(w:World)(b:Nat)(n:Nd):Prop:=∃vm vr vs vg vw,w.heap[b]?=AI (By (dE n vm vr vs vg vw) 107 (0,0))/\cZ L w n vm vr vs vg vw /\
 (vm.ownBlock≠AI b/\vr.ownBlock≠AI b/\vs.ownBlock≠AI b/\vg.ownBlock≠AI b/\vw.ownBlock≠AI b)/\iE n
theorem Wk.below{L b:Nat}{w w':World}{n:Nd}(h:Wk L w b n)(hb:Below w.heap.size w w'):Wk L w' b n:=by
 obtain⟨vm,vr,vs,vg,vw,h1,h2,h3,h4⟩:=h;exact⟨vm,vr,vs,vg,vw,(hb.block _ (BY.1 h1).1).trans h1,h2.below hb,h3,h4⟩
theorem Wk.lt{L b:Nat}{w:World}{n:Nd}(h:Wk L w b n):b<w.heap.size:=by
 obtain⟨vm,vr,vs,vg,vw,h1,_⟩:=h;exact(BY.1 h1).1
theorem Wk.ME{L b:Nat}{W w1:World}{n:Nd}(h:Wk L W b n)(hL:L<=W.heap.size)(hb:Below W.heap.size W w1){v:Value}{l:List Mem}(ho:Own W.heap.size w1 v l)(hl:(∀m∈l,m.name.size<=Io)):Wk L (w1.setCell ⟨b,2,be⟩ v) b { n with ms:=l }:=by
 obtain⟨vm,vr,vs,vg,vw,h1,h2,h3,h4⟩:=h;have aO:=(BY.1 h1).1;refine⟨v,vr,vs,vg,vw,?_,⟨Iv (ho.mono hL) (λe=>by have:=ho.lt b e;omega) _,Iv (h2.rs.below hb) h3.2.1 _,Iv (h2.sv.below hb) h3.2.2.1 _,Iv (h2.gw.below hb) h3.2.2.2.1 _,Iv (h2.wh.below hb) h3.2.2.2.2 _⟩,⟨λe=>by have:=ho.lt b e;omega,h3.2.1,h3.2.2.1,h3.2.2.2.1,h3.2.2.2.2⟩,⟨hl,h4.rs,h4.sv,h4.gw,h4.wh,h4.name,h4.av⟩⟩;exact IC (i:=2) ((hb.block _ aO).trans h1) v
theorem Wk.MF{L b:Nat}{W w1:World}{n:Nd}(h:Wk L W b n)(hL:L<=W.heap.size)(hb:Below W.heap.size W w1){v:Value}{l:List bU}(ho:cV W.heap.size w1 v l)(hl:(∀r∈l,r.m.name.size<=Io)):Wk L (w1.setCell ⟨b,3,be⟩ v) b { n with rs:=l }:=by
 obtain⟨vm,vr,vs,vg,vw,h1,h2,h3,h4⟩:=h;have aO:=(BY.1 h1).1;refine⟨vm,v,vs,vg,vw,?_,⟨Iv (h2.ms.below hb) h3.1 _,Iv (ho.base hL) (λe=>by have:=ho.lt b e;omega) _,Iv (h2.sv.below hb) h3.2.2.1 _,Iv (h2.gw.below hb) h3.2.2.2.1 _,Iv (h2.wh.below hb) h3.2.2.2.2 _⟩,⟨h3.1,λe=>by have:=ho.lt b e;omega,h3.2.2.1,h3.2.2.2.1,h3.2.2.2.2⟩,⟨h4.ms,hl,h4.sv,h4.gw,h4.wh,h4.name,h4.av⟩⟩;exact IC (i:=3) ((hb.block _ aO).trans h1) v
theorem Wk.CV{L b:Nat}{W w1:World}{n:Nd}(h:Wk L W b n)(hL:L<=W.heap.size)(hb:Below W.heap.size W w1){v:Value}{l:List Sv.aV}(ho:Sv.Own W.heap.size w1 v l)(hl:(∀m∈l,m.ok)):Wk L (w1.setCell ⟨b,4,be⟩ v) b { n with sv:=l }:=by
 obtain⟨vm,vr,vs,vg,vw,h1,h2,h3,h4⟩:=h;have aO:=(BY.1 h1).1;refine⟨vm,vr,v,vg,vw,?_,⟨Iv (h2.ms.below hb) h3.1 _,Iv (h2.rs.below hb) h3.2.1 _,Iv (ho.mono hL) (λe=>by have:=ho.lt b e;omega) _,Iv (h2.gw.below hb) h3.2.2.2.1 _,Iv (h2.wh.below hb) h3.2.2.2.2 _⟩,⟨h3.1,h3.2.1,λe=>by have:=ho.lt b e;omega,h3.2.2.2.1,h3.2.2.2.2⟩,⟨h4.ms,h4.rs,hl,h4.gw,h4.wh,h4.name,h4.av⟩⟩;exact IC (i:=4) ((hb.block _ aO).trans h1) v
theorem Wk.MG{L b:Nat}{W w1:World}{n:Nd}(h:Wk L W b n)(hL:L<=W.heap.size)(hb:Below W.heap.size W w1){v:Value}{l:List Gw.bN}(ho:Gw.Own W.heap.size w1 v l)(hl:(∀m∈l,m.ok)):Wk L (w1.setCell ⟨b,5,be⟩ v) b { n with gw:=l }:=by
 obtain⟨vm,vr,vs,vg,vw,h1,h2,h3,h4⟩:=h;have aO:=(BY.1 h1).1;refine⟨vm,vr,vs,v,vw,?_,⟨Iv (h2.ms.below hb) h3.1 _,Iv (h2.rs.below hb) h3.2.1 _,Iv (h2.sv.below hb) h3.2.2.1 _,Iv (ho.mono hL) (λe=>by have:=ho.lt b e;omega) _,Iv (h2.wh.below hb) h3.2.2.2.2 _⟩,⟨h3.1,h3.2.1,h3.2.2.1,λe=>by have:=ho.lt b e;omega,h3.2.2.2.2⟩,⟨h4.ms,h4.rs,h4.sv,hl,h4.wh,h4.name,h4.av⟩⟩;exact IC (i:=5) ((hb.block _ aO).trans h1) v
theorem Wk.Wn{L b:Nat}{W w1:World}{n:Nd}(h:Wk L W b n)(hL:L<=W.heap.size)(hb:Below W.heap.size W w1){v:Value}{l:List Wh.bT}(ho:Wh.Own W.heap.size w1 v l)(hl:(∀m∈l,m.ok)):Wk L (w1.setCell ⟨b,11,be⟩ v) b { n with wh:=l }:=by
 obtain⟨vm,vr,vs,vg,vw,h1,h2,h3,h4⟩:=h;have aO:=(BY.1 h1).1;refine⟨vm,vr,vs,vg,v,?_,⟨Iv (h2.ms.below hb) h3.1 _,Iv (h2.rs.below hb) h3.2.1 _,Iv (h2.sv.below hb) h3.2.2.1 _,Iv (h2.gw.below hb) h3.2.2.2.1 _,Iv (ho.mono hL) (λe=>by have:=ho.lt b e;omega) _⟩,⟨h3.1,h3.2.1,h3.2.2.1,h3.2.2.2.1,λe=>by have:=ho.lt b e;omega⟩,⟨h4.ms,h4.rs,h4.sv,h4.gw,hl,h4.name,h4.av⟩⟩;exact IC (i:=11) ((hb.block _ aO).trans h1) v
theorem Wk.aby{L b:Nat}{W:World}{n:Nd}(h:Wk L W b n)(q:Pl):Wk L (((((W.setCell ⟨b,6,be⟩ (U O q.x)).setCell ⟨b,7,be⟩ (U O q.y)).setCell ⟨b,8,be⟩ (U O q.z)).setCell ⟨b,9,be⟩ (U O q.h)).setCell ⟨b,10,be⟩ (U O q.s)) b { n with p:=q }:=by
 obtain⟨vm,vr,vs,vg,vw,h1,h2,h3,h4⟩:=h;have e:∀{base k m:Nat} {T:Ja} {v:Value} {xs:List Value},W.ownsRow base T k v m xs->v.ownBlock≠AI b->(((((W.setCell ⟨b,6,be⟩ (U O q.x)).setCell ⟨b,7,be⟩ (U O q.y)).setCell ⟨b,8,be⟩ (U O q.z)).setCell ⟨b,9,be⟩ (U O q.h)).setCell ⟨b,10,be⟩ (U O q.s)).ownsRow base T k v m xs:=λh hn=>Iv (Iv (Iv (Iv (Iv h hn _) hn _) hn _) hn _) hn _;refine⟨vm,vr,vs,vg,vw,?_,⟨e h2.ms h3.1,e h2.rs h3.2.1,e h2.sv h3.2.2.1,e h2.gw h3.2.2.2.1,e h2.wh h3.2.2.2.2⟩,h3,⟨h4.ms,h4.rs,h4.sv,h4.gw,h4.wh,h4.name,h4.av⟩⟩;exact IC (i:=10) (IC (i:=9) (IC (i:=8) (IC (i:=7) (IC (i:=6) h1 _) _) _) _) _
def uX(ms:List Mem)(t:ByteArray):Nat:=ms.findIdx λm => !decide (bW m.name t<0)
def RY(ms:List Mem)(t:ByteArray):Bool:=decide (uX ms t<ms.length)&&decide (bW (ms.getD (uX ms t) dm).name t=0)
theorem sI{ms:List Mem}(hr:aT ms)(t:ByteArray):At ms t (uX ms t) (RY ms t):=by
 have lQ:∀j (h:j<ms.length),ms.getD j dm=ms[j]:=λj h=>by simp[Ir,Ic h]
 refine⟨QD,λj hj=>?_,λj hj hl=>?_,?_⟩
 .have hl:j<ms.length:=IJ hj QD
  have h:=List.not_of_lt_findIdx hj;rw[lQ j hl];simpa using h
 .have hp:uX ms t<ms.length:=by omega
  have h:=List.findIdx_getElem (xs:=ms) (p:=λm:Mem => !decide (bW m.name t<0)) (w:=hp);apply Int.not_lt.1;intro hx;have h2:=eu hr t (uX ms t) j hj hl hx;rw[lQ _ hp] at h2;have h3:(!decide (bW (ms[uX ms t]'hp).name t<0))=true:=h;rw[decide_eq_true h2] at h3;cases h3
 .unfold RY
  rw[IG,decide_eq_true_eq,decide_eq_true_eq]
theorem iy{ms:List Mem}{t:ByteArray}{p:Nat}(h:At ms t p true):bX ms t=AI (ms.getD p dm):=by
 obtain⟨h1,h2⟩:=h.is.1 rfl;refine oX h1 (λj hj e=>?_) ((bL _ _).1 h2);have:=h.lo j hj;rw[e,(bL t t).2 rfl] at this;omega
theorem ts{ms:List Mem}{t:ByteArray}{p:Nat}(hr:aT ms)(h:At ms t p false):bX ms t=be:=by
 refine sG λj hj e=>?_;have lQ:∀j (h:j<ms.length),ms.getD j dm=ms[j]:=λj h=>by simp[Ir,Ic h]
 have h2:At ms t j true:=by
  refine⟨by omega,λi hi=>?_,λi hi hl=>?_,⟨λ_=>⟨hj,(bL _ _).2 e⟩,λ_=>rfl⟩⟩
  .have:=Jb.1 hr i j (by omega) hj hi
   rw[<- e,fq,lQ i (by omega),lQ j hj];exact this
  .rcases Nat.lt_or_eq_of_le hi with h3|rfl
   .have:=Jb.1 hr j i hj hl h3
    have h4:0<bW (ms.getD i dm).name t:=by rw[<- e,oS,lQ i hl,lQ j hj];exact this
    omega
   .rw[(bL _ _).2 e];omega
 have:=(eZ h h2).2;cases this
theorem CW{ms:List Mem}{t:ByteArray}{p:Nat}{f:Bool}(hr:aT ms)(h:At ms t p f):bX ms t=if f=true then AI (ms.getD p dm) else be:=by
 cases f
 .rw[ts hr h];rfl
 .rw[iy h];rfl
theorem Wo{a b:ByteArray}(h:bW a b<0):a≠b:=λe=>by rw[(bL a b).2 e] at h;omega
theorem eN(x:Mem)(r:List Mem)(t:ByteArray):bX (x::r) t=if x.name=t then AI x else bX r t:=by
 unfold bX;rw[List.find?_cons];by_cases h:x.name=t<;>simp[h]
theorem lI(m:Mem)(t:ByteArray)(ht:m.name≠t):∀ms,bX (aN ms m) t=bX ms t
 |[]=>by rw[aN,eN,if_neg ht]
 |x::r=>by
  rw[aN];split
  .rw[eN,eN,lI m t ht r]
  .rename_i h1
   split
   .rename_i h2
    have e:=(bL _ _).1 h2;split
    .rw[eN,eN,if_neg ht,if_neg (by rw[e];exact ht)]
    .rfl
   .rw[eN,if_neg ht]
theorem mj(m:Mem):∀ms,aN ms m≠ms->bX (aN ms m) m.name=AI m
 |[],_=>by rw[aN,eN,if_pos rfl]
 |x::r,h=>by
  rw[aN] at h ⊢;split
  .rename_i h1
   rw[if_pos h1] at h;rw[eN,if_neg (Wo h1)];exact mj m r (λe=>h (by rw[e]))
  .rename_i h1
   rw[if_neg h1] at h;split
   .rename_i h2
    rw[if_pos h2] at h;split
    .rw[eN,if_pos rfl]
    .rename_i h3;rw[if_neg h3] at h;exact absurd rfl h
   .rw[eN,if_pos rfl]
def Ax(rs:List bU)(t:ByteArray):Nat:=rs.findIdx λr=>decide (r.m.name=t)
theorem MH{rs:List bU}{t:ByteArray}{j:Nat}(h:j<Ax rs t):(rs.getD j dr).m.name≠t:=by
 have hl:=IJ h QD;have h:=List.not_of_lt_findIdx h;rw[show rs.getD j dr=rs[j] by simp[Ir,Ic hl]];simpa using h
theorem CX{rs:List bU}{t:ByteArray}(h:Ax rs t<rs.length):(rs.getD (Ax rs t) dr).m.name=t:=by
 have h2:=List.findIdx_getElem (xs:=rs) (p:=λr:bU=>decide (r.m.name=t)) (w:=h);rw[show rs.getD (Ax rs t) dr=rs[Ax rs t] by simp[Ir,Ic h]];exact of_decide_eq_true h2
theorem CY{rs:List bU}{t:ByteArray}(h:¬ Ax rs t<rs.length):ER rs t:=λj hj=>MH (by
 have:Ax rs t<=rs.length:=QD
 omega)
theorem Wp{rs:List bU}(hd:dY rs){t:ByteArray}{j:Nat}(hj:j<rs.length)(aP:j≠Ax rs t):(rs.getD j dr).m.name≠t:=by
 rcases Nat.lt_or_ge j (Ax rs t) with h|h
 .exact MH h
 .have aX:Ax rs t<j:=by omega
  intro e;exact hd (Ax rs t) j aX hj (by rw[e];exact CX (by omega))
def hZ(rs:List bU)(m:Mem):List bU:=
 if Ax rs m.name<rs.length then(if dn m (rs.getD (Ax rs m.name) dr).m=true then rs.eraseIdx (Ax rs m.name)++[⟨m,0⟩] else rs) else rs++[⟨m,0⟩]
def iN(rs:List bU)(m:Mem):Int:=if 20<(hZ rs m).length then 2 else 0
theorem RZ(rs:List bU)(v:Value)(m:Mem)(w:World)(hv:oj w v rs)(hm:m.name.size<=Io)(h0:eB rs=0)(he:m.e=0) :
 aK 154 #[v,Ik #[Y m.name,U O m.state,U O m.aI,U O m.addr,Ia m.server]] w λe w'=>∃a k c,e=AT (Ip #[J a k c,U O (iN rs m)])/\Below w.heap.size w w'/\(iN rs m=0->cV w.heap.size w' (J a k c) (hZ rs m)):=by
 have hl:=(mW h0).1;have sl:∀{W:World} {B:Nat} {u:Value} {l:List bU},cV B W u l->∃a k c,u=J a k c:=λh=>by
  obtain⟨a,c,e⟩:=h.slice;exact⟨a,_,c,e⟩
 by_cases hp:Ax rs m.name<rs.length
 .rcases hn:dn m (rs.getD (Ax rs m.name) dr).m with _|_
  .have e1:hZ rs m=rs:=by unfold hZ;rw[if_pos hp,if_neg (by rw[hn];simp)]
   have e2:iN rs m=0:=by unfold iN;rw[e1,if_neg (by omega)]
   refine(RI rs v m w hv hm h0 he _ hp (CX hp) hn).mono ?_;rintro e w' ⟨v',rfl,ho,hb⟩;obtain⟨a,k,c,rfl⟩:=sl ho;exact⟨a,k,c,by rw[e2],hb,λ_=>by rw[e1];exact ho⟩
  .have e1:hZ rs m=rs.eraseIdx (Ax rs m.name)++[⟨m,0⟩]:=by unfold hZ;rw[if_pos hp,if_pos hn]
   have e2:iN rs m=0:=by unfold iN;rw[e1,if_neg (by rw[Ii,List.length_eraseIdx_of_lt hp];simp;omega)]
   refine(Gu rs v m w hv hm h0 he _ hp (CX hp) hn).mono ?_;rintro e w' ⟨v',rfl,ho,hb⟩;obtain⟨a,k,c,rfl⟩:=sl ho;exact⟨a,k,c,by rw[e2],hb,λ_=>by rw[e1];exact ho⟩
 .have e1:hZ rs m=rs++[⟨m,0⟩]:=by unfold hZ;rw[if_neg hp]
  by_cases hf:rs.length=20
  .have e2:iN rs m=2:=by unfold iN;rw[e1,if_pos (by rw[Ii];simp;omega)]
   refine(Mo rs v m w hv hm h0 he (CY hp) hf).mono ?_;rintro e w' ⟨rfl,hb⟩;exact⟨be,0,0,by rw[e2],hb,λh=>by rw[e2] at h;cases h⟩
  .have e2:iN rs m=0:=by unfold iN;rw[e1,if_neg (by rw[Ii];simp;omega)]
   refine(R0 rs v m w hv hm h0 he (CY hp) (by omega)).mono ?_;rintro e w' ⟨v',rfl,ho,hb⟩;obtain⟨a,k,c,rfl⟩:=sl ho;exact⟨a,k,c,by rw[e2],hb,λ_=>by rw[e1];exact ho⟩
theorem ot(rs:List bU):dY rs↔rs.Pairwise λa b=>a.m.name≠b.m.name:=by
 have lQ:∀j (h:j<rs.length),rs.getD j dr=rs[j]:=λj h=>by simp[Ir,Ic h]
 rw[Jb];exact⟨λh i j hi hj jS=>by have:=h i j jS hj;rwa [lQ i hi,lQ j hj] at this,λh i j jS hj=>by rw[lQ i (by omega),lQ j hj];exact h i j (by omega) hj jS⟩
theorem Bd(rs:List bU):iM rs↔∀r∈rs,within r.told 0 100=true:=by
 have lQ:∀j (h:j<rs.length),rs.getD j dr=rs[j]:=λj h=>by simp[Ir,Ic h]
 constructor
 .intro h r hr
  obtain⟨j,hj,rfl⟩:=IT hr;have:=h j hj;rwa [lQ j hj] at this
 .intro h j hj
  rw[lQ j hj];exact h _ (IK _)
theorem R6{rs:List bU}(h1:rs.length<=20)(h2:∀r∈rs,r.m.e=0)(h3:∀r∈rs,within r.told 0 100=true)(h4:rs.Pairwise λa b=>a.m.name≠b.m.name):eB rs=0:=by
 have lQ:∀j (h:j<rs.length),rs.getD j dr=rs[j]:=λj h=>by simp[Ir,Ic h]
 exact yZ h1 (λj hj=>by rw[lQ j hj];exact h2 _ (IK _)) ((Bd rs).2 h3) ((ot rs).2 h4)
theorem rE{rs:List bU}{m:Mem}{r:bU}(h:r∈hZ rs m):r∈rs\/r=⟨m,0⟩:=by
 unfold hZ at h;split at h
 .split at h
  .rcases Jk.1 h with h|h
   .exact .inl (List.mem_of_mem_eraseIdx h)
   .exact .inr (by simpa using h)
  .exact .inl h
 .rcases Jk.1 h with h|h
  .exact .inl h
  .exact .inr (by simpa using h)
theorem Be{rs:List bU}{m:Mem}(h:eB rs=0)(hm:m.e=0)(hp:iN rs m=0):eB (hZ rs m)=0:=by
 obtain⟨l1,l2,l3,l4⟩:=mW h;have hlen:(hZ rs m).length<=20:=by
  unfold iN at hp;split at hp
  .cases hp
  .omega
 rw[Bd] at l3;have hd:=(ot rs).1 l4;refine R6 hlen (λr hr=>?_) (λr hr=>?_) ?_
 .rcases rE hr with h|rfl
  .exact l2 r h
  .exact hm
 .rcases rE hr with h|rfl
  .exact l3 r h
  .rfl
 .unfold hZ
  split
  .rename_i aX
   split
   .rw[Q1]
    refine⟨hd.sublist (List.eraseIdx_sublist _ _),by simp,λa ha b hb=>?_⟩;simp at hb;subst hb;obtain⟨i,hi,aP,rfl⟩:=List.mem_eraseIdx_iff_getElem.1 ha;have:=Wp l4 hi aP
    rwa [show rs.getD i dr=rs[i] by simp[Ir,Ic hi]] at this
   .exact hd
  .rename_i aX
   rw[Q1];refine⟨hd,by simp,λa ha b hb=>?_⟩;simp at hb;subst hb;obtain⟨i,hi,rfl⟩:=IT ha;have:=CY aX i hi
   rwa [show rs.getD i dr=rs[i] by simp[Ir,Ic hi]] at this
theorem kT{ms:List Mem}(h1:ms.length<=20)(h2:aT ms)(h3:∀m∈ms,m.e=0):bp ms=0:=by
 have lQ:∀j (h:j<ms.length),ms.getD j dm=ms[j]:=λj h=>by simp[Ir,Ic h]
 rw[tn ms h1 (λj hj=>by rw[lQ j hj];exact h3 _ (IK _)),if_pos (kL ms h2)]
theorem MI{ms:List Mem}{m:Mem}(h:bp ms=0)(hm:m.e=0)(hl:(aN ms m).length<=20):bp (aN ms m)=0:=by
 obtain⟨_,h2,_⟩:=aj h;refine kT hl (fY ms m h2) (λx hx=>?_);rcases di ms m x hx with rfl|hx
 .exact hm
 .exact jX h x hx
theorem xV{ms:List Mem}{m:Mem}(h:bp ms=0)(hm:m.e=0):aJ ms [m]=if 20<(aN ms m).length then 2 else 0:=by
 unfold aJ aY;rw[if_pos h,kN,if_pos hm];rfl
def mX(ms:List Mem)(m:Mem):Bool:=match bX ms m.name with
 |none=>true
 |some k=>dn m k
theorem eL(m:Mem):dn m m=false:=by
 unfold dn wY;simp
theorem kU{ms:List Mem}(hr:aT ms)(m:Mem):mX ms m=true↔aN ms m≠ms:=by
 have cA:=sI hr m.name;have hf:=CW hr cA;have hh:=dy ms m _ _ cA;unfold mX;rw[hf,hh];rcases he:RY ms m.name with _|_
 .simp only[Bool.false_eq_true,if_false,ne_eq,true_iff]
  intro e;have:=congrArg List.length e;have hle:=cA.le;simp at this;omega
 .simp only[if_true]
  rw[he] at cA;have hp:=(cA.is.1 rfl).1;by_cases hn:dn m (ms.getD (uX ms m.name) dm)=true
  .rw[if_pos hn]
   refine⟨λ_ e=>?_,λ_=>hn⟩;have h2:ms.getD (uX ms m.name) dm=m:=by
    have:(ms.set (uX ms m.name) m).getD (uX ms m.name) dm=m:=by simp[Ir,hp]
    rwa [e] at this
   rw[h2,eL] at hn;cases hn
  .rw[if_neg hn]
   exact⟨λh=>absurd h hn,λh=>absurd rfl h⟩
theorem Wq{ms:List Mem}(hr:aT ms){m:Mem}(h:mX ms m=false):aN ms m=ms:=by
 apply Classical.byContradiction;intro aP;rw[(kU hr m).2 aP] at h;cases h
def jf(n:Nd):Nat:=uX n.ms n.name
def mY(n:Nd):Bool:=RY n.ms n.name
def nK(n:Nd):List Mem:=rF n.ms (jf n) (mY n)
def zc(n:Nd):Mem:=eR (nK n) n.name
def Ay(n:Nd):Int:=if jL n.ms (jf n) (mY n)=0 then(if ia n.ms (jf n) (mY n)=true then iN n.rs (zc n) else 0) else jL n.ms (jf n) (mY n)
def sw(n:Nd):Nd:=if ia n.ms (jf n) (mY n)=true then{ n with ms:=nK n,rs:=hZ n.rs (zc n) } else{ n with ms:=nK n }
def eH(n:Nd)(m:Mem):Nd:=if mX n.ms m=true then{ n with ms:=aN n.ms m,rs:=hZ n.rs m } else{ n with ms:=aN n.ms m }
def jZ(n:Nd)(m:Mem):Int:=if aJ n.ms [m]=0 then(if mX n.ms m=true then iN n.rs m else 0) else aJ n.ms [m]
def lR(n:Nd)(m:Mem):Int:=if jZ n m=0 then(if m.name=n.name then Ay (eH n m) else 0) else jZ n m
def jc(n:Nd)(m:Mem):Nd:=if m.name=n.name then sw (eH n m) else eH n m
theorem Wr{ms:List Mem}{t:ByteArray}{p:Nat}(h:At ms t p true):eR ms t=ms.getD p dm:=ff (iy h)
theorem CZ{ms:List Mem}{t:ByteArray}{p:Nat}(h:At ms t p true){x:Mem}(hx:x.name=t):At (ms.set p x) t p true:=by
 obtain⟨h1,h2⟩:=h.is.1 rfl;have hg:∀j,(ms.set p x).getD j dm=if j=p then x else ms.getD j dm:=λj=>by
  by_cases e:j=p
  .subst e;simp[Ir,h1]
  .simp[Ir,List.getElem?_set_ne (Ne.symm e),e]
 refine⟨by rw[IS];exact h.le,λj hj=>?_,λj hj hl=>?_,⟨λ_=>⟨by rw[IS];exact h1,?_⟩,λ_=>rfl⟩⟩
 .rw[hg j,if_neg (by omega)];exact h.lo j hj
 .rw[hg j]
  split
  .rw[hx,(bL t t).2 rfl];omega
  .rw[IS] at hl;exact h.hi j hj hl
 .rw[hg p,if_pos rfl,hx];exact(bL t t).2 rfl
theorem lT(m:Mem):m.e=0↔bl m.name=true/\within m.state 1 4=true/\within m.aI 1 1000000=true/\within m.addr 0 4294967295=true:=by
 unfold Mem.e uY;constructor
 .intro h
  split at h
  .rename_i h1
   split at h
   .rename_i h2
    split at h
    .rename_i h3
     split at h
     .rename_i h4;exact⟨h1,h2,h3,h4⟩
     .cases h
    .cases h
   .cases h
  .cases h
 .rintro⟨h1,h2,h3,h4⟩
  rw[if_pos h1,if_pos h2,if_pos h3,if_pos h4]
theorem within_iff{n a b:Int}:within n a b=true↔a<=n/\n<=b:=by unfold within;rw[IG,decide_eq_true_eq,decide_eq_true_eq]
theorem Bf{m:Mem}(h:m.e=0)(hl:m.aI≠1000000):(cJ m).e=0:=by
 obtain⟨h1,h2,h3,h4⟩:=(lT m).1 h;rw[within_iff] at h3;exact(lT _).2 ⟨h1,rfl,within_iff.2 ⟨by show(1:Int)<=m.aI+1;omega,by show m.aI+1<=1000000;omega⟩,h4⟩
theorem rG{n:Nd}(h:bp n.ms=0)(hR:ia n.ms (jf n) (mY n)=true) :
 mY n=true/\At n.ms n.name (jf n) true/\nK n=n.ms.set (jf n) (cJ (n.ms.getD (jf n) dm))/\zc n=cJ (n.ms.getD (jf n) dm)/\(zc n).e=0/\(n.ms.getD (jf n) dm).name=n.name/\jf n<n.ms.length:=by
 have hr:=(aj h).2.1;have cA:At n.ms n.name (jf n) (mY n):=sI hr n.name;have hR2:=hR;unfold ia at hR;rw[IG,IG] at hR;obtain⟨⟨h1,_⟩,h3⟩:=hR;rw[h1] at cA;obtain⟨hp,hc⟩:=cA.is.1 rfl;have hn:=(bL _ _).1 hc;have hL:nK n=n.ms.set (jf n) (cJ (n.ms.getD (jf n) dm)):=by unfold nK rF;rw[if_pos hR2]
 have hM:zc n=cJ (n.ms.getD (jf n) dm):=by
  unfold zc;rw[hL,Wr (CZ cA (x:=cJ (n.ms.getD (jf n) dm)) hn)];simp[Ir,hp]
 have he:(n.ms.getD (jf n) dm).e=0:=jX h _ (by rw[show n.ms.getD (jf n) dm=n.ms[jf n] by simp[Ir,Ic hp]];exact IK _);exact⟨h1,cA,hL,hM,by rw[hM];exact Bf he (by simpa using h3),hn,hp⟩
end Go.Proofs.YtbfghimjdlpicaaGreatDoor
