import Derived.Test.YtfidhgjmifendaaGreatDoornt19
import Derived.Laws.EntriesVeiled
import Derived.Test.YtfidhgjmifendaaGreatDoornt14
set_option maxHeartbeats 12800000
set_option maxRecDepth 100000
open Go.Value renaming string→Y,agg→Ij,int→U,bool→Ia,pointer→Ie,slice→J,func→IQ,tuple→Ik,ownBlock→Jy
open Option renaming none→be,some→AI,isNone_none→OQ,isNone_some→OR
open Go.IntKind renaming i64→O
open Go.Ending renaming returned→By
open Go.Obj renaming cells→AT
open Go.Proofs.Tryz renaming prog→AS,underlying36→J4,underlying40→J6
open Go.World renaming block_lt_of_cell?→Ix,frozen?→Ir,cell?_alloc_past→Og,ownsRow_made→OS
open Go.RowKit.Below renaming refl→Ib,heap_alloc→IE,heap_setCell→IX
open Nat renaming le_refl→Ic,zero_le→II
open Go renaming heap_alloc_new→Ih,bodyPost_ret→IK,maxLen→Il,TypeId→I4,wpList_append_own→Jd
open Array renaming getElem?_eq_some_iff→BY
open List renaming getD→Ip,getElem?_eq_getElem→If,any_eq_true→Qj,getElem_mem→IH,length_nil→IW,getElem?_eq_some_iff→Jm
open Go.Lib renaming run_eql_slice_nil→Ju
open Go.RowKit renaming ownsRow_setCell_below→Ii
open Go.Joins renaming block_setCell→IB
namespace Go.Proofs.YtfidhgjmifendaaGreatDoor
open Go.RowKit
theorem D0(m:Mem)(nb:Nat)(nm:ByteArray)(w:World)(h:w.cell? ⟨nb,0,be⟩=AI (Y nm)) :
 Calls AS 114 #[Ij #[Y m.name,U O m.state,U O m.aI,U O m.addr,Ia m.server],Ie (AI ⟨nb,0,be⟩)] w λe w'=>e=By (Ia (decide (m.name=nm)))/\w'=w.alloc (AT #[Y m.name,U O m.state,U O m.aI,U O m.addr,Ia m.server] 50):=by
 have hb:=Ix w _ h;have h2:∀ob,(w.alloc ob).cell? ⟨nb,0,be⟩=AI (Y nm):=λob=>by
  rw[((Ib w.heap.size w).alloc (Ic _) ob).cell (p:=⟨nb,0,be⟩) hb];exact h
 obtain⟨mn,st,lf,ad,sv⟩:=m;go_enter Tryz.func114,Tryz.ntmps114;go_wp2_with fail;go_ret;exact⟨ba (jA _ _),rfl⟩
theorem Bc(ms:List Mem)(pa:Option Addr)(n c nb:Nat)(nm:ByteArray)(w:World)(hv:Sl w (J pa n c) ms)(yZ:n<=1000)(ht:w.cell? ⟨nb,0,be⟩=AI (Y nm)) :
 Calls AS 115 #[J pa n c,IQ (.func 114) #[] #[Ie (AI ⟨nb,0,be⟩)]] w λe w'=>
  ((e=By (U O (-1))/\Hid (cI ms nm=be))\/(∃i:Nat,i<n/\e=By (U O i)/\Hid (cI ms nm=AI (ms.getD i dm))))/\Below w.heap.size w w':=by
 obtain⟨pa',ca,he,_,ha⟩:=hv;simp only[Value.slice.injEq] at he;obtain⟨rfl,hN,rfl⟩:=he;have HA:Hid _:=ha;have HN:Hid _:=hN.symm;have HT:Hid _:=ht;have RN:=Ix w _ ht;clear ha hN ht;go_enter Tryz.func115,Tryz.ntmps115;go_wp2_with fail;go_loopw [8] (λi wr=>∃k:Nat,k<=n/\i=U O k/\Hid (∀j,j<k->(ms.getD j dm).name≠nm)/\Hid (Below w.heap.size w wr)) (λi _=>n-(intOf i).toNat)
 case atStart=>exact⟨0,II _,rfl,λj hj=>by omega,Ib _ _⟩
 case round=>
  obtain⟨k,hk,rfl,HZ,HB⟩:=hrel;by_cases aW:k<n
  .obtain⟨b,off,uP,Bd,hr⟩:∃b off,pa=AI ⟨b,off,be⟩/\b<w.heap.size/\Row w b off ms:=by
    rcases HA.out with h|h
    .have:=HN.out;rw[h] at this;simp at this;omega
    .exact h
   subst uP;obtain⟨c0,c1,c2,c3,c4⟩:=hr.later HB.out Bd k (by rw[HN.out];exact aW);clear hr;have Mm:wr.cell? ⟨nb,0,be⟩=AI (Y nm):=by rw[HB.out.cell (p:=⟨nb,0,be⟩) RN];exact HT.out
   have HY:Hid ((ms.getD k dm).name=nm->cI ms nm=AI (ms.getD k dm)):=λh=>ny (by rw[HN.out];exact aW) HZ.out h;have lB:Hid ((ms.getD k dm).name≠nm->∀j,j<k+1->(ms.getD j dm).name≠nm):=λh j hj=>by
    by_cases e:j=k
    .subst e;exact h
    .exact HZ.out j (by omega)
   have hF:=λw h=>D0 (ms.getD k dm) nb nm w h;by_cases hkp:(ms.getD k dm).name=nm
   .have HF:Hid _:=HY.out hkp
    rw[decide_eq_true hkp] at hF;clear hkp lB HY;generalize RO:ms.getD k dm=mk at *;have HMK:Hid _:=RO;clear RO;obtain⟨mn,st,lf,ad,sv⟩:=mk;simp only at c0 c1 c2 c3 c4 hF;go_wp2_with fail;refine(hF _ Mm).mono ?_;rintro e w1 ⟨rfl,rfl⟩;go_wp2_with fail;go_ret;exact⟨.inr ⟨k,aW,rfl,by rw[HMK.out];exact HF⟩,HB.out.alloc HB.out.size _⟩
   .have qg:Hid _:=lB.out hkp
    rw[decide_eq_false hkp] at hF;clear hkp lB HY HZ;generalize ms.getD k dm=mk at *;obtain⟨mn,st,lf,ad,sv⟩:=mk;simp only at c0 c1 c2 c3 c4 hF;go_wp2_with fail;refine(hF _ Mm).mono ?_;rintro e w1 ⟨rfl,rfl⟩;go_wp2_with fail;go_roundw
    case rel=>exact⟨k+1,by omega,by go_num,qg,HB.out.alloc HB.out.size _⟩
    case measure=>simp[intOf];omega
  .have qg:Hid _:=qC λj hj=>HZ.out j (by have:=HN.out;omega)
   clear HZ;go_wp2_with fail;go_ret;exact⟨.inl ⟨rfl,qg⟩,HB.out⟩
theorem fN{ms:List Mem}{t:ByteArray}{m:Mem}(h:cI ms t=AI m):eV ms t=m:=by unfold eV;rw[h];rfl
theorem sY{ms:List Mem}{t:ByteArray}(h:cI ms t=be):eV ms t=dm:=by unfold eV;rw[h];rfl
theorem iP(b:Nat)(pm:Option Addr)(nm cm:Nat)(ms:List Mem)(t:ByteArray)(w:World)(hc:w.cell? ⟨b,2,be⟩=AI (J pm nm cm))(hm:Sl w (J pm nm cm) ms)(hn:nm<=1000) :
 Calls AS 67 #[Ie (AI ⟨b,0,be⟩),Y t] w λe w'=>e=By (Ik #[Ij #[Y (eV ms t).name,U O (eV ms t).state,U O (eV ms t).aI,U O (eV ms t).addr,Ia (eV ms t).server],Ia (cI ms t).isSome])/\Below w.heap.size w w':=by
 have HM:Hid (Sl _ _ _):=hm;have hb:=Ix w _ hc;have HC:Hid _:=hc;clear hm;obtain⟨W,hW⟩:∃W,W=(w.alloc (AT #[Y t] 9)).alloc (AT #[Y ⟨#[]⟩,U O 0,U O 0,U O 0,Ia false] 50):=⟨_,rfl⟩;have rj:Below w.heap.size w W:=by rw[hW];exact((Ib _ _).alloc (Ic _) _).alloc (by simp) _
 have cK:W.heap[w.heap.size]?=AI (AT #[Y t] 9 (0,0)):=by
  rw[hW,IE _ _ _ (by simp)];exact Ih w _
 have dQ:W.heap[w.heap.size+1]?=AI (AT #[Y ⟨#[]⟩,U O 0,U O 0,U O 0,Ia false] 50 (0,0)):=by
  have h:=Ih (w.alloc (AT #[Y t] 9)) (AT #[Y ⟨#[]⟩,U O 0,U O 0,U O 0,Ia false] 50);rw[hW];simpa using h
 have Mn:W.heap.size=w.heap.size+2:=by rw[hW];simp
 go_enter Tryz.func67,Tryz.ntmps67;go_wp2_with fail;rw[<- hW];clear hW;refine(Bc ms pm nm cm _ t W (HM.out.below rj) hn (ae cK 0)).mono ?_;rintro e w1 ⟨LI,aB⟩;have h2:=(aB.block _ (by omega)).trans dQ;have HB:Hid _:=rj.trans (aB.mono (by omega));have HM1:Hid (Sl _ _ _):=HM.out.below HB.out;have d2:w1.cell? ⟨b,2,be⟩=AI (J pm nm cm):=by rw[HB.out.cell (p:=⟨b,2,be⟩) hb];exact HC.out
 have r0:=ae h2 0;have r1:=ae h2 1;have r2:=ae h2 2;have r3:=ae h2 3;have r4:=ae h2 4;have z0:w1.frozen? ⟨w.heap.size+1,0,be⟩=false:=by simp[Ir,h2]
 have z1:w1.frozen? ⟨w.heap.size+1,1,be⟩=false:=by simp[Ir,h2]
 have z2:w1.frozen? ⟨w.heap.size+1,2,be⟩=false:=by simp[Ir,h2]
 have z3:w1.frozen? ⟨w.heap.size+1,3,be⟩=false:=by simp[Ir,h2]
 have z4:w1.frozen? ⟨w.heap.size+1,4,be⟩=false:=by simp[Ir,h2]
 have nF:=(BY.1 h2).1;clear rj cK dQ aB h2 Mn hc;rcases LI with⟨rfl,HF⟩|⟨i,hi,rfl,HF⟩
 .have HO:Hid (eV ms t=dm/\(cI ms t).isSome=false):=⟨sY HF.out,by rw[HF.out];rfl⟩
  go_wp2_with fail;refine IK (v:=Ik #[Ij #[Y ⟨#[]⟩,U O 0,U O 0,U O 0,Ia false],Ia false]) ?_ rfl ⟨by rw[HO.out.1,HO.out.2];rfl,?_⟩
  .simp[results,Tryz.results67,go_sem,r0,r1,r2,r3,r4]
  exact((((HB.out.setCell (p:=⟨w.heap.size+1,0,be⟩) (by simp) _).setCell (p:=⟨w.heap.size+1,1,be⟩) (by simp) _).setCell (p:=⟨w.heap.size+1,2,be⟩) (by simp) _).setCell (p:=⟨w.heap.size+1,3,be⟩) (by simp) _).setCell (p:=⟨w.heap.size+1,4,be⟩) (by simp) _
 .have HO:Hid (eV ms t=ms.getD i dm/\(cI ms t).isSome=true):=⟨fN HF.out,by rw[HF.out];rfl⟩
  obtain⟨pa',ca,he,_,ha⟩:=HM1.out;simp only[Value.slice.injEq] at he;obtain⟨rfl,hN,rfl⟩:=he;obtain⟨b2,off,uP,Bd,hr⟩:∃b off,pm=AI ⟨b,off,be⟩/\b<w1.heap.size/\Row w1 b off ms:=by
   rcases ha with h|h
   .rw[h] at hN;simp at hN;omega
   .exact h
  subst uP;obtain⟨c0,c1,c2,c3,c4⟩:=hr i (by omega);clear hr hN ha HF;generalize ms.getD i dm=mk at *;obtain⟨mn,st,lf,ad,sv⟩:=mk;simp only at c0 c1 c2 c3 c4;go_wp2_with fail;refine IK (v:=Ik #[Ij #[Y mn,U O st,U O lf,U O ad,Ia sv],Ia true]) ?_ rfl ⟨by rw[HO.out.1,HO.out.2],?_⟩
  .simp[results,Tryz.results67,go_sem,r0,r1,r2,r3,r4]
  exact((((HB.out.setCell (p:=⟨w.heap.size+1,0,be⟩) (by simp) _).setCell (p:=⟨w.heap.size+1,1,be⟩) (by simp) _).setCell (p:=⟨w.heap.size+1,2,be⟩) (by simp) _).setCell (p:=⟨w.heap.size+1,3,be⟩) (by simp) _).setCell (p:=⟨w.heap.size+1,4,be⟩) (by simp) _
def dM(ms:List Mem)(r:bL):Bool:=match cI ms r.m.name with
 |none=>true
 |some k=>bP r.m k==0&&eB r.m k
theorem zk(b:Nat)(pm:Option Addr)(nm cm:Nat)(ms:List Mem)(r:bL)(w:World)(hc:w.cell? ⟨b,2,be⟩=AI (J pm nm cm))(hm:Sl w (J pm nm cm) ms)(hn:nm<=1000)(hr:r.m.name.size<=Il) :
 Calls AS 103 #[Ie (AI ⟨b,0,be⟩),Ij #[Y r.m.name,U O r.m.state,U O r.m.aI,U O r.m.addr,Ia r.m.server,U O r.told]] w λe w'=>e=By (Ia (dM ms r))/\Below w.heap.size w w':=by
 have hb:=Ix w _ hc;have HS:Hid (∀m,cI ms r.m.name=AI m->m.name.size<=Il):=λm h=>by
  obtain⟨a,c,he,hs,_⟩:=hm;exact dw hs m (iQ h).1
 have HD:Hid (dM ms r=match cI ms r.m.name with
  |none=>true
  |some k=>bP r.m k==0&&eB r.m k):=rfl
 generalize dM ms r=res at *;obtain⟨W,hW,rj,-,hg⟩:=bW w #[Y r.m.name,U O r.m.state,U O r.m.aI,U O r.m.addr,Ia r.m.server,U O r.told] 111;have HCW:Hid (Calls AS 67 #[Ie (AI ⟨b,0,be⟩),Y r.m.name] W λe w'=>e=By (Ik #[Ij #[Y (eV ms r.m.name).name,U O (eV ms r.m.name).state,U O (eV ms r.m.name).aI,U O (eV ms r.m.name).addr,Ia (eV ms r.m.name).server],Ia (cI ms r.m.name).isSome])/\Below W.heap.size W w'):=
  iP b pm nm cm ms r.m.name W (by rw[rj.cell (p:=⟨b,2,be⟩) hb];exact hc) (hm.below rj) hn
 have x0:=ae hg 0;have Mn:W.heap.size=w.heap.size+1:=by rw[hW];simp
 clear hc hm;go_enter Tryz.func103,Tryz.ntmps103;go_wp2_with fail;rw[<- hW];clear hW;refine HCW.out.mono ?_;rintro e w1 ⟨rfl,aB⟩;have cK:=(aB.block _ (by omega)).trans hg;have y0:=ae cK 0;have y1:=ae cK 1;have y2:=ae cK 2;have y3:=ae cK 3;have y4:=ae cK 4;have fg:=(BY.1 cK).1;have aV:Hid _:=rj.trans (aB.mono (by omega));clear aB cK hg rj HCW x0;rcases hf:cI ms r.m.name with _|k
 .have HR:Hid _:=HD.out.trans (by rw[hf])
  have Hb:=sY hf;rw[Hb];clear hf Hb;go_wp2_with fail;go_ret;exact⟨ba HR.out.symm,aV.out.alloc aV.out.size _⟩
 .have HR:Hid (res=(bP r.m k==0&&eB r.m k)):=HD.out.trans (by rw[hf])
  have hk:=HS.out k hf;have Hb:eV ms r.m.name=k:=fN hf;rw[Hb];clear hf Hb;have HN:Hid (∀W,Calls AS 162 #[Ij #[Y r.m.name,U O r.m.state,U O r.m.aI,U O r.m.addr,Ia r.m.server],Ij #[Y k.name,U O k.state,U O k.aI,U O k.addr,Ia k.server]] W λe w'=>e=By (Ik #[Ia (bP r.m k==0&&eB r.m k),U O (bP r.m k)])/\Below W.heap.size W w'):=λW=>om r.m k W hr hk;generalize(bP r.m k==0&&eB r.m k)=q at *;go_wp2_with fail;refine(HN.out _).mono ?_;rintro e w2 ⟨rfl,aJ⟩;have bp:Hid (Below w.heap.size w w2):=(aV.out.alloc aV.out.size _).trans (aJ.mono (by have:=aV.out.size;simp;omega));clear aJ;go_wp2_with fail;go_ret;exact⟨ba HR.out.symm,bp.out⟩
theorem Be(b:Nat)(pm:Option Addr)(nm cm:Nat)(ms:List Mem)(rs:List bL)(v:Value)(w:World)(hv:mJ w v rs)(hc:w.cell? ⟨b,2,be⟩=AI (J pm nm cm))(hm:Sl w (J pm nm cm) ms)(hn:nm<=1000)(yZ:rs.length<=1000) :
 Calls AS 131 #[v,IQ (.func 103) #[Ie (AI ⟨b,0,be⟩)] #[]] w λe w'=>
  ((e=By (U O (-1))/\Hid (rs.any (dM ms)=false))\/(∃i:Nat,i<rs.length/\e=By (U O i)/\Hid (rs.any (dM ms)=true)))/\Below w.heap.size w w':=by
 obtain⟨pa,ca,rfl,hs,ha⟩:=hv;have hb:=Ix w _ hc;have HA:Hid _:=ha;have HS:Hid _:=hs;have HI:Hid (∀W,Below w.heap.size w W->∀r:bL,r.m.name.size<=Il->Calls AS 103 #[Ie (AI ⟨b,0,be⟩),Ij #[Y r.m.name,U O r.m.state,U O r.m.aI,U O r.m.addr,Ia r.m.server,U O r.told]] W λe w'=>e=By (Ia (dM ms r))/\Below W.heap.size W w'):=λW hW r hr=>
  zk b pm nm cm ms r W (by rw[hW.cell (p:=⟨b,2,be⟩) hb];exact hc) (hm.below hW) hn hr
 clear ha hs hc hm;generalize hN:rs.length=n at *;have HN:Hid _:=hN;clear hN;go_enter Tryz.func131,Tryz.ntmps131;go_wp2_with fail;go_loopw [8] (λi wr=>∃k:Nat,k<=n/\i=U O k/\Hid (∀j,j<k->dM ms (rs.getD j dr)=false)/\Hid (Below w.heap.size w wr)) (λi _=>n-(intOf i).toNat)
 case atStart=>exact⟨0,II _,rfl,λj hj=>by omega,Ib _ _⟩
 case round=>
  obtain⟨k,hk,rfl,HZ,HB⟩:=hrel;by_cases aW:k<n
  .obtain⟨b2,off,uP,Bd,hr⟩:∃b off,pa=AI ⟨b,off,be⟩/\b<w.heap.size/\mK w b off rs:=by
    rcases HA.out with h|h
    .have:=HN.out;rw[h] at this;simp at this;omega
    .exact h
   subst uP;obtain⟨c0,c1,c2,c3,c4,c5⟩:=hr.below HB.out Bd k (by rw[HN.out];exact aW);clear hr;have cV:=HS.out k;have HY:Hid (dM ms (rs.getD k dr)=true->rs.any (dM ms)=true):=λh=>by
    rw[show rs.getD k dr=rs[k]'(by rw[HN.out];exact aW) by simp[Ip,If (show k<rs.length by rw[HN.out];exact aW)]] at h;exact Qj.2 ⟨_,IH _,h⟩
   have lB:Hid (dM ms (rs.getD k dr)=false->∀j,j<k+1->dM ms (rs.getD j dr)=false):=λh j hj=>by
    by_cases e:j=k
    .subst e;exact h
    .exact HZ.out j (by omega)
   have HF:Hid (∀W,Below w.heap.size w W->Calls _ _ _ _ _):=λW hW=>HI.out W hW _ cV;generalize hah:dM ms (rs.getD k dr)=ah at *;clear hah;generalize rs.getD k dr=rk at *;obtain⟨⟨mn,st,lf,ad,sv⟩,td⟩:=rk;simp only at c0 c1 c2 c3 c4 c5 HF;clear HZ;have cF:=HB.out.size;cases ah
   .have qg:Hid _:=lB.out rfl
    clear HY lB;go_wp2_with fail;refine(HF.out _ HB.out).mono ?_;rintro e w1 ⟨rfl,aB⟩;have aV:Hid _:=HB.out.trans (aB.mono cF);clear aB;go_wp2_with fail;go_roundw
    case rel=>exact⟨k+1,by omega,by go_num,qg,aV⟩
    case measure=>simp[intOf];omega
   .have HR:Hid _:=HY.out rfl
    clear HY lB;go_wp2_with fail;refine(HF.out _ HB.out).mono ?_;rintro e w1 ⟨rfl,aB⟩;have aV:Hid _:=HB.out.trans (aB.mono cF);clear aB;go_wp2_with fail;go_ret;exact⟨.inr ⟨k,aW,rfl,HR⟩,aV.out⟩
  .have qg:Hid (rs.any (dM ms)=false):=by
    rcases h:rs.any (dM ms) with _|_
    .rfl
    .obtain⟨r,hr,h2⟩:=Qj.1 h
     obtain⟨j,hj,rfl⟩:=List.getElem_of_mem hr;have h3:=HZ.out j (by have:=HN.out;omega);rw[show rs.getD j dr=rs[j] by simp[Ip,If hj],h2] at h3;cases h3
   clear HZ;go_wp2_with fail;go_ret;exact⟨.inl ⟨rfl,qg⟩,HB.out⟩
theorem xa(b:Nat)(pm:Option Addr)(nm cm:Nat)(ms:List Mem)(rs:List bL)(v:Value)(w:World)(hv:mJ w v rs)(hc:w.cell? ⟨b,2,be⟩=AI (J pm nm cm))(hm:Sl w (J pm nm cm) ms)(hn:nm<=1000)(yZ:rs.length<=1000) :
 Calls AS 102 #[v,IQ (.func 103) #[Ie (AI ⟨b,0,be⟩)] #[]] w λe w'=>e=By (Ia (rs.any (dM ms)))/\Below w.heap.size w w':=by
 have HI:Hid (Calls AS 131 #[v,IQ (.func 103) #[Ie (AI ⟨b,0,be⟩)] #[]] w λe w'=>
  ((e=By (U O (-1))/\Hid (rs.any (dM ms)=false))\/(∃i:Nat,i<rs.length/\e=By (U O i)/\Hid (rs.any (dM ms)=true)))/\Below w.heap.size w w'):=Be b pm nm cm ms rs v w hv hc hm hn yZ
 clear hv hc hm;generalize rs.any (dM ms)=q at *;go_enter Tryz.func102,Tryz.ntmps102;go_wp2_with fail;refine HI.out.mono ?_;rintro e w1 ⟨LI,aB⟩;have HB:Hid _:=aB;clear aB;rcases LI with⟨rfl,HF⟩|⟨i,hi,rfl,HF⟩
 .go_wp2_with fail
  go_ret;exact⟨ba HF.out.symm,HB.out⟩
 .go_wp2_with fail
  go_ret;exact⟨ba HF.out.symm,HB.out⟩
end Go.Proofs.YtfidhgjmifendaaGreatDoor
namespace Go.Proofs.YtfidhgjmifendaaGreatDoor
namespace Gw
open Go.RowKit
def et(ms:List bK)(p:Nat)(f:Bool):bK:=if f=true then ms.getD p dm else dm
theorem nx(ms:List bK)(v:Value)(name:ByteArray)(w:World)(h:Sl w v ms)(hn:ms.length<=6)(hr:bn ms) :
 aF 241 #[v,Y name] w λe w'=>∃(p:Nat) (f:Bool),e=By (Ik #[Ij #[Y (et ms p f).aD,U O (et ms p f).addr,U O (et ms p f).version],Ia f])/\Below w.heap.size w w'/\At ms ⟨name,0,0⟩ p f:=by
 obtain⟨W0,bJ,bM,eE,dG⟩:=bW w #[Y ⟨#[]⟩,U O 0,U O 0] 77;have HV:Hid (Sl W0 v ms):=h.below bM;have HF:Hid (aF 215 #[v,Ij #[Y name,U O 0,U O 0],IQ (.func 160) #[] #[]] W0 λe w'=>∃(p:Nat) (f:Bool),e=By (Ik #[U O p,Ia f])/\Below W0.heap.size W0 w'/\At ms ⟨name,0,0⟩ p f):=
  ff ms v ⟨name,0,0⟩ W0 HV.out (by omega) hr
 have sJ:Hid _:=bJ;clear bJ h hr;go_enter Tryz.func241,Tryz.ntmps241;go_wp2_with fail;rw[<- sJ.out];refine HF.out.mono ?_;rintro e w1 ⟨p,f,rfl,aB,cv⟩;have fS:Hid _:=cv;have VE:Hid (Sl w1 v ms):=HV.out.below aB;have fg:=aB.size;have aV:Hid _:=bM.trans (aB.mono (by omega));have cK:=(aB.block w.heap.size (by omega)).trans dG;have t0:w1.cell? ⟨w.heap.size,0,be⟩=AI (Y ⟨#[]⟩):=ae cK 0;have t1:w1.cell? ⟨w.heap.size,1,be⟩=AI (U O 0):=ae cK 1;have t2:w1.cell? ⟨w.heap.size,2,be⟩=AI (U O 0):=ae cK 2;have rf:∀o,w1.frozen? ⟨w.heap.size,o,be⟩=false:=λo=>by simp[Ir,cK]
 have aW:w.heap.size<w1.heap.size:=by omega
 clear cv HF HV dG cK bM aB sJ eE fg;cases f
 .go_wp2_with fail
  exact IK (v:=Ik #[Ij #[Y ⟨#[]⟩,U O 0,U O 0],Ia false]) (by simp[results,Tryz.results241,go_sem,t0,t1,t2]) rfl ⟨p,false,rfl,(((aV.out.setCell (p:=⟨w.heap.size,0,be⟩) (Ic _) _).setCell (p:=⟨w.heap.size,1,be⟩) (Ic _) _).setCell (p:=⟨w.heap.size,2,be⟩) (Ic _) _),fS.out⟩
 .have hp:=(fS.out.is.1 rfl).1
  obtain⟨a,cap,rfl,_,VF⟩:=VE.out;obtain⟨b,off,DX,AW,cQ⟩:∃b off,a=AI ⟨b,off,be⟩/\b<w1.heap.size/\Row w1 b off ms:=by
   rcases VF with h|h
   .rw[h] at hp;simp at hp
   .exact h
  subst DX;obtain⟨c0,c1,c2⟩:=cQ p hp;clear cQ VF VE;generalize hm:ms.getD p dm=m at *;have HM:Hid (et ms p true=m):=by show et ms p true=m;rw[et,if_pos rfl,hm]
  clear hm;go_wp2_with fail;exact IK (v:=Ik #[Ij #[Y m.aD,U O m.addr,U O m.version],Ia true]) (by simp[results,Tryz.results241,go_sem,t0,t1,t2]) rfl ⟨p,true,by rw[HM.out],(((aV.out.setCell (p:=⟨w.heap.size,0,be⟩) (Ic _) _).setCell (p:=⟨w.heap.size,1,be⟩) (Ic _) _).setCell (p:=⟨w.heap.size,2,be⟩) (Ic _) _),fS.out⟩
end Gw
namespace Gw
open Go.RowKit
theorem aU{m:bK}(h:m.e=0):bb m.aD=true/\0<=m.addr/\m.addr<=4294967295/\1<=m.version/\m.version<=1000000:=by
 unfold bK.e at h;split at h
 .rename_i h1
  split at h
  .rename_i h2
   split at h
   .rename_i h3
    simp[within] at h2 h3;exact⟨h1,h2.1,h2.2,h3.1,h3.2⟩
   .omega
  .omega
 .omega
theorem Mo{ms:List bK}(h:aR ms=0)(p:Nat)(hp:p<ms.length):(ms.getD p dm).e=0:=by
 have:=bc ms h ms[p] (IH hp);simpa[Ip,If hp] using this
theorem pB{ms:List bK}{t:bK}(h:aR ms=0){p:Nat}{f:Bool}(cv:At ms t p f):0<=(et ms p f).version/\(et ms p f).version<=1000000:=by
 cases f
 .exact⟨by show(0:Int)<=0;omega,by show(0:Int)<=1000000;omega⟩
 .have:=(aU (Mo h p (cv.is.1 rfl).1)).2.2.2
  rw[et,if_pos rfl];omega
def Gg(ms:List bK)(p:Nat)(f:Bool)(name:ByteArray)(addr:Int):bK:=⟨name,addr,(et ms p f).version+1⟩
theorem D1(ms:List bK)(v:Value)(name:ByteArray)(addr:Int)(w:World)(hv:Sl w v ms)(h0:bj ms=0)(hs:name.size<=Il)(p:Nat)(f:Bool)(cv:At ms ⟨name,0,0⟩ p f) :
 aF 204 #[v,Y name,U O addr] w λe w'=>∃v',e=By (Ik #[v',U O (aE ms [Gg ms p f name addr])])/\Below w.heap.size w w' /\
  (aE ms [Gg ms p f name addr]≠0->v'=J be 0 0)/\(aE ms [Gg ms p f name addr]=0->Own w.heap.size w' v' (av ms [Gg ms p f name addr])):=by
 have he:(bj ms !=0)=false:=by simpa using h0
 have hz:=af h0;have HV:Hid (Sl w v ms):=hv;have HR:Hid (bn ms):=hz.2.1;have hlen:=hz.1;have HF:Hid _:=hz.2.2;have fS:Hid _:=cv;obtain⟨pa,ca,rfl,_,_⟩:=hv;have HG:Hid (Gg ms p f name addr=⟨name,addr,(et ms p f).version+1⟩):=rfl;generalize Gg ms p f name addr=g at *;clear h0 hz cv;go_enter Tryz.func204,Tryz.ntmps204;go_wp2_with (go_at_call 100;refine(bo ms _ _ HV.out).mono ?_;rintro e w1 ⟨rfl,aB⟩);refine(nx ms _ name _ (HV.out.below aB) hlen HR.out).mono ?_;rintro e w2 ⟨p',f',rfl,aJ,qD⟩;obtain⟨rfl,rfl⟩:=ey fS.out qD;have pC:=pB HF.out qD;have bp:Hid _:=aB.trans (aJ.mono aB.size);have gY:=bp.out.size;have HV2:Hid (Sl _ _ _):=(HV.out.below aB).below aJ;clear qD aB aJ HV;generalize et ms p f=kn at *;obtain⟨kc,ka,kv⟩:=kn;simp only at pC;obtain⟨Aw,Av⟩:=pC;go_wp2_with fail;refine(jR ms [g] (J pa ms.length ca) (J (AI ⟨w2.heap.size+1+1,0,be⟩) 1 1) _ _ _ ?ha ?hb ?hpb ?hc0 ?hc1).mono ?_
 case ha=>exact HV2.out.below ((((((Ib _ _).alloc (Ic _) _).alloc (by simp) _).alloc (by simp;omega) _).alloc (by simp;omega) _))
 case hb=>
  rw[HG.out];refine oj _ _ _ ⟨name,addr,kv+1⟩ hs ?_;refine(IE _ _ _ (by simp)).trans ?_;have h:=Ih ((w2.alloc (AT #[Y kc,U O ka,U O kv] 77)).alloc (AT #[Y name,U O addr,U O (kv+1)] 77)) (AT #[Y name,U O addr,U O (kv+1)] 77);simpa using h
 case hpb=>simp
 case hc0=>exact(dA (by simp)).trans rfl
 case hc1=>exact(dA (by simp)).trans rfl
 rintro e w3 ⟨v',rfl,bV,pD,mN⟩;have Bf:Hid _:=pD;have cj:Hid _:=((((bp.out.alloc gY _).alloc (by simp;omega) _).alloc (by simp;omega) _).alloc (by simp;omega) _).trans (bV.mono (by simp;omega));have sZ:Hid (aE ms [g]=0->Own w.heap.size w3 v' (av ms [g])):=λh=>(mN h).mono (by simp;omega);clear pD mN bV;go_wp2_with fail;go_ret2;exact⟨v',rfl,cj.out,Bf.out,sZ.out⟩
end Gw
end Go.Proofs.YtfidhgjmifendaaGreatDoor
namespace Go.Proofs.YtfidhgjmifendaaGreatDoor
open Go.RowKit
abbrev dt(n:Nd)(vm vr vs vg vw:Value):Array Value:=#[Y n.name,Y n.aD,vm,vr,vs,vg,U O n.p.x,U O n.p.y,U O n.p.z,U O n.p.h,U O n.p.s,vw]
structure eS(w:World)(n:Nd)(vm vr vs vg vw:Value):Prop where
 ms:Sl w vm n.ms
 rs:mJ w vr n.rs
 sv:Sv.Sl w vs n.sv
 gw:Gw.Sl w vg n.gw
 wh:Wh.Sl w vw n.wh
 name:n.name.size<=Il
 aD:n.aD.size<=Il
theorem eS.below{w w':World}{n:Nd}{vm vr vs vg vw:Value}(h:eS w n vm vr vs vg vw)(hb:Below w.heap.size w w'):eS w' n vm vr vs vg vw:=⟨h.ms.below hb,h.rs.below hb,h.sv.below hb,h.gw.below hb,h.wh.below hb,h.name,h.aD⟩
theorem s9(w:World):Sl w (J be 0 0) []:=⟨be,0,rfl,cB (λm hm=>by simp at hm),.inl rfl⟩
theorem Sv.s9(w:World):Sv.Sl w (J be 0 0) []:=⟨be,0,rfl,Sv.cB (λm hm=>by simp at hm),.inl rfl⟩
theorem Gw.s9(w:World):Gw.Sl w (J be 0 0) []:=⟨be,0,rfl,Gw.cB (λm hm=>by simp at hm),.inl rfl⟩
theorem Hc{nm:ByteArray}{wh:List Wh.bE}(h:bb nm=true):Pk.e ⟨nm,true,[],[],[],wh⟩=Wh.bj wh:=by
 unfold Pk.e;rw[if_pos (by simp[h])];rfl
theorem D2:Roomy (J be 0 0):=by unfold Roomy;exact Ic _
theorem xb(nm:ByteArray)(wh:List Wh.bE)(vw:Value)(W:World)(L3:Wh.Sl W vw wh)(cV:nm.size<=Il)(hl:bb nm=true) :
 kx 62 #[Ij #[Y nm,Ia true,J be 0 0,J be 0 0,J be 0 0,vw]] W (U O (Wh.bj wh)):=by
 have hp:jY W ⟨nm,true,[],[],[],wh⟩ (J be 0 0) (J be 0 0) (J be 0 0) vw:=⟨s9 W,Sv.s9 W,Gw.s9 W,L3,cV,D2⟩;rw[<- Hc hl];exact lD ⟨nm,true,[],[],[],wh⟩ (J be 0 0) (J be 0 0) (J be 0 0) vw W hp (.inl rfl)
theorem vJ{W:World}{cs:Array Value}{t:I4}{g k:Nat}(hg:g=W.heap.size):((W.alloc (AT cs t)).drew).cell? ⟨g,k,be⟩=cs[k]?:=by subst hg;exact ae (Ih W _) k
theorem zl(a b:ByteArray)(ha:a.size<=Il)(hb:b.size<=Il)(g c:Nat)(W:World)(h0:W.cell? ⟨g,0,be⟩=AI (Y a))(h1:W.cell? ⟨g,1,be⟩=AI (Y b)) :
 aF 34 #[J (AI ⟨g,0,be⟩) 2 c] W λe w'=>e=By (Ia (bb a&&bb b))/\w'=W:=by
 have h:=ou [a,b] g c W (λj hj=>by
  have:j=0\/j=1:=by simp at hj;omega
  rcases this with rfl|rfl
  .exact h0
  .exact h1) (λj=>by
  match j with
  |0=>exact ha
  |1=>exact hb
  |_+2=>simp[Ip]) (by simp)
 rw[show[a,b].all bb=(bb a&&bb b) by simp] at h;exact h
theorem tf(n:Nd)(b:Nat)(vm vr vs vg vw:Value)(w:World)(h:eS w n vm vr vs vg vw)(hg:w.heap[b]?=AI (AT (dt n vm vr vs vg vw) 90 (0,0))) :
 kx 55 #[Ie (AI ⟨b,0,be⟩)] w (U O n.pE):=by
 obtain⟨nm,ct,ms,rs,sv,gw,⟨px,py,pz,ph,pq⟩,wh⟩:=n;obtain⟨hJ,oN,Ly,wM,L3,cV,Hd⟩:=h;simp only at hJ oN Ly wM L3 cV Hd hg;have hb:=(BY.1 hg).1;have HM:Hid (∀W,Below w.heap.size w W->aF _ _ _ _):=λW hW=>bo ms vm W (hJ.below hW);have jb:Hid (∀W,Below w.heap.size w W->aF _ _ _ _):=λW hW=>fW rs vr W (oN.below hW);have HS:Hid (∀W,Below w.heap.size w W->aF _ _ _ _):=λW hW=>Sv.bo sv vs W (Ly.below hW);have HG:Hid (∀W,Below w.heap.size w W->aF _ _ _ _):=λW hW=>Gw.bo gw vg W (wM.below hW);have HP:Hid (∀W,Below w.heap.size w W->aF _ _ _ _):=λW _=>lJ ⟨px,py,pz,ph,pq⟩ W;have HX:Hid (∀W,Below w.heap.size w W->W.cell? ⟨b,0,be⟩=AI (Y nm)/\W.cell? ⟨b,1,be⟩=AI (Y ct)/\W.cell? ⟨b,2,be⟩=AI vm/\W.cell? ⟨b,3,be⟩=AI vr/\W.cell? ⟨b,4,be⟩=AI vs/\W.cell? ⟨b,5,be⟩=AI vg/\W.cell? ⟨b,6,be⟩=AI (U O px)/\W.cell? ⟨b,7,be⟩=AI (U O py)/\W.cell? ⟨b,8,be⟩=AI (U O pz)/\W.cell? ⟨b,9,be⟩=AI (U O ph)/\W.cell? ⟨b,10,be⟩=AI (U O pq)/\W.cell? ⟨b,11,be⟩=AI vw):=λW hW=>
  have uQ:=(hW.block _ hb).trans hg
  ⟨ae uQ 0,ae uQ 1,ae uQ 2,ae uQ 3,ae uQ 4,ae uQ 5,ae uQ 6,ae uQ 7,ae uQ 8,ae uQ 9,ae uQ 10,ae uQ 11⟩
 have HE:Nd.pE ⟨nm,ct,ms,rs,sv,gw,⟨px,py,pz,ph,pq⟩,wh⟩=if(bb nm&&bb ct)=true then
  (if bj ms=0 then(if dW rs=0 then(if Sv.bj sv=0 then(if Gw.bj gw=0 then(if dZ ⟨px,py,pz,ph,pq⟩=0 then Wh.bj wh else dZ ⟨px,py,pz,ph,pq⟩) else Gw.bj gw) else Sv.bj sv) else dW rs) else bj ms) else 1:=by unfold Nd.pE;with_reducible rfl
 have HL:Hid (∀(W:World) (g:Nat),W.cell? ⟨g,0,be⟩=AI (Y nm)->W.cell? ⟨g,1,be⟩=AI (Y ct)->aF _ _ _ _):=λW g h0 h1=>zl nm ct cV Hd g 2 W h0 h1;have HW:Hid (bb nm=true->∀W,Below w.heap.size w W->kx 62 #[Ij #[Y nm,Ia true,J be 0 0,J be 0 0,J be 0 0,vw]] W (U O (Wh.bj wh))):=λhl W hW=>xb nm wh vw W (L3.below hW) cV hl;have o8:Hid ((bb nm&&bb ct)=true->bb nm=true):=λh=>by rw[Bool.and_eq_true] at h;exact h.1
 generalize(bb nm&&bb ct)=lb at *;generalize Nd.pE ⟨nm,ct,ms,rs,sv,gw,⟨px,py,pz,ph,pq⟩,wh⟩=res at *;generalize bj ms=m1 at *;generalize dW rs=r1 at *;generalize Sv.bj sv=s1 at *;generalize Gw.bj gw=g1 at *;generalize dZ ⟨px,py,pz,ph,pq⟩=p1 at *;generalize Wh.bj wh=wz at *;obtain⟨a5,c5,rfl,_,_⟩:=L3;generalize wh.length=n5 at *;clear hJ oN Ly wM;obtain⟨y0,y1,y2,y3,y4,y5,y6,y7,y8,y9,y10,y11⟩:=HX.out w (Ib _ _);clear hg;go_enter Tryz.func55,Tryz.ntmps55;go_wp2_with fail;go_region_held3 (λw'=>w'.cell? ⟨b,0,be⟩=AI (Y nm)/\w'.cell? ⟨b,1,be⟩=AI (Y ct)) (go_keep) (first|(go_at_call 34;refine(HL.out _ _ (vJ rfl) (vJ rfl)).mono ?_;rintro e w' ⟨rfl,rfl⟩))
 obtain⟨W0,bJ⟩:∃W0,W0=(w.alloc (AT #[Y nm,Y ct] 9)).drew:=⟨_,rfl⟩;have da:Hid (Below w.heap.size w W0):=by rw[bJ];exact((Ib _ _).alloc (Ic _) _).drew
 rw[<- bJ];clear bJ HL y0 y1 y2 y3 y4 y5 y6 y7 y8 y9 y10 y11;obtain⟨y0,y1,y2,y3,y4,y5,y6,y7,y8,y9,y10,y11⟩:=HX.out W0 da.out;cases lb
 .rw[if_neg (by simp)] at HE
  have HR:Hid _:=HE;clear HE;go_wp2_with fail;go_ret;exact⟨ai HR.out.symm,da.out⟩
 rw[if_pos rfl] at HE;have HW:Hid (∀W,Below w.heap.size w W->aF _ _ _ _):=HW.out (o8.out rfl);go_wp2_with fail;refine(HM.out _ da.out).mono ?_;rintro e w1 ⟨rfl,aB⟩;have aV:Hid _:=da.out.trans (aB.mono da.out.size);clear aB y0 y1 y2 y3 y4 y5 y6 y7 y8 y9 y10 y11;obtain⟨y0,y1,y2,y3,y4,y5,y6,y7,y8,y9,y10,y11⟩:=HX.out w1 aV.out;by_cases pF:m1=0
 .rw[if_pos pF] at HE
  subst pF;go_wp2_with fail;refine(jb.out _ aV.out).mono ?_;rintro e w2 ⟨rfl,aJ⟩;have bp:Hid _:=aV.out.trans (aJ.mono aV.out.size);clear aJ y0 y1 y2 y3 y4 y5 y6 y7 y8 y9 y10 y11;obtain⟨y0,y1,y2,y3,y4,y5,y6,y7,y8,y9,y10,y11⟩:=HX.out w2 bp.out;by_cases mj:r1=0
  .rw[if_pos mj] at HE
   subst mj;go_wp2_with fail;refine(HS.out _ bp.out).mono ?_;rintro e w3 ⟨rfl,bV⟩;have cj:Hid _:=bp.out.trans (bV.mono bp.out.size);clear bV y0 y1 y2 y3 y4 y5 y6 y7 y8 y9 y10 y11;obtain⟨y0,y1,y2,y3,y4,y5,y6,y7,y8,y9,y10,y11⟩:=HX.out w3 cj.out;by_cases fg:s1=0
   .rw[if_pos fg] at HE
    subst fg;go_wp2_with fail;refine(HG.out _ cj.out).mono ?_;rintro e w4 ⟨rfl,eO⟩;have eP:Hid _:=cj.out.trans (eO.mono cj.out.size);clear eO y0 y1 y2 y3 y4 y5 y6 y7 y8 y9 y10 y11;obtain⟨y0,y1,y2,y3,y4,y5,y6,y7,y8,y9,y10,y11⟩:=HX.out w4 eP.out;by_cases cK:g1=0
    .rw[if_pos cK] at HE
     subst cK;go_wp2_with fail;refine(HP.out _ eP.out).mono ?_;rintro e w5 ⟨rfl,jB⟩;have gE:Hid _:=eP.out.trans (jB.mono eP.out.size);clear jB y0 y1 y2 y3 y4 y5 y6 y7 y8 y9 y10 y11;obtain⟨y0,y1,y2,y3,y4,y5,y6,y7,y8,y9,y10,y11⟩:=HX.out w5 gE.out;by_cases uP:p1=0
     .rw[if_pos uP] at HE
      subst uP;go_wp2_with fail;go_region_held3 (λw'=>w'.cell? ⟨b,0,be⟩=AI (Y nm)/\w'.cell? ⟨b,11,be⟩=AI (J a5 n5 c5)) (first|assumption|go_keep) (first|(go_at_call 62;refine(HW.out _ gE.out.drew).mono ?_;rintro e w9 ⟨rfl,zn⟩;have VG:Hid (Below w.heap.size w w9):=gE.out.drew.trans (zn.mono gE.out.size);have hS:w9.cell? ⟨b,0,be⟩=AI (Y nm)/\w9.cell? ⟨b,11,be⟩=AI (J a5 n5 c5):=⟨(HX.out w9 VG.out).1,(HX.out w9 VG.out).2.2.2.2.2.2.2.2.2.2.2⟩))
      go_wp2_with fail;go_ret;exact⟨ai HE.symm,VG.out⟩
     .have ajo:(p1 !=0)=true:=by simpa using uP
      rw[if_neg uP] at HE;have HR:Hid _:=HE;clear uP HE;go_wp2_with fail;go_ret;exact⟨ai HR.out.symm,gE.out⟩
    .have ajp:(g1 !=0)=true:=by simpa using cK
     rw[if_neg cK] at HE;have HR:Hid _:=HE;clear cK HE;go_wp2_with fail;go_ret;exact⟨ai HR.out.symm,eP.out⟩
   .have uR:(s1 !=0)=true:=by simpa using fg
    rw[if_neg fg] at HE;have HR:Hid _:=HE;clear fg HE;go_wp2_with fail;go_ret;exact⟨ai HR.out.symm,cj.out⟩
  .have ajq:(r1 !=0)=true:=by simpa using mj
   rw[if_neg mj] at HE;have HR:Hid _:=HE;clear mj HE;go_wp2_with fail;go_ret;exact⟨ai HR.out.symm,bp.out⟩
 .have ajr:(m1 !=0)=true:=by simpa using pF
  rw[if_neg pF] at HE;have HR:Hid _:=HE;clear pF HE;go_wp2_with fail;go_ret;exact⟨ai HR.out.symm,aV.out⟩
theorem RP{a b:Mem}(ha:a.e=0)(hb:b.e=0)(hn:a.name=b.name):bP a b=0:=by
 unfold bP;have h:aO [a] [b]=0:=by
  unfold aO;rw[jL,jL,if_pos ha,hb]
 rw[if_pos h,if_pos hn]
theorem lK{ms:List Mem}(h:bj ms=0):∀m∈ms,m.e=0:=by
 obtain⟨_,_,h3⟩:=af h;exact bc ms h3
theorem lL{rs:List bL}(h:dW rs=0):rs.length<=20/\(∀r∈rs,r.m.e=0)/\gQ rs/\dJ rs:=by
 unfold dW at h;split at h
 .cases h
 .rename_i hn
  split at h
  .rename_i h1
   split at h
   .rename_i h2
    split at h
    .rename_i h3
     refine⟨by omega,λr hr=>?_,h2,h3⟩;exact bc _ h1 r.m (List.mem_map.2 ⟨r,hr,rfl⟩)
    .cases h
   .cases h
  .rename_i h1;exact absurd h h1
theorem D3{ms:List Mem}{r:bL}(h:bj ms=0)(hr:r.m.e=0):dM ms r=fk ms r:=by
 unfold dM fk;rcases hf:cI ms r.m.name with _|k
 .rfl
 .have hk:=iQ hf
  simp only;rw[RP hr (lK h k hk.1) hk.2.symm];simp
theorem D4{ms:List Mem}{rs:List bL}(h:bj ms=0)(hr:dW rs=0):rs.any (dM ms)=rs.any (fk ms):=by
 have h2:=(lL hr).2.1;clear hr;induction rs with
 |nil=>rfl
 |cons r l ih=>
  rw[List.any_cons,List.any_cons,D3 h (h2 r (by simp)),ih (λx hx=>h2 x (by simp[hx]))]
theorem tg(n:Nd)(b:Nat)(vm vr vs vg vw:Value)(w:World)(h:eS w n vm vr vs vg vw)(hg:w.heap[b]?=AI (AT (dt n vm vr vs vg vw) 90 (0,0)))(hp:n.pE=0) :
 kx 56 #[Ie (AI ⟨b,0,be⟩)] w (U O n.wE):=by
 have yp:Hid n.nP:=Nd.parts hp;have hb:b<w.heap.size:=(BY.1 hg).1;have Pf:n.ms.length<=20:=(af yp.out.ms).1;have hrl:n.rs.length<=20:=(lL yp.out.rs).1;have rJ:Hid (n.wE=match cI n.ms n.name with
  |none=>5
  |some m=>if m.state=2\/m.state=3 then 4 else if n.rs.any (dM n.ms)=true then 4 else 0):=by
  show n.wE=_;rw[D4 yp.out.ms yp.out.rs];rfl
 obtain⟨nm,ct,ms,rs,sv,gw,⟨px,py,pz,ph,pq⟩,wh⟩:=n;obtain⟨hJ,oN,_,_,_,_,_⟩:=h;simp only at hJ oN hg Pf hrl rJ;generalize Nd.wE ⟨nm,ct,ms,rs,sv,gw,⟨px,py,pz,ph,pq⟩,wh⟩=res at *;obtain⟨am,cm,rfl,He,Hf⟩:=hJ;have hJ:Sl w (J am ms.length cm) ms:=⟨am,cm,rfl,He,Hf⟩;clear He Hf;have HX:Hid (∀W,Below w.heap.size w W->W.cell? ⟨b,0,be⟩=AI (Y nm)/\W.cell? ⟨b,2,be⟩=AI (J am ms.length cm)/\W.cell? ⟨b,3,be⟩=AI vr):=λW hW=>
  have uQ:=(hW.block _ hb).trans hg
  ⟨ae uQ 0,ae uQ 2,ae uQ 3⟩
 have D5:Hid (∀(W:World) (t:ByteArray),Below w.heap.size w W->kx 67 #[Ie (AI ⟨b,0,be⟩),Y t] W (Ik #[Ij #[Y (eV ms t).name,U O (eV ms t).state,U O (eV ms t).aI,U O (eV ms t).addr,Ia (eV ms t).server],Ia (cI ms t).isSome])):=λW t hW=>
  iP b am ms.length cm ms t W (HX.out W hW).2.1 (hJ.below hW) (by omega)
 have HCF:Hid (∀W,Below w.heap.size w W->kx 102 #[vr,IQ (.func 103) #[Ie (AI ⟨b,0,be⟩)] #[]] W (Ia (rs.any (dM ms)))):=λW hW=>
  xa b am ms.length cm ms rs vr W (oN.below hW) (HX.out W hW).2.1 (hJ.below hW) (by omega) (by omega)
 clear hJ oN;generalize rs.any (dM ms)=ab at *;obtain⟨y0,y2,y3⟩:=HX.out w (Ib _ _);clear hg;go_enter Tryz.func56,Tryz.ntmps56;go_wp2_with fail;refine(D5.out _ nm (Ib _ _)).mono ?_;rintro e w1 ⟨rfl,aB⟩;have aV:Hid _:=aB;clear aB y0 y2 y3;rcases hf:cI ms nm with _|m
 .have HR:Hid _:=rJ.out.trans (by rw[hf])
  have Hb:=sY hf;rw[Hb];clear hf Hb;go_wp2_with fail;go_ret;exact⟨ai HR.out.symm,aV.out.alloc aV.out.size _⟩
 .have HR:Hid _:=rJ.out.trans (by rw[hf])
  have Hb:=fN hf;rw[Hb];clear hf Hb;obtain⟨mn,st,lf,ad,VH⟩:=m;simp only at HR;by_cases h2:st=2
  .subst h2
   have F6:Hid (res=4):=HR.out.trans (by simp);go_wp2_with fail;go_ret;exact⟨ai F6.out.symm,aV.out.alloc aV.out.size _⟩
  .by_cases h3:st=3
   .subst h3
    have F6:Hid (res=4):=HR.out.trans (by simp);go_wp2_with fail;go_ret;exact⟨ai F6.out.symm,aV.out.alloc aV.out.size _⟩
   .have F6:Hid _:=HR.out.trans (if_neg (by omega))
    have LJ:(st==2)=false:=by simpa using h2
    have h3':(st==3)=false:=by simpa using h3
    clear h2 h3 HR;obtain⟨W2,bF⟩:∃W2,W2=w1.alloc (AT #[Y mn,U O st,U O lf,U O ad,Ia VH] 50):=⟨_,rfl⟩;have bp:Hid (Below w.heap.size w W2):=by rw[bF];exact aV.out.alloc aV.out.size _
    obtain⟨y0,y2,y3⟩:=HX.out W2 bp.out;rw[bF] at y0 y2 y3;go_wp2_with fail;rw[<- bF];refine(HCF.out _ bp.out).mono ?_;rintro e w3 ⟨rfl,bV⟩;have cj:Hid _:=bp.out.trans (bV.mono bp.out.size);clear bV y0 y2 y3 bF;cases ab
    .go_wp2_with fail
     go_ret;exact⟨ai F6.out.symm,cj.out⟩
    .go_wp2_with fail
     go_ret;exact⟨ai F6.out.symm,cj.out⟩
theorem ov(n:Nd)(vm vr vs vg vw:Value)(w:World)(h:eS w n vm vr vs vg vw) :
 kx 36 #[Ij (dt n vm vr vs vg vw)] w (U O n.e):=by
 have HI:Hid _:=h;have HE:Hid (n.e=if n.pE=0 then n.wE else n.pE):=rfl;obtain⟨W,hW⟩:∃W,W=(w.alloc (AT (dt n vm vr vs vg vw) 42)).alloc (AT (dt n vm vr vs vg vw) 90):=⟨_,rfl⟩;have rj:Below w.heap.size w W:=by rw[hW];exact((Ib _ _).alloc (Ic _) _).alloc (by simp) _
 have hg:W.heap[w.heap.size+1]?=AI (AT (dt n vm vr vs vg vw) 90 (0,0)):=by
  have h:=Ih (w.alloc (AT (dt n vm vr vs vg vw) 42)) (AT (dt n vm vr vs vg vw) 90);rw[hW];simpa using h
 have Mn:W.heap.size=w.heap.size+2:=by rw[hW];simp
 have lM:Hid _:=rj;have HC:Hid (aF _ _ _ _):=tf n (w.heap.size+1) vm vr vs vg vw W (h.below rj) hg;have HD:Hid (n.pE=0->∀W1,Below W.heap.size W W1->kx 56 #[Ie (AI ⟨w.heap.size+1,0,be⟩)] W1 (U O n.wE)):=λhp W1 h1=>
  tg n (w.heap.size+1) vm vr vs vg vw W1 ((h.below rj).below h1) ((h1.block _ (by omega)).trans hg) hp
 obtain⟨nm,ct,ms,rs,sv,gw,⟨px,py,pz,ph,pq⟩,wh⟩:=n;obtain⟨⟨am,cm,rfl,_,_⟩,⟨ar,cr,rfl,_,_⟩,⟨aq,cq,rfl,_,_⟩,⟨ag,cg,rfl,_,_⟩,⟨aw,cw,rfl,_,_⟩,_,_⟩:=h;generalize Nd.e ⟨nm,ct,ms,rs,sv,gw,⟨px,py,pz,ph,pq⟩,wh⟩=res at *;generalize Nd.pE ⟨nm,ct,ms,rs,sv,gw,⟨px,py,pz,ph,pq⟩,wh⟩=pe at *;generalize Nd.wE ⟨nm,ct,ms,rs,sv,gw,⟨px,py,pz,ph,pq⟩,wh⟩=we at *;simp only[dt] at hW ⊢;clear hg rj;generalize ms.length=VI at *;generalize rs.length=VJ at *;generalize sv.length=VK at *;generalize gw.length=VL at *;generalize wh.length=VM at *;go_enter Tryz.func36,Tryz.ntmps36;go_wp2_with fail;rw[<- hW];refine HC.out.mono ?_;rintro e w1 ⟨rfl,aB⟩;have aV:Hid _:=aB;have iN:Hid _:=lM.out.trans (aB.mono (by omega));clear aB;by_cases hp:pe=0
 .have TO:=HD.out hp w1 aV.out
  have HR:Hid _:=HE.out.trans (if_pos hp);subst hp;clear HD HE;go_wp2_with fail;refine TO.mono ?_;rintro e w2 ⟨rfl,aJ⟩;have oX:Hid _:=iN.out.trans (aJ.mono iN.out.size);clear aJ;go_wp2_with fail;go_ret;exact⟨ai HR.out.symm,oX.out⟩
 .have hp':(pe !=0)=true:=by simpa using hp
  have HR:Hid _:=HE.out.trans (if_neg hp);clear hp HD HE;go_wp2_with fail;go_ret;exact⟨ai HR.out.symm,iN.out⟩
end Go.Proofs.YtfidhgjmifendaaGreatDoor
namespace Go.Proofs.YtfidhgjmifendaaGreatDoor
namespace Sv
open Go.RowKit
theorem eU(ms:List aT)(v:Value)(w:World)(h:Sl w v ms)(hn:ms.length<=1000) :
 aF 59 #[v] w λe w'=>∃v',e=By v'/\Own w.heap.size w' v' ms/\Below w.heap.size w w':=by
 obtain⟨a,cap,rfl,hs,h⟩:=h;obtain⟨i0,fL,dh,gW,gG⟩:=info_parts Tryz.qv;cases a with
 |none=>
  have he:ms=[]:=by
   rcases h with h|⟨b,off,h,_⟩
   .exact h
   .cases h
  subst he;clear h hs;have gL:=λ(w:World)=>Ju (P:=AS) w 36 46 be 0 cap 0 0 J4;simp only[IW,OQ] at gL ⊢;go_enter Tryz.func59,Tryz.ntmps59;go_wp2_with fail;go_ret;exact⟨_,rfl,bY _ _,Ib _ _⟩
 |some a=>
  have gL:=λ(w:World)=>Ju (P:=AS) w 36 46 (AI a) ms.length cap 0 0 J4;simp only[OR] at gL;have hnews:Hid (∀j u,(fl ms)[j]?=AI u->(w.alloc (AT #[] 46)).cell? (a.add j)=AI u):=by
   intro j u hj;rcases h with h|⟨b,off,h,hb,hr⟩
   .subst h;simp[fl] at hj
   .cases h
    have Rh:j<ms.length*9:=by rw[<- cP];exact(Jm.1 hj).1
    have h1:=eb ms (j/9) (by omega) (j%9) (by omega);rw[show j/9*9+j%9=j by omega,hj] at h1;rw[Addr.add_lit,Og (w:=w) _ b _ hb];obtain⟨c0,c1,c2,c3,c4,c5,c6,c7,c8⟩:=hr (j/9) (by omega);have b9:j%9=0\/j%9=1\/j%9=2\/j%9=3\/j%9=4\/j%9=5\/j%9=6\/j%9=7\/j%9=8:=by omega
    rcases b9 with e|e|e|e|e|e|e|e|e
    .rw[show off+j=off+j/9*9 by omega,c0];rw[e] at h1;simpa[aT.cs] using h1.symm
    .rw[show off+j=off+j/9*9+1 by omega,c1];rw[e] at h1;simpa[aT.cs] using h1.symm
    .rw[show off+j=off+j/9*9+2 by omega,c2];rw[e] at h1;simpa[aT.cs] using h1.symm
    .rw[show off+j=off+j/9*9+3 by omega,c3];rw[e] at h1;simpa[aT.cs] using h1.symm
    .rw[show off+j=off+j/9*9+4 by omega,c4];rw[e] at h1;simpa[aT.cs] using h1.symm
    .rw[show off+j=off+j/9*9+5 by omega,c5];rw[e] at h1;simpa[aT.cs] using h1.symm
    .rw[show off+j=off+j/9*9+6 by omega,c6];rw[e] at h1;simpa[aT.cs] using h1.symm
    .rw[show off+j=off+j/9*9+7 by omega,c7];rw[e] at h1;simpa[aT.cs] using h1.symm
    .rw[show off+j=off+j/9*9+8 by omega,c8];rw[e] at h1;simpa[aT.cs] using h1.symm
  have HO:Hid ((w.alloc (AT #[] 46)).ownsRow w.heap.size 46 9 (J (AI ⟨w.heap.size,0,be⟩) 0 0) 0 []):=OS w #[] 0 (Ic _) (by unfold Il;omega) rfl;clear h hs;go_enter Tryz.func59,Tryz.ntmps59;go_wp2_with (at_builtin;refine Jd _ rfl _ _ 36 rfl w.heap.size 46 i0 _ 9 104 J4 fL dh gW gG rfl (by omega) _ 0 [] rfl HO.out a ms.length cap (fl ms) rfl (cP ms) hnews.out (gJ ms) (by unfold Il;omega) (by omega) (by simp) ?_);intro v' w' r1 r2 r3;go_wp2_with fail;go_ret;refine⟨v',rfl,?_,?_⟩
  .simpa using r1
  .exact((Ib _ _).alloc (Ic _) _).grown r2 (by simp) (λk hk=>by simp[Jy] at hk;omega)
end Sv
namespace Wh
open Go.RowKit
theorem eU(ms:List bE)(v:Value)(w:World)(h:Sl w v ms)(hn:ms.length<=1000) :
 aF 61 #[v] w λe w'=>∃v',e=By v'/\Own w.heap.size w' v' ms/\Below w.heap.size w w':=by
 obtain⟨a,cap,rfl,hs,h⟩:=h;obtain⟨i0,fL,dh,gW,gG⟩:=info_parts Tryz.nt;cases a with
 |none=>
  have he:ms=[]:=by
   rcases h with h|⟨b,off,h,_⟩
   .exact h
   .cases h
  subst he;clear h hs;have gL:=λ(w:World)=>Ju (P:=AS) w 40 116 be 0 cap 0 0 J6;simp only[IW,OQ] at gL ⊢;go_enter Tryz.func61,Tryz.ntmps61;go_wp2_with fail;go_ret;exact⟨_,rfl,bY _ _,Ib _ _⟩
 |some a=>
  have gL:=λ(w:World)=>Ju (P:=AS) w 40 116 (AI a) ms.length cap 0 0 J6;simp only[OR] at gL;have hnews:Hid (∀j u,(fl ms)[j]?=AI u->(w.alloc (AT #[] 116)).cell? (a.add j)=AI u):=by
   intro j u hj;rcases h with h|⟨b,off,h,hb,hr⟩
   .subst h;simp[fl] at hj
   .cases h
    have Rh:j<ms.length*6:=by rw[<- cP];exact(Jm.1 hj).1
    have h1:=eb ms (j/6) (by omega) (j%6) (by omega);rw[show j/6*6+j%6=j by omega,hj] at h1;rw[Addr.add_lit,Og (w:=w) _ b _ hb];obtain⟨c0,c1,c2,c3,c4,c5⟩:=hr (j/6) (by omega);have b9:j%6=0\/j%6=1\/j%6=2\/j%6=3\/j%6=4\/j%6=5:=by omega
    rcases b9 with e|e|e|e|e|e
    .rw[show off+j=off+j/6*6 by omega,c0];rw[e] at h1;simpa[bE.cs] using h1.symm
    .rw[show off+j=off+j/6*6+1 by omega,c1];rw[e] at h1;simpa[bE.cs] using h1.symm
    .rw[show off+j=off+j/6*6+2 by omega,c2];rw[e] at h1;simpa[bE.cs] using h1.symm
    .rw[show off+j=off+j/6*6+3 by omega,c3];rw[e] at h1;simpa[bE.cs] using h1.symm
    .rw[show off+j=off+j/6*6+4 by omega,c4];rw[e] at h1;simpa[bE.cs] using h1.symm
    .rw[show off+j=off+j/6*6+5 by omega,c5];rw[e] at h1;simpa[bE.cs] using h1.symm
  have HO:Hid ((w.alloc (AT #[] 116)).ownsRow w.heap.size 116 6 (J (AI ⟨w.heap.size,0,be⟩) 0 0) 0 []):=OS w #[] 0 (Ic _) (by unfold Il;omega) rfl;clear h hs;go_enter Tryz.func61,Tryz.ntmps61;go_wp2_with (at_builtin;refine Jd _ rfl _ _ 40 rfl w.heap.size 116 i0 _ 6 56 J6 fL dh gW gG rfl (by omega) _ 0 [] rfl HO.out a ms.length cap (fl ms) rfl (cP ms) hnews.out (gJ ms) (by unfold Il;omega) (by omega) (by simp) ?_);intro v' w' r1 r2 r3;go_wp2_with fail;go_ret;refine⟨v',rfl,?_,?_⟩
  .simpa using r1
  .exact((Ib _ _).alloc (Ic _) _).grown r2 (by simp) (λk hk=>by simp[Jy] at hk;omega)
end Wh
end Go.Proofs.YtfidhgjmifendaaGreatDoor
namespace Go.Proofs.YtfidhgjmifendaaGreatDoor
open Go.RowKit
theorem bA{W:World}{b:Nat}{T:I4}{f:Nat×Nat}{c0 c1 c2 c3 c4 c5 c6 c7 c8 c9 c10 c11:Value}(h:W.heap[b]?=AI (AT #[c0,c1,c2,c3,c4,c5,c6,c7,c8,c9,c10,c11] T f)):W.cell? ⟨b,0,be⟩=AI c0/\W.cell? ⟨b,1,be⟩=AI c1/\W.cell? ⟨b,2,be⟩=AI c2/\W.cell? ⟨b,3,be⟩=AI c3/\W.cell? ⟨b,4,be⟩=AI c4/\W.cell? ⟨b,5,be⟩=AI c5/\W.cell? ⟨b,6,be⟩=AI c6/\W.cell? ⟨b,7,be⟩=AI c7/\W.cell? ⟨b,8,be⟩=AI c8/\W.cell? ⟨b,9,be⟩=AI c9/\W.cell? ⟨b,10,be⟩=AI c10/\W.cell? ⟨b,11,be⟩=AI c11:=⟨ae h 0,ae h 1,ae h 2,ae h 3,ae h 4,ae h 5,ae h 6,ae h 7,ae h 8,ae h 9,ae h 10,ae h 11⟩
theorem jT{W:World}{b:Nat}{T:I4}{cs:Array Value}(h:W.heap[b]?=AI (AT cs T (0,0))):W.frozen? ⟨b,0,be⟩=false/\W.frozen? ⟨b,1,be⟩=false/\W.frozen? ⟨b,2,be⟩=false/\W.frozen? ⟨b,3,be⟩=false/\W.frozen? ⟨b,4,be⟩=false/\W.frozen? ⟨b,5,be⟩=false/\W.frozen? ⟨b,6,be⟩=false/\W.frozen? ⟨b,7,be⟩=false/\W.frozen? ⟨b,8,be⟩=false/\W.frozen? ⟨b,9,be⟩=false/\W.frozen? ⟨b,10,be⟩=false/\W.frozen? ⟨b,11,be⟩=false:=by simp[Ir,h]
theorem Hi{W:World}{b:Nat}{T:I4}{f:Nat×Nat}{c0 c1 c2 c3 c4 c5 c6 c7 c8:Value}(h:W.heap[b]?=AI (AT #[c0,c1,c2,c3,c4,c5,c6,c7,c8] T f)):W.cell? ⟨b,0,be⟩=AI c0/\W.cell? ⟨b,1,be⟩=AI c1/\W.cell? ⟨b,2,be⟩=AI c2/\W.cell? ⟨b,3,be⟩=AI c3/\W.cell? ⟨b,4,be⟩=AI c4/\W.cell? ⟨b,5,be⟩=AI c5/\W.cell? ⟨b,6,be⟩=AI c6/\W.cell? ⟨b,7,be⟩=AI c7/\W.cell? ⟨b,8,be⟩=AI c8:=⟨ae h 0,ae h 1,ae h 2,ae h 3,ae h 4,ae h 5,ae h 6,ae h 7,ae h 8⟩
theorem fm{W:World}{b:Nat}{T:I4}{f:Nat×Nat}{c0 c1 c2 c3 c4 c5:Value}(h:W.heap[b]?=AI (AT #[c0,c1,c2,c3,c4,c5] T f)):W.cell? ⟨b,0,be⟩=AI c0/\W.cell? ⟨b,1,be⟩=AI c1/\W.cell? ⟨b,2,be⟩=AI c2/\W.cell? ⟨b,3,be⟩=AI c3/\W.cell? ⟨b,4,be⟩=AI c4/\W.cell? ⟨b,5,be⟩=AI c5:=⟨ae h 0,ae h 1,ae h 2,ae h 3,ae h 4,ae h 5⟩
theorem Hj{W:World}{b:Nat}{T:I4}{cs:Array Value}(h:W.heap[b]?=AI (AT cs T (0,0))):W.frozen? ⟨b,0,be⟩=false/\W.frozen? ⟨b,1,be⟩=false/\W.frozen? ⟨b,2,be⟩=false/\W.frozen? ⟨b,3,be⟩=false/\W.frozen? ⟨b,4,be⟩=false/\W.frozen? ⟨b,5,be⟩=false:=by simp[Ir,h]
theorem jd{W:World}{b:Nat}{T:I4}{f:Nat×Nat}{c0 c1 c2 c3 c4:Value}(h:W.heap[b]?=AI (AT #[c0,c1,c2,c3,c4] T f)):W.cell? ⟨b,0,be⟩=AI c0/\W.cell? ⟨b,1,be⟩=AI c1/\W.cell? ⟨b,2,be⟩=AI c2/\W.cell? ⟨b,3,be⟩=AI c3/\W.cell? ⟨b,4,be⟩=AI c4:=⟨ae h 0,ae h 1,ae h 2,ae h 3,ae h 4⟩
theorem acP{W:World}{b:Nat}{T:I4}{cs:Array Value}(h:W.heap[b]?=AI (AT cs T (0,0))):W.frozen? ⟨b,0,be⟩=false/\W.frozen? ⟨b,1,be⟩=false/\W.frozen? ⟨b,2,be⟩=false/\W.frozen? ⟨b,3,be⟩=false/\W.frozen? ⟨b,4,be⟩=false:=by simp[Ir,h]
theorem mO{B b:Nat}{a w:World}(h:Below B a w)(hb:B<=b)(x0 x1 x2 x3 x4 x5 x6 x7 x8 x9 x10 x11:Value):Below B a ((((((((((((w.setCell ⟨b,0,be⟩ x0).setCell ⟨b,1,be⟩ x1).setCell ⟨b,2,be⟩ x2).setCell ⟨b,3,be⟩ x3).setCell ⟨b,4,be⟩ x4).setCell ⟨b,5,be⟩ x5).setCell ⟨b,6,be⟩ x6).setCell ⟨b,7,be⟩ x7).setCell ⟨b,8,be⟩ x8).setCell ⟨b,9,be⟩ x9).setCell ⟨b,10,be⟩ x10).setCell ⟨b,11,be⟩ x11):=((((((((((((h).setCell (p:=⟨b,0,be⟩) hb _).setCell (p:=⟨b,1,be⟩) hb _).setCell (p:=⟨b,2,be⟩) hb _).setCell (p:=⟨b,3,be⟩) hb _).setCell (p:=⟨b,4,be⟩) hb _).setCell (p:=⟨b,5,be⟩) hb _).setCell (p:=⟨b,6,be⟩) hb _).setCell (p:=⟨b,7,be⟩) hb _).setCell (p:=⟨b,8,be⟩) hb _).setCell (p:=⟨b,9,be⟩) hb _).setCell (p:=⟨b,10,be⟩) hb _).setCell (p:=⟨b,11,be⟩) hb _
theorem cX{base b n k:Nat}{T:I4}{w:World}{v:Value}{xs:List Value}(h:w.ownsRow base T k v n xs)(hb:b<base)(x0 x1 x2 x3 x4 x5 x6 x7 x8 x9 x10 x11:Value):((((((((((((w.setCell ⟨b,0,be⟩ x0).setCell ⟨b,1,be⟩ x1).setCell ⟨b,2,be⟩ x2).setCell ⟨b,3,be⟩ x3).setCell ⟨b,4,be⟩ x4).setCell ⟨b,5,be⟩ x5).setCell ⟨b,6,be⟩ x6).setCell ⟨b,7,be⟩ x7).setCell ⟨b,8,be⟩ x8).setCell ⟨b,9,be⟩ x9).setCell ⟨b,10,be⟩ x10).setCell ⟨b,11,be⟩ x11).ownsRow base T k v n xs:=Ii (Ii (Ii (Ii (Ii (Ii (Ii (Ii (Ii (Ii (Ii (Ii (h) (a:=⟨b,0,be⟩) hb _) (a:=⟨b,1,be⟩) hb _) (a:=⟨b,2,be⟩) hb _) (a:=⟨b,3,be⟩) hb _) (a:=⟨b,4,be⟩) hb _) (a:=⟨b,5,be⟩) hb _) (a:=⟨b,6,be⟩) hb _) (a:=⟨b,7,be⟩) hb _) (a:=⟨b,8,be⟩) hb _) (a:=⟨b,9,be⟩) hb _) (a:=⟨b,10,be⟩) hb _) (a:=⟨b,11,be⟩) hb _
structure cL(B:Nat)(w:World)(n:Nd)(vm vr vs vg vw:Value):Prop where
 ms:Own B w vm n.ms
 rs:cH B w vr n.rs
 sv:Sv.Own B w vs n.sv
 gw:Gw.Own B w vg n.gw
 wh:Wh.Own B w vw n.wh
theorem aA{base n k:Nat}{T:I4}{w:World}{v:Value}{xs:List Value}(h:w.ownsRow base T k v n xs):∃a c,v=J a n c/\n<=c:=by
 rcases h.2 with⟨h1,h2⟩|⟨g,c,cur,h1,_,_,hn,_⟩
 .subst h2;exact⟨be,0,h1,Ic _⟩
 .exact⟨_,c,h1,hn⟩
theorem cL.below{B:Nat}{w w':World}{n:Nd}{vm vr vs vg vw:Value}(h:cL B w n vm vr vs vg vw)(hb:Below w.heap.size w w'):cL B w' n vm vr vs vg vw:=⟨h.ms.below hb,h.rs.below hb,h.sv.below hb,h.gw.below hb,h.wh.below hb⟩
structure il(n:Nd):Prop where
 ms:∀m∈n.ms,m.name.size<=Il
 rs:∀r∈n.rs,r.m.name.size<=Il
 sv:∀m∈n.sv,m.ok
 gw:∀m∈n.gw,m.ok
 wh:∀m∈n.wh,m.ok
 name:n.name.size<=Il
 aD:n.aD.size<=Il
theorem eS.ok{w:World}{n:Nd}{vm vr vs vg vw:Value}(h:eS w n vm vr vs vg vw):il n:=by
 obtain⟨⟨_,_,_,h1,_⟩,⟨_,_,_,h2,_⟩,⟨_,_,_,h3,_⟩,⟨_,_,_,h4,_⟩,⟨_,_,_,h5,_⟩,h6,h7⟩:=h;exact⟨dw h1,Mp h2,Sv.dw h3,Gw.dw h4,Wh.dw h5,h6,h7⟩
theorem cL.is{B:Nat}{w:World}{n:Nd}{vm vr vs vg vw:Value}(h:cL B w n vm vr vs vg vw)(hk:il n):eS w n vm vr vs vg vw:=
 ⟨h.ms.sl (cB hk.ms),h.rs.sl (Mq hk.rs),h.sv.sl (Sv.cB hk.sv),h.gw.sl (Gw.cB hk.gw),h.wh.sl (Wh.cB hk.wh),hk.name,hk.aD⟩
theorem qE(n:Nd)(vm vr vs vg vw:Value)(w:World)(h:eS w n vm vr vs vg vw)(l1:n.ms.length<=1000)(l2:n.rs.length<=1000)(l3:n.sv.length<=1000)(l4:n.gw.length<=1000)(l5:n.wh.length<=1000) :
 aF 37 #[Ij (dt n vm vr vs vg vw)] w λe w'=>∃um ur us ug uw,e=By (Ij (dt n um ur us ug uw))/\cL w.heap.size w' n um ur us ug uw/\Below w.heap.size w w':=by
 obtain⟨nm,ct,ms,rs,sv,gw,⟨px,py,pz,ph,pq⟩,wh⟩:=n;obtain⟨hm,hr,hs,wM,hh,_,_⟩:=h;simp only at hm hr hs wM hh l1 l2 l3 l4 l5;have Hm:Hid (∀W,Below w.heap.size w W->aF _ _ _ _):=λW hW=>eU ms vm W (hm.below hW) l1;have Hr:Hid (∀W,Below w.heap.size w W->aF _ _ _ _):=λW hW=>fX rs vr W (hr.below hW) l2;have Hs:Hid (∀W,Below w.heap.size w W->aF _ _ _ _):=λW hW=>Sv.eU sv vs W (hs.below hW) l3;have Hg:Hid (∀W,Below w.heap.size w W->aF _ _ _ _):=λW hW=>Gw.eU gw vg W (wM.below hW) l4;have Hh:Hid (∀W,Below w.heap.size w W->aF _ _ _ _):=λW hW=>Wh.eU wh vw W (hh.below hW) l5;obtain⟨em,cm,rfl,_,_⟩:=hm;obtain⟨er,cr,rfl,_,_⟩:=hr;obtain⟨es,cs,rfl,_,_⟩:=hs;obtain⟨eg,cg,rfl,_,_⟩:=wM;obtain⟨eh,ch,rfl,_,_⟩:=hh;generalize hNm:ms.length=km at *;have HNm:Hid _:=hNm;clear hNm;generalize hNr:rs.length=kr at *;have HNr:Hid _:=hNr;clear hNr;generalize hNs:sv.length=ks at *;have Mr:Hid _:=hNs;clear hNs;generalize hNg:gw.length=kg at *;have HNg:Hid _:=hNg;clear hNg;generalize hNh:wh.length=kh at *;have HNh:Hid _:=hNh;clear hNh;simp only[dt];obtain⟨W0,bJ⟩:∃W0,W0=(w.alloc (AT #[Y nm,Y ct,J em km cm,J er kr cr,J es ks cs,J eg kg cg,U O px,U O py,U O pz,U O ph,U O pq,J eh kh ch] 42)).alloc (AT #[Y ⟨#[]⟩,Y ⟨#[]⟩,J be 0 0,J be 0 0,J be 0 0,J be 0 0,U O 0,U O 0,U O 0,U O 0,U O 0,J be 0 0] 42):=⟨_,rfl⟩;have bM:Below w.heap.size w W0:=by rw[bJ];exact((Ib _ _).alloc (Ic _) _).alloc (by simp) _
 have dG:W0.heap[w.heap.size]?=AI (AT #[Y nm,Y ct,J em km cm,J er kr cr,J es ks cs,J eg kg cg,U O px,U O py,U O pz,U O ph,U O pq,J eh kh ch] 42 (0,0)):=by
  rw[bJ,IE _ _ _ (by simp)];exact Ih w _
 have dh:W0.heap[w.heap.size+1]?=AI (AT #[Y ⟨#[]⟩,Y ⟨#[]⟩,J be 0 0,J be 0 0,J be 0 0,J be 0 0,U O 0,U O 0,U O 0,U O 0,U O 0,J be 0 0] 42 (0,0)):=by
  have h:=Ih (w.alloc (AT #[Y nm,Y ct,J em km cm,J er kr cr,J es ks cs,J eg kg cg,U O px,U O py,U O pz,U O ph,U O pq,J eh kh ch] 42)) (AT #[Y ⟨#[]⟩,Y ⟨#[]⟩,J be 0 0,J be 0 0,J be 0 0,J be 0 0,U O 0,U O 0,U O 0,U O 0,U O 0,J be 0 0] 42);rw[bJ];simpa using h
 have eE:w.heap.size+1<W0.heap.size:=by rw[bJ];simp
 have da:Hid _:=bM;have AM:Hid _:=dG;have nI:Hid _:=dh;clear bM dG dh;go_enter Tryz.func37,Tryz.ntmps37;go_wp2_with fail;rw[<- bJ];clear bJ;refine(Hm.out W0 da.out).mono ?_;rintro e X1 ⟨v',rfl,ho,hx⟩;obtain⟨bm,D6,CT,_⟩:=aA ho;rw[HNm.out] at CT;subst CT;have gI:=(hx.block _ (by omega)).trans AM.out;obtain⟨y0,y1,y2,y3,y4,y5,y6,y7,y8,y9,y10,y11⟩:=bA gI;have z2:X1.frozen? ⟨w.heap.size,2,be⟩=false:=by simp[Ir,gI]
 have Gh:w.heap.size<X1.heap.size:=by have:=hx.size;omega
 obtain⟨W1,cM⟩:∃W1,W1=X1.setCell ⟨w.heap.size,2,be⟩ (J bm km D6):=⟨_,rfl⟩;have uS:Hid (W1.heap[w.heap.size]?=AI (AT #[Y nm,Y ct,J bm km D6,J er kr cr,J es ks cs,J eg kg cg,U O px,U O py,U O pz,U O ph,U O pq,J eh kh ch] 42 (0,0))):=by rw[cM];exact IB (i:=2) gI _
 have Gi:Hid (W1.heap[w.heap.size+1]?=AI (AT #[Y ⟨#[]⟩,Y ⟨#[]⟩,J be 0 0,J be 0 0,J be 0 0,J be 0 0,U O 0,U O 0,U O 0,U O 0,U O 0,J be 0 0] 42 (0,0))):=by rw[cM];exact(IX _ _ _ _ (by simp)).trans ((hx.block _ (by omega)).trans nI.out)
 have acQ:Hid (Own (w.heap.size+2) W1 (J bm km D6) ms):=by rw[cM];exact Ii (ho.mono (by omega)) (by simp) _
 have aV:Hid (Below w.heap.size w W1):=by rw[cM];exact(da.out.trans (hx.mono da.out.size)).setCell (p:=⟨w.heap.size,2,be⟩) (by simp) _
 have fg:=(BY.1 Gi.out).1;clear ho hx gI eE;go_wp2_with fail;rw[<- cM];clear cM y0 y1 y2 y3 y4 y5 y6 y7 y8 y9 y10 y11 z2 Gh;refine(Hr.out W1 aV.out).mono ?_;rintro e X2 ⟨v',rfl,ho,hx⟩;obtain⟨br,Hk,CT,_⟩:=aA ho;rw[HNr.out] at CT;subst CT;have gI:=(hx.block _ (by omega)).trans uS.out;obtain⟨y0,y1,y2,y3,y4,y5,y6,y7,y8,y9,y10,y11⟩:=bA gI;have z3:X2.frozen? ⟨w.heap.size,3,be⟩=false:=by simp[Ir,gI]
 have Gh:w.heap.size<X2.heap.size:=by have:=hx.size;omega
 obtain⟨W2,bF⟩:∃W2,W2=X2.setCell ⟨w.heap.size,3,be⟩ (J br kr Hk):=⟨_,rfl⟩;have wK:Hid (W2.heap[w.heap.size]?=AI (AT #[Y nm,Y ct,J bm km D6,J br kr Hk,J es ks cs,J eg kg cg,U O px,U O py,U O pz,U O ph,U O pq,J eh kh ch] 42 (0,0))):=by rw[bF];exact IB (i:=3) gI _
 have lB:Hid (W2.heap[w.heap.size+1]?=AI (AT #[Y ⟨#[]⟩,Y ⟨#[]⟩,J be 0 0,J be 0 0,J be 0 0,J be 0 0,U O 0,U O 0,U O 0,U O 0,U O 0,J be 0 0] 42 (0,0))):=by rw[bF];exact(IX _ _ _ _ (by simp)).trans ((hx.block _ (by omega)).trans Gi.out)
 have acR:Hid (cH (w.heap.size+2) W2 (J br kr Hk) rs):=by rw[bF];exact Ii (ho.base (by omega)) (by simp) _
 have acS:Hid (Own (w.heap.size+2) W2 (J bm km D6) ms):=by rw[bF];exact Ii (acQ.out.below hx) (by simp) _
 have bp:Hid (Below w.heap.size w W2):=by rw[bF];exact(aV.out.trans (hx.mono aV.out.size)).setCell (p:=⟨w.heap.size,3,be⟩) (by simp) _
 have gY:=(BY.1 lB.out).1;clear ho hx gI fg;go_wp2_with fail;rw[<- bF];clear bF y0 y1 y2 y3 y4 y5 y6 y7 y8 y9 y10 y11 z3 Gh;refine(Hs.out W2 bp.out).mono ?_;rintro e X3 ⟨v',rfl,ho,hx⟩;obtain⟨bs,Ms,CT,_⟩:=aA ho;rw[Mr.out] at CT;subst CT;have gI:=(hx.block _ (by omega)).trans wK.out;obtain⟨y0,y1,y2,y3,y4,y5,y6,y7,y8,y9,y10,y11⟩:=bA gI;have z4:X3.frozen? ⟨w.heap.size,4,be⟩=false:=by simp[Ir,gI]
 have Gh:w.heap.size<X3.heap.size:=by have:=hx.size;omega
 obtain⟨W3,ea⟩:∃W3,W3=X3.setCell ⟨w.heap.size,4,be⟩ (J bs ks Ms):=⟨_,rfl⟩;have RQ:Hid (W3.heap[w.heap.size]?=AI (AT #[Y nm,Y ct,J bm km D6,J br kr Hk,J bs ks Ms,J eg kg cg,U O px,U O py,U O pz,U O ph,U O pq,J eh kh ch] 42 (0,0))):=by rw[ea];exact IB (i:=4) gI _
 have qg:Hid (W3.heap[w.heap.size+1]?=AI (AT #[Y ⟨#[]⟩,Y ⟨#[]⟩,J be 0 0,J be 0 0,J be 0 0,J be 0 0,U O 0,U O 0,U O 0,U O 0,U O 0,J be 0 0] 42 (0,0))):=by rw[ea];exact(IX _ _ _ _ (by simp)).trans ((hx.block _ (by omega)).trans lB.out)
 have acT:Hid (Sv.Own (w.heap.size+2) W3 (J bs ks Ms) sv):=by rw[ea];exact Ii (ho.mono (by omega)) (by simp) _
 have acU:Hid (Own (w.heap.size+2) W3 (J bm km D6) ms):=by rw[ea];exact Ii (acS.out.below hx) (by simp) _
 have acV:Hid (cH (w.heap.size+2) W3 (J br kr Hk) rs):=by rw[ea];exact Ii (acR.out.below hx) (by simp) _
 have cj:Hid (Below w.heap.size w W3):=by rw[ea];exact(bp.out.trans (hx.mono bp.out.size)).setCell (p:=⟨w.heap.size,4,be⟩) (by simp) _
 have rP:=(BY.1 qg.out).1;clear ho hx gI gY;go_wp2_with fail;rw[<- ea];clear ea y0 y1 y2 y3 y4 y5 y6 y7 y8 y9 y10 y11 z4 Gh;refine(Hg.out W3 cj.out).mono ?_;rintro e X4 ⟨v',rfl,ho,hx⟩;obtain⟨bg,RR,CT,_⟩:=aA ho;rw[HNg.out] at CT;subst CT;have gI:=(hx.block _ (by omega)).trans RQ.out;obtain⟨y0,y1,y2,y3,y4,y5,y6,y7,y8,y9,y10,y11⟩:=bA gI;have z5:X4.frozen? ⟨w.heap.size,5,be⟩=false:=by simp[Ir,gI]
 have Gh:w.heap.size<X4.heap.size:=by have:=hx.size;omega
 obtain⟨W4,nQ⟩:∃W4,W4=X4.setCell ⟨w.heap.size,5,be⟩ (J bg kg RR):=⟨_,rfl⟩;have LK:Hid (W4.heap[w.heap.size]?=AI (AT #[Y nm,Y ct,J bm km D6,J br kr Hk,J bs ks Ms,J bg kg RR,U O px,U O py,U O pz,U O ph,U O pq,J eh kh ch] 42 (0,0))):=by rw[nQ];exact IB (i:=5) gI _
 have Pr:Hid (W4.heap[w.heap.size+1]?=AI (AT #[Y ⟨#[]⟩,Y ⟨#[]⟩,J be 0 0,J be 0 0,J be 0 0,J be 0 0,U O 0,U O 0,U O 0,U O 0,U O 0,J be 0 0] 42 (0,0))):=by rw[nQ];exact(IX _ _ _ _ (by simp)).trans ((hx.block _ (by omega)).trans qg.out)
 have acW:Hid (Gw.Own (w.heap.size+2) W4 (J bg kg RR) gw):=by rw[nQ];exact Ii (ho.mono (by omega)) (by simp) _
 have acX:Hid (Own (w.heap.size+2) W4 (J bm km D6) ms):=by rw[nQ];exact Ii (acU.out.below hx) (by simp) _
 have acY:Hid (cH (w.heap.size+2) W4 (J br kr Hk) rs):=by rw[nQ];exact Ii (acV.out.below hx) (by simp) _
 have acZ:Hid (Sv.Own (w.heap.size+2) W4 (J bs ks Ms) sv):=by rw[nQ];exact Ii (acT.out.below hx) (by simp) _
 have eP:Hid (Below w.heap.size w W4):=by rw[nQ];exact(cj.out.trans (hx.mono cj.out.size)).setCell (p:=⟨w.heap.size,5,be⟩) (by simp) _
 have D7:=(BY.1 Pr.out).1;clear ho hx gI rP;go_wp2_with fail;rw[<- nQ];clear nQ y0 y1 y2 y3 y4 y5 y6 y7 y8 y9 y10 y11 z5 Gh;refine(Hh.out W4 eP.out).mono ?_;rintro e X5 ⟨v',rfl,ho,hx⟩;obtain⟨bh,VN,CT,_⟩:=aA ho;rw[HNh.out] at CT;subst CT;have gI:=(hx.block _ (by omega)).trans LK.out;obtain⟨y0,y1,y2,y3,y4,y5,y6,y7,y8,y9,y10,y11⟩:=bA gI;have z11:X5.frozen? ⟨w.heap.size,11,be⟩=false:=by simp[Ir,gI]
 have Gh:w.heap.size<X5.heap.size:=by have:=hx.size;omega
 obtain⟨W5,iZ⟩:∃W5,W5=X5.setCell ⟨w.heap.size,11,be⟩ (J bh kh VN):=⟨_,rfl⟩;have CU:Hid (W5.heap[w.heap.size]?=AI (AT #[Y nm,Y ct,J bm km D6,J br kr Hk,J bs ks Ms,J bg kg RR,U O px,U O py,U O pz,U O ph,U O pq,J bh kh VN] 42 (0,0))):=by rw[iZ];exact IB (i:=11) gI _
 have VO:Hid (W5.heap[w.heap.size+1]?=AI (AT #[Y ⟨#[]⟩,Y ⟨#[]⟩,J be 0 0,J be 0 0,J be 0 0,J be 0 0,U O 0,U O 0,U O 0,U O 0,U O 0,J be 0 0] 42 (0,0))):=by rw[iZ];exact(IX _ _ _ _ (by simp)).trans ((hx.block _ (by omega)).trans Pr.out)
 have ac0:Hid (Wh.Own (w.heap.size+2) W5 (J bh kh VN) wh):=by rw[iZ];exact Ii (ho.mono (by omega)) (by simp) _
 have ac1:Hid (Own (w.heap.size+2) W5 (J bm km D6) ms):=by rw[iZ];exact Ii (acX.out.below hx) (by simp) _
 have ac7:Hid (cH (w.heap.size+2) W5 (J br kr Hk) rs):=by rw[iZ];exact Ii (acY.out.below hx) (by simp) _
 have ac8:Hid (Sv.Own (w.heap.size+2) W5 (J bs ks Ms) sv):=by rw[iZ];exact Ii (acZ.out.below hx) (by simp) _
 have ac9:Hid (Gw.Own (w.heap.size+2) W5 (J bg kg RR) gw):=by rw[iZ];exact Ii (acW.out.below hx) (by simp) _
 have gE:Hid (Below w.heap.size w W5):=by rw[iZ];exact(eP.out.trans (hx.mono eP.out.size)).setCell (p:=⟨w.heap.size,11,be⟩) (by simp) _
 have Hl:=(BY.1 VO.out).1;have jc:=VO.out;have q0:=ae jc 0;have p0:=ae CU.out 0;have zz0:W5.frozen? ⟨w.heap.size+1,0,be⟩=false:=by simp[Ir,jc]
 have q1:=ae jc 1;have p1:=ae CU.out 1;have zz1:W5.frozen? ⟨w.heap.size+1,1,be⟩=false:=by simp[Ir,jc]
 have q2:=ae jc 2;have p2:=ae CU.out 2;have zz2:W5.frozen? ⟨w.heap.size+1,2,be⟩=false:=by simp[Ir,jc]
 have q3:=ae jc 3;have p3:=ae CU.out 3;have zz3:W5.frozen? ⟨w.heap.size+1,3,be⟩=false:=by simp[Ir,jc]
 have q4:=ae jc 4;have p4:=ae CU.out 4;have zz4:W5.frozen? ⟨w.heap.size+1,4,be⟩=false:=by simp[Ir,jc]
 have q5:=ae jc 5;have p5:=ae CU.out 5;have zz5:W5.frozen? ⟨w.heap.size+1,5,be⟩=false:=by simp[Ir,jc]
 have q6:=ae jc 6;have p6:=ae CU.out 6;have zz6:W5.frozen? ⟨w.heap.size+1,6,be⟩=false:=by simp[Ir,jc]
 have q7:=ae jc 7;have p7:=ae CU.out 7;have zz7:W5.frozen? ⟨w.heap.size+1,7,be⟩=false:=by simp[Ir,jc]
 have q8:=ae jc 8;have p8:=ae CU.out 8;have zz8:W5.frozen? ⟨w.heap.size+1,8,be⟩=false:=by simp[Ir,jc]
 have q9:=ae jc 9;have p9:=ae CU.out 9;have zz9:W5.frozen? ⟨w.heap.size+1,9,be⟩=false:=by simp[Ir,jc]
 have q10:=ae jc 10;have p10:=ae CU.out 10;have ajz:W5.frozen? ⟨w.heap.size+1,10,be⟩=false:=by simp[Ir,jc]
 have q11:=ae jc 11;have p11:=ae CU.out 11;have ajA:W5.frozen? ⟨w.heap.size+1,11,be⟩=false:=by simp[Ir,jc]
 clear ho hx gI D7 jc;go_upto_region 6 with fail
 rw[<- iZ];clear iZ y0 y1 y2 y3 y4 y5 y6 y7 y8 y9 y10 y11 z11 Gh;go_wp2_with fail;refine IK (v:=Ij #[Y nm,Y ct,J bm km D6,J br kr Hk,J bs ks Ms,J bg kg RR,U O px,U O py,U O pz,U O ph,U O pq,J bh kh VN]) ?_ rfl ⟨J bm km D6,J br kr Hk,J bs ks Ms,J bg kg RR,J bh kh VN,rfl,⟨?_,?_,?_,?_,?_⟩,?_⟩
 .simp[results,Tryz.results37,go_sem,q0,q1,q2,q3,q4,q5,q6,q7,q8,q9,q10,q11]
 .exact Own.mono (cX (ac1.out) (by simp) _ _ _ _ _ _ _ _ _ _ _ _) (by omega)
 .exact cH.base (cX (ac7.out) (by simp) _ _ _ _ _ _ _ _ _ _ _ _) (by omega)
 .exact Sv.Own.mono (cX (ac8.out) (by simp) _ _ _ _ _ _ _ _ _ _ _ _) (by omega)
 .exact Gw.Own.mono (cX (ac9.out) (by simp) _ _ _ _ _ _ _ _ _ _ _ _) (by omega)
 .exact Wh.Own.mono (cX (ac0.out) (by simp) _ _ _ _ _ _ _ _ _ _ _ _) (by omega)
 .exact mO gE.out (by simp) _ _ _ _ _ _ _ _ _ _ _ _
theorem RS(g nb o n cap j:Nat)(x0 x1:ByteArray)(a2 a3 a4 a5 a11:Option Addr)(n2 k2 n3 k3 n4 k4 n5 k5 n11 k11:Nat)(x6 x7 x8 x9 x10:Int)(w:World)(g0:w.cell? ⟨g,0,be⟩=AI (J (AI ⟨nb,o,be⟩) n cap))(g3:w.cell? ⟨g,3,be⟩=AI (U O (j:Int)))(hj:j<n)(c0:w.cell? ⟨nb,o+j*12,be⟩=AI (Y x0))(c1:w.cell? ⟨nb,o+j*12+1,be⟩=AI (Y x1))(c2:w.cell? ⟨nb,o+j*12+2,be⟩=AI (J a2 n2 k2))(c3:w.cell? ⟨nb,o+j*12+3,be⟩=AI (J a3 n3 k3))(c4:w.cell? ⟨nb,o+j*12+4,be⟩=AI (J a4 n4 k4))(c5:w.cell? ⟨nb,o+j*12+5,be⟩=AI (J a5 n5 k5))(c6:w.cell? ⟨nb,o+j*12+6,be⟩=AI (U O x6))(c7:w.cell? ⟨nb,o+j*12+7,be⟩=AI (U O x7))(c8:w.cell? ⟨nb,o+j*12+8,be⟩=AI (U O x8))(c9:w.cell? ⟨nb,o+j*12+9,be⟩=AI (U O x9))(c10:w.cell? ⟨nb,o+j*12+10,be⟩=AI (U O x10))(c11:w.cell? ⟨nb,o+j*12+11,be⟩=AI (J a11 n11 k11)) :
 Calls AS 85 #[Ie (AI ⟨g,0,be⟩)] w λe w'=>e=By (Ij #[Y x0,Y x1,J a2 n2 k2,J a3 n3 k3,J a4 n4 k4,J a5 n5 k5,U O x6,U O x7,U O x8,U O x9,U O x10,J a11 n11 k11])/\Below w.heap.size w w':=by
 have dn:g<w.heap.size:=Ix w _ g0;have aN:nb<w.heap.size:=Ix w _ c0;obtain⟨W0,bJ,bM,-,dG⟩:=bW w #[Y ⟨#[]⟩,Y ⟨#[]⟩,J be 0 0,J be 0 0,J be 0 0,J be 0 0,U O 0,U O 0,U O 0,U O 0,U O 0,J be 0 0] 42;have RT:w.heap.size≠g:=by omega
 have RU:w.heap.size≠nb:=by omega
 have aW:(j:Int)<(n:Int):=by omega
 have yO:(0:Int)<=(j:Int):=by omega
 have DZ:((j:Int)).toNat=j:=by omega
 have e0:=(bM.cell (p:=⟨g,0,be⟩) dn).trans g0;have e3:=(bM.cell (p:=⟨g,3,be⟩) dn).trans g3;have d0:=(bM.cell (p:=⟨nb,o+j*12,be⟩) aN).trans c0;have d1:=(bM.cell (p:=⟨nb,o+j*12+1,be⟩) aN).trans c1;have d2:=(bM.cell (p:=⟨nb,o+j*12+2,be⟩) aN).trans c2;have d3:=(bM.cell (p:=⟨nb,o+j*12+3,be⟩) aN).trans c3;have d4:=(bM.cell (p:=⟨nb,o+j*12+4,be⟩) aN).trans c4;have d5:=(bM.cell (p:=⟨nb,o+j*12+5,be⟩) aN).trans c5;have d6:=(bM.cell (p:=⟨nb,o+j*12+6,be⟩) aN).trans c6;have d7:=(bM.cell (p:=⟨nb,o+j*12+7,be⟩) aN).trans c7;have d8:=(bM.cell (p:=⟨nb,o+j*12+8,be⟩) aN).trans c8;have d9:=(bM.cell (p:=⟨nb,o+j*12+9,be⟩) aN).trans c9;have d10:=(bM.cell (p:=⟨nb,o+j*12+10,be⟩) aN).trans c10;have d11:=(bM.cell (p:=⟨nb,o+j*12+11,be⟩) aN).trans c11;obtain⟨q0,q1,q2,q3,q4,q5,q6,q7,q8,q9,q10,q11⟩:=bA dG;obtain⟨vK,vL,xc,xd,xe,xf,CV,CW,CX,CY,pG,pH⟩:=jT dG;obtain⟨W1,cM⟩:∃W1,W1=World.drew (aC w.heap.size [Y x0,Y x1,J a2 n2 k2,J a3 n3 k3,J a4 n4 k4,J a5 n5 k5,U O x6,U O x7,U O x8,U O x9,U O x10,J a11 n11 k11] 0 W0):=⟨_,rfl⟩;have aB:Below w.heap.size w W1:=by rw[cM];exact cD (aQ (Ic _) _ _ bM)
 have cK:W1.heap[w.heap.size]?=AI (AT #[Y x0,Y x1,J a2 n2 k2,J a3 n3 k3,J a4 n4 k4,J a5 n5 k5,U O x6,U O x7,U O x8,U O x9,U O x10,J a11 n11 k11] 42 (0,0)):=by rw[cM,dB];exact kO dG _ _ _ _ _ _ _ _ _ _ _ _
 obtain⟨r0,r1,r2,r3,r4,r5,r6,r7,r8,r9,r10,r11⟩:=bA cK;have aV:Hid _:=aB;clear bM dG aB cK dn aN g0 g3 c0 c1 c2 c3 c4 c5 c6 c7 c8 c9 c10 c11;go_enter Tryz.func85,Tryz.ntmps85;go_upto_region 1 with fail
 rw[<- bJ];clear bJ;go_region_held3 (λw'=>w'.cell? ⟨g,0,be⟩=AI (J (AI ⟨nb,o,be⟩) n cap)/\w'.cell? ⟨g,3,be⟩=AI (U O (j:Int))/\w'.cell? ⟨nb,o+j*12,be⟩=AI (Y x0)/\w'.cell? ⟨nb,o+j*12+1,be⟩=AI (Y x1)/\w'.cell? ⟨nb,o+j*12+2,be⟩=AI (J a2 n2 k2)/\w'.cell? ⟨nb,o+j*12+3,be⟩=AI (J a3 n3 k3)/\w'.cell? ⟨nb,o+j*12+4,be⟩=AI (J a4 n4 k4)/\w'.cell? ⟨nb,o+j*12+5,be⟩=AI (J a5 n5 k5)/\w'.cell? ⟨nb,o+j*12+6,be⟩=AI (U O x6)/\w'.cell? ⟨nb,o+j*12+7,be⟩=AI (U O x7)/\w'.cell? ⟨nb,o+j*12+8,be⟩=AI (U O x8)/\w'.cell? ⟨nb,o+j*12+9,be⟩=AI (U O x9)/\w'.cell? ⟨nb,o+j*12+10,be⟩=AI (U O x10)/\w'.cell? ⟨nb,o+j*12+11,be⟩=AI (J a11 n11 k11)) (simp only[World.cell?_setCell_far,World.cell?_drew,ne_eq,RT,RU,not_false_eq_true,e0,e3,d0,d1,d2,d3,d4,d5,d6,d7,d8,d9,d10,d11,and_self]) (fail)
 go_wp2_with fail;simp only[aC,Nat.zero_add,Nat.reduceAdd] at cM;rw[<- cM];clear cM;exact IK (v:=Ij #[Y x0,Y x1,J a2 n2 k2,J a3 n3 k3,J a4 n4 k4,J a5 n5 k5,U O x6,U O x7,U O x8,U O x9,U O x10,J a11 n11 k11]) (by simp[results,Tryz.results85,go_sem,r0,r1,r2,r3,r4,r5,r6,r7,r8,r9,r10,r11]) rfl ⟨rfl,aV.out⟩
end Go.Proofs.YtfidhgjmifendaaGreatDoor
