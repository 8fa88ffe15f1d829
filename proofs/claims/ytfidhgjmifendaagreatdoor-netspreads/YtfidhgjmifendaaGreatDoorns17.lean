import Derived.Test.YtfidhgjmifendaaGreatDoorns10
import Derived.Test.YtfidhgjmifendaaGreatDoorns16
import Derived.Laws.EntriesVeiled
import Derived.Lib.SmallJoins
set_option maxHeartbeats 12800000
set_option maxRecDepth 100000
open Go.Value renaming string→Y,agg→Ij,int→U,bool→Ia,pointer→Ie,slice→J,func→IT,tuple→Ik
open Option renaming none→be,some→AI
open Go.IntKind renaming i64→O
open Go.Ending renaming returned→AT
open Go.Obj renaming cells→By
open Go.Proofs.Tryz renaming prog→AS
open Go.World renaming block_lt_of_cell?→Iy,frozen?→Is
open Go.RowKit.Below renaming refl→Ib,heap_alloc→IE
open Nat renaming le_refl→Ic,zero_le→IP
open Go renaming heap_alloc_new→Ih,bodyPost_ret→IK,maxLen→Il
open Array renaming getElem?_eq_some_iff→BY
open List renaming getD→Ip,getElem?_eq_getElem→If,any_eq_true→Qg,getElem_mem→IJ
namespace Go.Proofs.YtfidhgjmifendaaGreatDoor
open Go.RowKit
theorem Ej(m:Mem)(nb:Nat)(nm:ByteArray)(w:World)(h:w.cell? ⟨nb,0,be⟩=AI (Y nm)) :
 Calls AS 114 #[Ij #[Y m.name,U O m.state,U O m.aJ,U O m.addr,Ia m.server],Ie (AI ⟨nb,0,be⟩)] w λe w'=>e=AT (Ia (decide (m.name=nm)))/\w'=w.alloc (By #[Y m.name,U O m.state,U O m.aJ,U O m.addr,Ia m.server] 50):=by
 have hb:=Iy w _ h;have h2:∀ob,(w.alloc ob).cell? ⟨nb,0,be⟩=AI (Y nm):=λob=>by
  rw[((Ib w.heap.size w).alloc (Ic _) ob).cell (p:=⟨nb,0,be⟩) hb];exact h
 obtain⟨mn,st,lf,ad,sv⟩:=m;go_enter Tryz.func114,Tryz.ntmps114;go_wp2_with fail;go_ret;exact⟨aW (jM _ _),rfl⟩
theorem Bx(ms:List Mem)(pa:Option Addr)(n c nb:Nat)(nm:ByteArray)(w:World)(hv:Sl w (J pa n c) ms)(zx:n<=1000)(ht:w.cell? ⟨nb,0,be⟩=AI (Y nm)) :
 Calls AS 115 #[J pa n c,IT (.func 114) #[] #[Ie (AI ⟨nb,0,be⟩)]] w λe w'=>
  ((e=AT (U O (-1))/\Hid (cv ms nm=be))\/(∃i:Nat,i<n/\e=AT (U O i)/\Hid (cv ms nm=AI (ms.getD i dm))))/\Below w.heap.size w w':=by
 obtain⟨pa',ca,he,_,ha⟩:=hv;simp only[Value.slice.injEq] at he;obtain⟨rfl,hN,rfl⟩:=he;have HA:Hid _:=ha;have HN:Hid _:=hN.symm;have HT:Hid _:=ht;have R0:=Iy w _ ht;clear ha hN ht;go_enter Tryz.func115,Tryz.ntmps115;go_wp2_with fail;go_loopw [8] (λi wr=>∃k:Nat,k<=n/\i=U O k/\Hid (∀j,j<k->(ms.getD j dm).name≠nm)/\Hid (Below w.heap.size w wr)) (λi _=>n-(intOf i).toNat)
 case atStart=>exact⟨0,IP _,rfl,λj hj=>by omega,Ib _ _⟩
 case round=>
  obtain⟨k,hk,rfl,HZ,HB⟩:=hrel;by_cases aX:k<n
  .obtain⟨b,off,xt,Dd,hr⟩:∃b off,pa=AI ⟨b,off,be⟩/\b<w.heap.size/\Row w b off ms:=by
    rcases HA.out with h|h
    .have:=HN.out;rw[h] at this;simp at this;omega
    .exact h
   subst xt;obtain⟨c0,c1,c2,c3,c4⟩:=hr.later HB.out Dd k (by rw[HN.out];exact aX);clear hr;have MM:wr.cell? ⟨nb,0,be⟩=AI (Y nm):=by rw[HB.out.cell (p:=⟨nb,0,be⟩) R0];exact HT.out
   have HY:Hid ((ms.getD k dm).name=nm->cv ms nm=AI (ms.getD k dm)):=λh=>nL (by rw[HN.out];exact aX) HZ.out h;have lP:Hid ((ms.getD k dm).name≠nm->∀j,j<k+1->(ms.getD j dm).name≠nm):=λh j hj=>by
    by_cases e:j=k
    .subst e;exact h
    .exact HZ.out j (by omega)
   have hF:=λw h=>Ej (ms.getD k dm) nb nm w h;by_cases qM:(ms.getD k dm).name=nm
   .have HF:Hid _:=HY.out qM
    rw[decide_eq_true qM] at hF;clear qM lP HY;generalize R6:ms.getD k dm=mk at *;have HMK:Hid _:=R6;clear R6;obtain⟨mn,st,lf,ad,sv⟩:=mk;simp only at c0 c1 c2 c3 c4 hF;go_wp2_with fail;refine(hF _ MM).mono ?_;rintro e w1 ⟨rfl,rfl⟩;go_wp2_with fail;go_ret;exact⟨.inr ⟨k,aX,rfl,by rw[HMK.out];exact HF⟩,HB.out.alloc HB.out.size _⟩
   .have qK:Hid _:=lP.out qM
    rw[decide_eq_false qM] at hF;clear qM lP HY HZ;generalize ms.getD k dm=mk at *;obtain⟨mn,st,lf,ad,sv⟩:=mk;simp only at c0 c1 c2 c3 c4 hF;go_wp2_with fail;refine(hF _ MM).mono ?_;rintro e w1 ⟨rfl,rfl⟩;go_wp2_with fail;go_roundw
    case rel=>exact⟨k+1,by omega,by go_num,qK,HB.out.alloc HB.out.size _⟩
    case measure=>simp[intOf];omega
  .have qK:Hid _:=qW λj hj=>HZ.out j (by have:=HN.out;omega)
   clear HZ;go_wp2_with fail;go_ret;exact⟨.inl ⟨rfl,qK⟩,HB.out⟩
theorem hU{ms:List Mem}{t:ByteArray}{m:Mem}(h:cv ms t=AI m):eF ms t=m:=by unfold eF;rw[h];rfl
theorem tu{ms:List Mem}{t:ByteArray}(h:cv ms t=be):eF ms t=dm:=by unfold eF;rw[h];rfl
theorem jc(b:Nat)(pm:Option Addr)(nm cm:Nat)(ms:List Mem)(t:ByteArray)(w:World)(hc:w.cell? ⟨b,2,be⟩=AI (J pm nm cm))(hm:Sl w (J pm nm cm) ms)(hn:nm<=1000) :
 Calls AS 67 #[Ie (AI ⟨b,0,be⟩),Y t] w λe w'=>e=AT (Ik #[Ij #[Y (eF ms t).name,U O (eF ms t).state,U O (eF ms t).aJ,U O (eF ms t).addr,Ia (eF ms t).server],Ia (cv ms t).isSome])/\Below w.heap.size w w':=by
 have HM:Hid (Sl _ _ _):=hm;have hb:=Iy w _ hc;have HC:Hid _:=hc;clear hm;obtain⟨W,hW⟩:∃W,W=(w.alloc (By #[Y t] 9)).alloc (By #[Y ⟨#[]⟩,U O 0,U O 0,U O 0,Ia false] 50):=⟨_,rfl⟩;have rL:Below w.heap.size w W:=by rw[hW];exact((Ib _ _).alloc (Ic _) _).alloc (by simp) _
 have cO:W.heap[w.heap.size]?=AI (By #[Y t] 9 (0,0)):=by
  rw[hW,IE _ _ _ (by simp)];exact Ih w _
 have dS:W.heap[w.heap.size+1]?=AI (By #[Y ⟨#[]⟩,U O 0,U O 0,U O 0,Ia false] 50 (0,0)):=by
  have h:=Ih (w.alloc (By #[Y t] 9)) (By #[Y ⟨#[]⟩,U O 0,U O 0,U O 0,Ia false] 50);rw[hW];simpa using h
 have MN:W.heap.size=w.heap.size+2:=by rw[hW];simp
 go_enter Tryz.func67,Tryz.ntmps67;go_wp2_with fail;rw[<- hW];clear hW;refine(Bx ms pm nm cm _ t W (HM.out.below rL) hn (ae cO 0)).mono ?_;rintro e w1 ⟨Mh,aB⟩;have h2:=(aB.block _ (by omega)).trans dS;have HB:Hid _:=rL.trans (aB.mono (by omega));have HM1:Hid (Sl _ _ _):=HM.out.below HB.out;have d2:w1.cell? ⟨b,2,be⟩=AI (J pm nm cm):=by rw[HB.out.cell (p:=⟨b,2,be⟩) hb];exact HC.out
 have r0:=ae h2 0;have r1:=ae h2 1;have r2:=ae h2 2;have r3:=ae h2 3;have r4:=ae h2 4;have z0:w1.frozen? ⟨w.heap.size+1,0,be⟩=false:=by simp[Is,h2]
 have z1:w1.frozen? ⟨w.heap.size+1,1,be⟩=false:=by simp[Is,h2]
 have z2:w1.frozen? ⟨w.heap.size+1,2,be⟩=false:=by simp[Is,h2]
 have z3:w1.frozen? ⟨w.heap.size+1,3,be⟩=false:=by simp[Is,h2]
 have z4:w1.frozen? ⟨w.heap.size+1,4,be⟩=false:=by simp[Is,h2]
 have nW:=(BY.1 h2).1;clear rL cO dS aB h2 MN hc;rcases Mh with⟨rfl,HF⟩|⟨i,hi,rfl,HF⟩
 .have HO:Hid (eF ms t=dm/\(cv ms t).isSome=false):=⟨tu HF.out,by rw[HF.out];rfl⟩
  go_wp2_with fail;refine IK (v:=Ik #[Ij #[Y ⟨#[]⟩,U O 0,U O 0,U O 0,Ia false],Ia false]) ?_ rfl ⟨by rw[HO.out.1,HO.out.2];rfl,?_⟩
  .simp[results,Tryz.results67,go_sem,r0,r1,r2,r3,r4]
  exact((((HB.out.setCell (p:=⟨w.heap.size+1,0,be⟩) (by simp) _).setCell (p:=⟨w.heap.size+1,1,be⟩) (by simp) _).setCell (p:=⟨w.heap.size+1,2,be⟩) (by simp) _).setCell (p:=⟨w.heap.size+1,3,be⟩) (by simp) _).setCell (p:=⟨w.heap.size+1,4,be⟩) (by simp) _
 .have HO:Hid (eF ms t=ms.getD i dm/\(cv ms t).isSome=true):=⟨hU HF.out,by rw[HF.out];rfl⟩
  obtain⟨pa',ca,he,_,ha⟩:=HM1.out;simp only[Value.slice.injEq] at he;obtain⟨rfl,hN,rfl⟩:=he;obtain⟨b2,off,xt,Dd,hr⟩:∃b off,pm=AI ⟨b,off,be⟩/\b<w1.heap.size/\Row w1 b off ms:=by
   rcases ha with h|h
   .rw[h] at hN;simp at hN;omega
   .exact h
  subst xt;obtain⟨c0,c1,c2,c3,c4⟩:=hr i (by omega);clear hr hN ha HF;generalize ms.getD i dm=mk at *;obtain⟨mn,st,lf,ad,sv⟩:=mk;simp only at c0 c1 c2 c3 c4;go_wp2_with fail;refine IK (v:=Ik #[Ij #[Y mn,U O st,U O lf,U O ad,Ia sv],Ia true]) ?_ rfl ⟨by rw[HO.out.1,HO.out.2],?_⟩
  .simp[results,Tryz.results67,go_sem,r0,r1,r2,r3,r4]
  exact((((HB.out.setCell (p:=⟨w.heap.size+1,0,be⟩) (by simp) _).setCell (p:=⟨w.heap.size+1,1,be⟩) (by simp) _).setCell (p:=⟨w.heap.size+1,2,be⟩) (by simp) _).setCell (p:=⟨w.heap.size+1,3,be⟩) (by simp) _).setCell (p:=⟨w.heap.size+1,4,be⟩) (by simp) _
def dP(ms:List Mem)(r:bE):Bool:=match cv ms r.m.name with
 |none=>true
 |some k=>bT r.m k==0&&eb r.m k
theorem zB(b:Nat)(pm:Option Addr)(nm cm:Nat)(ms:List Mem)(r:bE)(w:World)(hc:w.cell? ⟨b,2,be⟩=AI (J pm nm cm))(hm:Sl w (J pm nm cm) ms)(hn:nm<=1000)(hr:r.m.name.size<=Il) :
 Calls AS 103 #[Ie (AI ⟨b,0,be⟩),Ij #[Y r.m.name,U O r.m.state,U O r.m.aJ,U O r.m.addr,Ia r.m.server,U O r.told]] w λe w'=>e=AT (Ia (dP ms r))/\Below w.heap.size w w':=by
 have hb:=Iy w _ hc;have HS:Hid (∀m,cv ms r.m.name=AI m->m.name.size<=Il):=λm h=>by
  obtain⟨a,c,he,hs,_⟩:=hm;exact dy hs m (j9 h).1
 have HD:Hid (dP ms r=match cv ms r.m.name with
  |none=>true
  |some k=>bT r.m k==0&&eb r.m k):=rfl
 generalize dP ms r=res at *;obtain⟨W,hW,rL,-,hg⟩:=bY w #[Y r.m.name,U O r.m.state,U O r.m.aJ,U O r.m.addr,Ia r.m.server,U O r.told] 111;have HCW:Hid (Calls AS 67 #[Ie (AI ⟨b,0,be⟩),Y r.m.name] W λe w'=>e=AT (Ik #[Ij #[Y (eF ms r.m.name).name,U O (eF ms r.m.name).state,U O (eF ms r.m.name).aJ,U O (eF ms r.m.name).addr,Ia (eF ms r.m.name).server],Ia (cv ms r.m.name).isSome])/\Below W.heap.size W w'):=
  jc b pm nm cm ms r.m.name W (by rw[rL.cell (p:=⟨b,2,be⟩) hb];exact hc) (hm.below rL) hn
 have x0:=ae hg 0;have MN:W.heap.size=w.heap.size+1:=by rw[hW];simp
 clear hc hm;go_enter Tryz.func103,Tryz.ntmps103;go_wp2_with fail;rw[<- hW];clear hW;refine HCW.out.mono ?_;rintro e w1 ⟨rfl,aB⟩;have cO:=(aB.block _ (by omega)).trans hg;have y0:=ae cO 0;have y1:=ae cO 1;have y2:=ae cO 2;have y3:=ae cO 3;have y4:=ae cO 4;have ft:=(BY.1 cO).1;have ba:Hid _:=rL.trans (aB.mono (by omega));clear aB cO hg rL HCW x0;rcases hf:cv ms r.m.name with _|k
 .have HR:Hid _:=HD.out.trans (by rw[hf])
  have Hx:=tu hf;rw[Hx];clear hf Hx;go_wp2_with fail;go_ret;exact⟨aW HR.out.symm,ba.out.alloc ba.out.size _⟩
 .have HR:Hid (res=(bT r.m k==0&&eb r.m k)):=HD.out.trans (by rw[hf])
  have hk:=HS.out k hf;have Hx:eF ms r.m.name=k:=hU hf;rw[Hx];clear hf Hx;have HN:Hid (∀W,Calls AS 162 #[Ij #[Y r.m.name,U O r.m.state,U O r.m.aJ,U O r.m.addr,Ia r.m.server],Ij #[Y k.name,U O k.state,U O k.aJ,U O k.addr,Ia k.server]] W λe w'=>e=AT (Ik #[Ia (bT r.m k==0&&eb r.m k),U O (bT r.m k)])/\Below W.heap.size W w'):=λW=>oL r.m k W hr hk;generalize(bT r.m k==0&&eb r.m k)=q at *;go_wp2_with fail;refine(HN.out _).mono ?_;rintro e w2 ⟨rfl,aK⟩;have bu:Hid (Below w.heap.size w w2):=(ba.out.alloc ba.out.size _).trans (aK.mono (by have:=ba.out.size;simp;omega));clear aK;go_wp2_with fail;go_ret;exact⟨aW HR.out.symm,bu.out⟩
theorem Bz(b:Nat)(pm:Option Addr)(nm cm:Nat)(ms:List Mem)(rs:List bE)(v:Value)(w:World)(hv:mR w v rs)(hc:w.cell? ⟨b,2,be⟩=AI (J pm nm cm))(hm:Sl w (J pm nm cm) ms)(hn:nm<=1000)(zx:rs.length<=1000) :
 Calls AS 131 #[v,IT (.func 103) #[Ie (AI ⟨b,0,be⟩)] #[]] w λe w'=>
  ((e=AT (U O (-1))/\Hid (rs.any (dP ms)=false))\/(∃i:Nat,i<rs.length/\e=AT (U O i)/\Hid (rs.any (dP ms)=true)))/\Below w.heap.size w w':=by
 obtain⟨pa,ca,rfl,hs,ha⟩:=hv;have hb:=Iy w _ hc;have HA:Hid _:=ha;have HS:Hid _:=hs;have HI:Hid (∀W,Below w.heap.size w W->∀r:bE,r.m.name.size<=Il->Calls AS 103 #[Ie (AI ⟨b,0,be⟩),Ij #[Y r.m.name,U O r.m.state,U O r.m.aJ,U O r.m.addr,Ia r.m.server,U O r.told]] W λe w'=>e=AT (Ia (dP ms r))/\Below W.heap.size W w'):=λW hW r hr=>
  zB b pm nm cm ms r W (by rw[hW.cell (p:=⟨b,2,be⟩) hb];exact hc) (hm.below hW) hn hr
 clear ha hs hc hm;generalize hN:rs.length=n at *;have HN:Hid _:=hN;clear hN;go_enter Tryz.func131,Tryz.ntmps131;go_wp2_with fail;go_loopw [8] (λi wr=>∃k:Nat,k<=n/\i=U O k/\Hid (∀j,j<k->dP ms (rs.getD j dr)=false)/\Hid (Below w.heap.size w wr)) (λi _=>n-(intOf i).toNat)
 case atStart=>exact⟨0,IP _,rfl,λj hj=>by omega,Ib _ _⟩
 case round=>
  obtain⟨k,hk,rfl,HZ,HB⟩:=hrel;by_cases aX:k<n
  .obtain⟨b2,off,xt,Dd,hr⟩:∃b off,pa=AI ⟨b,off,be⟩/\b<w.heap.size/\mS w b off rs:=by
    rcases HA.out with h|h
    .have:=HN.out;rw[h] at this;simp at this;omega
    .exact h
   subst xt;obtain⟨c0,c1,c2,c3,c4,c5⟩:=hr.below HB.out Dd k (by rw[HN.out];exact aX);clear hr;have cZ:=HS.out k;have HY:Hid (dP ms (rs.getD k dr)=true->rs.any (dP ms)=true):=λh=>by
    rw[show rs.getD k dr=rs[k]'(by rw[HN.out];exact aX) by simp[Ip,If (show k<rs.length by rw[HN.out];exact aX)]] at h;exact Qg.2 ⟨_,IJ _,h⟩
   have lP:Hid (dP ms (rs.getD k dr)=false->∀j,j<k+1->dP ms (rs.getD j dr)=false):=λh j hj=>by
    by_cases e:j=k
    .subst e;exact h
    .exact HZ.out j (by omega)
   have HF:Hid (∀W,Below w.heap.size w W->Calls _ _ _ _ _):=λW hW=>HI.out W hW _ cZ;generalize hah:dP ms (rs.getD k dr)=ah at *;clear hah;generalize rs.getD k dr=rk at *;obtain⟨⟨mn,st,lf,ad,sv⟩,td⟩:=rk;simp only at c0 c1 c2 c3 c4 c5 HF;clear HZ;have cI:=HB.out.size;cases ah
   .have qK:Hid _:=lP.out rfl
    clear HY lP;go_wp2_with fail;refine(HF.out _ HB.out).mono ?_;rintro e w1 ⟨rfl,aB⟩;have ba:Hid _:=HB.out.trans (aB.mono cI);clear aB;go_wp2_with fail;go_roundw
    case rel=>exact⟨k+1,by omega,by go_num,qK,ba⟩
    case measure=>simp[intOf];omega
   .have HR:Hid _:=HY.out rfl
    clear HY lP;go_wp2_with fail;refine(HF.out _ HB.out).mono ?_;rintro e w1 ⟨rfl,aB⟩;have ba:Hid _:=HB.out.trans (aB.mono cI);clear aB;go_wp2_with fail;go_ret;exact⟨.inr ⟨k,aX,rfl,HR⟩,ba.out⟩
  .have qK:Hid (rs.any (dP ms)=false):=by
    rcases h:rs.any (dP ms) with _|_
    .rfl
    .obtain⟨r,hr,h2⟩:=Qg.1 h
     obtain⟨j,hj,rfl⟩:=List.getElem_of_mem hr;have h3:=HZ.out j (by have:=HN.out;omega);rw[show rs.getD j dr=rs[j] by simp[Ip,If hj],h2] at h3;cases h3
   clear HZ;go_wp2_with fail;go_ret;exact⟨.inl ⟨rfl,qK⟩,HB.out⟩
theorem xy(b:Nat)(pm:Option Addr)(nm cm:Nat)(ms:List Mem)(rs:List bE)(v:Value)(w:World)(hv:mR w v rs)(hc:w.cell? ⟨b,2,be⟩=AI (J pm nm cm))(hm:Sl w (J pm nm cm) ms)(hn:nm<=1000)(zx:rs.length<=1000) :
 Calls AS 102 #[v,IT (.func 103) #[Ie (AI ⟨b,0,be⟩)] #[]] w λe w'=>e=AT (Ia (rs.any (dP ms)))/\Below w.heap.size w w':=by
 have HI:Hid (Calls AS 131 #[v,IT (.func 103) #[Ie (AI ⟨b,0,be⟩)] #[]] w λe w'=>
  ((e=AT (U O (-1))/\Hid (rs.any (dP ms)=false))\/(∃i:Nat,i<rs.length/\e=AT (U O i)/\Hid (rs.any (dP ms)=true)))/\Below w.heap.size w w'):=Bz b pm nm cm ms rs v w hv hc hm hn zx
 clear hv hc hm;generalize rs.any (dP ms)=q at *;go_enter Tryz.func102,Tryz.ntmps102;go_wp2_with fail;refine HI.out.mono ?_;rintro e w1 ⟨Mh,aB⟩;have HB:Hid _:=aB;clear aB;rcases Mh with⟨rfl,HF⟩|⟨i,hi,rfl,HF⟩
 .go_wp2_with fail
  go_ret;exact⟨aW HF.out.symm,HB.out⟩
 .go_wp2_with fail
  go_ret;exact⟨aW HF.out.symm,HB.out⟩
end Go.Proofs.YtfidhgjmifendaaGreatDoor
namespace Go.Proofs.YtfidhgjmifendaaGreatDoor
namespace Gw
open Go.RowKit
theorem kb(a b:List bL)(va vb:Value)(pb cap:Nat)(w:World)(ha:Sl w va a)(hb:Sl w vb b)(hpb:pb<w.heap.size)(hc0:w.cell? ⟨pb,0,be⟩=AI va)(hc1:w.cell? ⟨pb,1,be⟩=AI vb) :
 Calls AS 110 #[J (AI ⟨pb,0,be⟩) 2 cap] w λe w'=>∃v',e=AT (Ik #[v',U O (aE a b)])/\Below w.heap.size w w' /\
  (aE a b≠0->v'=J be 0 0)/\(aE a b=0->Own w.heap.size w' v' (av a b)):=by
 by_cases h0:aP a b=0
 .refine(lj a b va vb pb cap w ha hb hpb hc0 hc1 h0).mono ?_
  rintro e w' ⟨v',rfl,h1,h2,h3⟩;have hE:aE a b=if 6<(av a b).length then 2 else 0:=if_pos h0;refine⟨v',rfl,h1,λaQ=>h2 ?_,λhz=>h3 ?_⟩
  .rw[hE] at aQ;split at aQ
   .assumption
   .exact absurd rfl aQ
  .rw[hE] at hz;split at hz
   .cases hz
   .omega
 .refine(mT a b va vb pb cap w ha hb hpb hc0 hc1 h0).mono ?_
  rintro e w' ⟨rfl,h1⟩;have hE:aE a b=aP a b:=if_neg h0;exact⟨_,rfl,h1,λ_=>rfl,λhz=>absurd (hE▸hz) h0⟩
theorem qX(a b:List bL)(va vb:Value)(w:World)(ha:Sl w va a)(hb:Sl w vb b) :
 Calls AS 65 #[va,vb] w λe w'=>∃v',e=AT (Ik #[v',U O (aE a b)])/\Below w.heap.size w w' /\
  (aE a b≠0->v'=J be 0 0)/\(aE a b=0->Own w.heap.size w' v' (av a b)):=by
 have HA:=ha;have HB:=hb;obtain⟨pa,ca,rfl,_,_⟩:=ha;obtain⟨pv,cb,rfl,_,_⟩:=hb;have bO:Below w.heap.size w (w.alloc (By #[J pa a.length ca,J pv b.length cb] 37)):=(Ib _ _).alloc (Ic _) _;have GG:Hid (Sl _ _ _):=HA.below bO;have GH:Hid (Sl _ _ _):=HB.below bO;clear HA HB;generalize a.length=na at *;generalize b.length=nb at *;go_enter Tryz.func65,Tryz.ntmps65;go_wp2_with fail;refine(kb a b (J pa na ca) (J pv nb cb) w.heap.size 2 _ GG.out GH.out (by simp) (ae (Ih w _) 0) (ae (Ih w _) 1)).mono ?_;rintro e w2 ⟨v',rfl,h1,h2,h3⟩;have H2:Hid _:=h2;have H3:Hid _:=h3;clear h2 h3;go_wp2_with fail;go_ret2;exact⟨v',rfl,bO.trans (h1.mono (by simp)),H2.out,λh=>(H3.out h).mono (by simp)⟩
theorem oN{a b:List bL}(h:bl a≠0):aE a b=bl a:=by
 have:aP a b=bl a:=if_neg h
 rw[aE,this,if_neg h]
theorem lV{a b:List bL}(h:bl a=0)(h2:bl b≠0):aE a b=bl b:=by
 have:aP a b=bl b:=if_pos h
 rw[aE,this,if_neg h2]
theorem iF{a b:List bL}(h:bl a=0)(h2:bl b=0):aE a b=if 6<(av a b).length then 2 else 0:=by
 have:aP a b=0:=(if_pos h).trans h2
 rw[aE,if_pos this]
section
open Go.ChangeShapes Go.WideShapes Go.ChangeAt
variable {H:Type} {enc:TypeId × Value→H} {w:World} {base:Nat} {spare:Nat→Bool} {held:Bool}
end
end Gw
namespace Gw
open Go.RowKit
def eC(ms:List bL)(p:Nat)(f:Bool):bL:=if f=true then ms.getD p dm else dm
theorem nM(ms:List bL)(v:Value)(name:ByteArray)(w:World)(h:Sl w v ms)(hn:ms.length<=6)(hr:bp ms) :
 aI 241 #[v,Y name] w λe w'=>∃(p:Nat) (f:Bool),e=AT (Ik #[Ij #[Y (eC ms p f).aD,U O (eC ms p f).addr,U O (eC ms p f).version],Ia f])/\Below w.heap.size w w'/\At ms ⟨name,0,0⟩ p f:=by
 obtain⟨W0,bN,bO,eK,dI⟩:=bY w #[Y ⟨#[]⟩,U O 0,U O 0] 77;have HV:Hid (Sl W0 v ms):=h.below bO;have HF:Hid (aI 215 #[v,Ij #[Y name,U O 0,U O 0],IT (.func 160) #[] #[]] W0 λe w'=>∃(p:Nat) (f:Bool),e=AT (Ik #[U O p,Ia f])/\Below W0.heap.size W0 w'/\At ms ⟨name,0,0⟩ p f):=
  fu ms v ⟨name,0,0⟩ W0 HV.out (by omega) hr
 have tj:Hid _:=bN;clear bN h hr;go_enter Tryz.func241,Tryz.ntmps241;go_wp2_with fail;rw[<- tj.out];refine HF.out.mono ?_;rintro e w1 ⟨p,f,rfl,aB,cH⟩;have gj:Hid _:=cH;have V5:Hid (Sl w1 v ms):=HV.out.below aB;have ft:=aB.size;have ba:Hid _:=bO.trans (aB.mono (by omega));have cO:=(aB.block w.heap.size (by omega)).trans dI;have t0:w1.cell? ⟨w.heap.size,0,be⟩=AI (Y ⟨#[]⟩):=ae cO 0;have t1:w1.cell? ⟨w.heap.size,1,be⟩=AI (U O 0):=ae cO 1;have t2:w1.cell? ⟨w.heap.size,2,be⟩=AI (U O 0):=ae cO 2;have rI:∀o,w1.frozen? ⟨w.heap.size,o,be⟩=false:=λo=>by simp[Is,cO]
 have aX:w.heap.size<w1.heap.size:=by omega
 clear cH HF HV dI cO bO aB tj eK ft;cases f
 .go_wp2_with fail
  exact IK (v:=Ik #[Ij #[Y ⟨#[]⟩,U O 0,U O 0],Ia false]) (by simp[results,Tryz.results241,go_sem,t0,t1,t2]) rfl ⟨p,false,rfl,(((ba.out.setCell (p:=⟨w.heap.size,0,be⟩) (Ic _) _).setCell (p:=⟨w.heap.size,1,be⟩) (Ic _) _).setCell (p:=⟨w.heap.size,2,be⟩) (Ic _) _),gj.out⟩
 .have hp:=(gj.out.is.1 rfl).1
  obtain⟨a,cap,rfl,_,V6⟩:=V5.out;obtain⟨b,off,Ek,Bq,cR⟩:∃b off,a=AI ⟨b,off,be⟩/\b<w1.heap.size/\Row w1 b off ms:=by
   rcases V6 with h|h
   .rw[h] at hp;simp at hp
   .exact h
  subst Ek;obtain⟨c0,c1,c2⟩:=cR p hp;clear cR V6 V5;generalize hm:ms.getD p dm=m at *;have HM:Hid (eC ms p true=m):=by show eC ms p true=m;rw[eC,if_pos rfl,hm]
  clear hm;go_wp2_with fail;exact IK (v:=Ik #[Ij #[Y m.aD,U O m.addr,U O m.version],Ia true]) (by simp[results,Tryz.results241,go_sem,t0,t1,t2]) rfl ⟨p,true,by rw[HM.out],(((ba.out.setCell (p:=⟨w.heap.size,0,be⟩) (Ic _) _).setCell (p:=⟨w.heap.size,1,be⟩) (Ic _) _).setCell (p:=⟨w.heap.size,2,be⟩) (Ic _) _),gj.out⟩
end Gw
namespace Gw
open Go.RowKit
theorem aN{m:bL}(h:m.e=0):bc m.aD=true/\0<=m.addr/\m.addr<=4294967295/\1<=m.version/\m.version<=1000000:=by
 unfold bL.e at h;split at h
 .rename_i h1
  split at h
  .rename_i h2
   split at h
   .rename_i h3
    simp[within] at h2 h3;exact⟨h1,h2.1,h2.2,h3.1,h3.2⟩
   .omega
  .omega
 .omega
theorem MO{ms:List bL}(h:aU ms=0)(p:Nat)(hp:p<ms.length):(ms.getD p dm).e=0:=by
 have:=bf ms h ms[p] (IJ hp);simpa[Ip,If hp] using this
theorem pU{ms:List bL}{t:bL}(h:aU ms=0){p:Nat}{f:Bool}(cH:At ms t p f):0<=(eC ms p f).version/\(eC ms p f).version<=1000000:=by
 cases f
 .exact⟨by show(0:Int)<=0;omega,by show(0:Int)<=1000000;omega⟩
 .have:=(aN (MO h p (cH.is.1 rfl).1)).2.2.2
  rw[eC,if_pos rfl];omega
def GI(ms:List bL)(p:Nat)(f:Bool)(name:ByteArray)(addr:Int):bL:=⟨name,addr,(eC ms p f).version+1⟩
theorem El(ms:List bL)(v:Value)(name:ByteArray)(addr:Int)(w:World)(hv:Sl w v ms)(h0:bl ms=0)(hs:name.size<=Il)(p:Nat)(f:Bool)(cH:At ms ⟨name,0,0⟩ p f) :
 aI 204 #[v,Y name,U O addr] w λe w'=>∃v',e=AT (Ik #[v',U O (aE ms [GI ms p f name addr])])/\Below w.heap.size w w' /\
  (aE ms [GI ms p f name addr]≠0->v'=J be 0 0)/\(aE ms [GI ms p f name addr]=0->Own w.heap.size w' v' (av ms [GI ms p f name addr])):=by
 have he:(bl ms !=0)=false:=by simpa using h0
 have hz:=af h0;have HV:Hid (Sl w v ms):=hv;have HR:Hid (bp ms):=hz.2.1;have hlen:=hz.1;have HF:Hid _:=hz.2.2;have gj:Hid _:=cH;obtain⟨pa,ca,rfl,_,_⟩:=hv;have HG:Hid (GI ms p f name addr=⟨name,addr,(eC ms p f).version+1⟩):=rfl;generalize GI ms p f name addr=g at *;clear h0 hz cH;go_enter Tryz.func204,Tryz.ntmps204;go_wp2_with (go_at_call 100;refine(bq ms _ _ HV.out).mono ?_;rintro e w1 ⟨rfl,aB⟩);refine(nM ms _ name _ (HV.out.below aB) hlen HR.out).mono ?_;rintro e w2 ⟨p',f',rfl,aK,qY⟩;obtain⟨rfl,rfl⟩:=eN gj.out qY;have zC:=pU HF.out qY;have bu:Hid _:=aB.trans (aK.mono aB.size);have iv:=bu.out.size;have HV2:Hid (Sl _ _ _):=(HV.out.below aB).below aK;clear qY aB aK HV;generalize eC ms p f=kn at *;obtain⟨kc,ka,kv⟩:=kn;simp only at zC;obtain⟨AX,AW⟩:=zC;go_wp2_with fail;refine(kb ms [g] (J pa ms.length ca) (J (AI ⟨w2.heap.size+1+1,0,be⟩) 1 1) _ _ _ ?ha ?hb ?hpb ?hc0 ?hc1).mono ?_
 case ha=>exact HV2.out.below ((((((Ib _ _).alloc (Ic _) _).alloc (by simp) _).alloc (by simp;omega) _).alloc (by simp;omega) _))
 case hb=>
  rw[HG.out];refine oJ _ _ _ ⟨name,addr,kv+1⟩ hs ?_;refine(IE _ _ _ (by simp)).trans ?_;have h:=Ih ((w2.alloc (By #[Y kc,U O ka,U O kv] 77)).alloc (By #[Y name,U O addr,U O (kv+1)] 77)) (By #[Y name,U O addr,U O (kv+1)] 77);simpa using h
 case hpb=>simp
 case hc0=>exact(dC (by simp)).trans rfl
 case hc1=>exact(dC (by simp)).trans rfl
 rintro e w3 ⟨v',rfl,bX,pV,mU⟩;have BA:Hid _:=pV;have cJ:Hid _:=((((bu.out.alloc iv _).alloc (by simp;omega) _).alloc (by simp;omega) _).alloc (by simp;omega) _).trans (bX.mono (by simp;omega));have tv:Hid (aE ms [g]=0->Own w.heap.size w3 v' (av ms [g])):=λh=>(mU h).mono (by simp;omega);clear pV mU bX;go_wp2_with fail;go_ret2;exact⟨v',rfl,cJ.out,BA.out,tv.out⟩
end Gw
end Go.Proofs.YtfidhgjmifendaaGreatDoor
namespace Go.Proofs.YtfidhgjmifendaaGreatDoor
open Go.RowKit
abbrev dv(n:Nd)(vm vr vs vg vw:Value):Array Value:=#[Y n.name,Y n.aD,vm,vr,vs,vg,U O n.p.x,U O n.p.y,U O n.p.z,U O n.p.h,U O n.p.s,vw]
structure eY(w:World)(n:Nd)(vm vr vs vg vw:Value):Prop where
 ms:Sl w vm n.ms
 rs:mR w vr n.rs
 sv:Sv.Sl w vs n.sv
 gw:Gw.Sl w vg n.gw
 wh:Wh.Sl w vw n.wh
 name:n.name.size<=Il
 aD:n.aD.size<=Il
theorem eY.below{w w':World}{n:Nd}{vm vr vs vg vw:Value}(h:eY w n vm vr vs vg vw)(hb:Below w.heap.size w w'):eY w' n vm vr vs vg vw:=⟨h.ms.below hb,h.rs.below hb,h.sv.below hb,h.gw.below hb,h.wh.below hb,h.name,h.aD⟩
theorem tw(w:World):Sl w (J be 0 0) []:=⟨be,0,rfl,cy (λm hm=>by simp at hm),.inl rfl⟩
theorem Sv.tw(w:World):Sv.Sl w (J be 0 0) []:=⟨be,0,rfl,Sv.cy (λm hm=>by simp at hm),.inl rfl⟩
theorem Gw.tw(w:World):Gw.Sl w (J be 0 0) []:=⟨be,0,rfl,Gw.cy (λm hm=>by simp at hm),.inl rfl⟩
theorem Hy{nm:ByteArray}{wh:List Wh.bK}(h:bc nm=true):Pk.e ⟨nm,true,[],[],[],wh⟩=Wh.bl wh:=by
 unfold Pk.e;rw[if_pos (by simp[h])];rfl
theorem Em:Roomy (J be 0 0):=by unfold Roomy;exact Ic _
theorem xz(nm:ByteArray)(wh:List Wh.bK)(vw:Value)(W:World)(ME:Wh.Sl W vw wh)(cZ:nm.size<=Il)(hl:bc nm=true) :
 kL 62 #[Ij #[Y nm,Ia true,J be 0 0,J be 0 0,J be 0 0,vw]] W (U O (Wh.bl wh)):=by
 have hp:kz W ⟨nm,true,[],[],[],wh⟩ (J be 0 0) (J be 0 0) (J be 0 0) vw:=⟨tw W,Sv.tw W,Gw.tw W,ME,cZ,Em⟩;rw[<- Hy hl];exact lR ⟨nm,true,[],[],[],wh⟩ (J be 0 0) (J be 0 0) (J be 0 0) vw W hp (.inl rfl)
theorem vZ{W:World}{cs:Array Value}{t:TypeId}{g k:Nat}(hg:g=W.heap.size):((W.alloc (By cs t)).drew).cell? ⟨g,k,be⟩=cs[k]?:=by subst hg;exact ae (Ih W _) k
theorem zD(a b:ByteArray)(ha:a.size<=Il)(hb:b.size<=Il)(g c:Nat)(W:World)(h0:W.cell? ⟨g,0,be⟩=AI (Y a))(h1:W.cell? ⟨g,1,be⟩=AI (Y b)) :
 aI 34 #[J (AI ⟨g,0,be⟩) 2 c] W λe w'=>e=AT (Ia (bc a&&bc b))/\w'=W:=by
 have h:=oO [a,b] g c W (λj hj=>by
  have:j=0\/j=1:=by simp at hj;omega
  rcases this with rfl|rfl
  .exact h0
  .exact h1) (λj=>by
  match j with
  |0=>exact ha
  |1=>exact hb
  |_+2=>simp[Ip]) (by simp)
 rw[show[a,b].all bc=(bc a&&bc b) by simp] at h;exact h
theorem tz(n:Nd)(b:Nat)(vm vr vs vg vw:Value)(w:World)(h:eY w n vm vr vs vg vw)(hg:w.heap[b]?=AI (By (dv n vm vr vs vg vw) 90 (0,0))) :
 kL 55 #[Ie (AI ⟨b,0,be⟩)] w (U O n.pE):=by
 obtain⟨nm,ct,ms,rs,sv,gw,⟨px,py,pz,ph,pq⟩,wh⟩:=n;obtain⟨gQ,oz,Gy,vh,ME,cZ,Hz⟩:=h;simp only at gQ oz Gy vh ME cZ Hz hg;have hb:=(BY.1 hg).1;have HM:Hid (∀W,Below w.heap.size w W->aI _ _ _ _):=λW hW=>bq ms vm W (gQ.below hW);have jv:Hid (∀W,Below w.heap.size w W->aI _ _ _ _):=λW hW=>gh rs vr W (oz.below hW);have HS:Hid (∀W,Below w.heap.size w W->aI _ _ _ _):=λW hW=>Sv.bq sv vs W (Gy.below hW);have HG:Hid (∀W,Below w.heap.size w W->aI _ _ _ _):=λW hW=>Gw.bq gw vg W (vh.below hW);have HP:Hid (∀W,Below w.heap.size w W->aI _ _ _ _):=λW _=>lW ⟨px,py,pz,ph,pq⟩ W;have HX:Hid (∀W,Below w.heap.size w W->W.cell? ⟨b,0,be⟩=AI (Y nm)/\W.cell? ⟨b,1,be⟩=AI (Y ct)/\W.cell? ⟨b,2,be⟩=AI vm/\W.cell? ⟨b,3,be⟩=AI vr/\W.cell? ⟨b,4,be⟩=AI vs/\W.cell? ⟨b,5,be⟩=AI vg/\W.cell? ⟨b,6,be⟩=AI (U O px)/\W.cell? ⟨b,7,be⟩=AI (U O py)/\W.cell? ⟨b,8,be⟩=AI (U O pz)/\W.cell? ⟨b,9,be⟩=AI (U O ph)/\W.cell? ⟨b,10,be⟩=AI (U O pq)/\W.cell? ⟨b,11,be⟩=AI vw):=λW hW=>
  have vj:=(hW.block _ hb).trans hg
  ⟨ae vj 0,ae vj 1,ae vj 2,ae vj 3,ae vj 4,ae vj 5,ae vj 6,ae vj 7,ae vj 8,ae vj 9,ae vj 10,ae vj 11⟩
 have HE:Nd.pE ⟨nm,ct,ms,rs,sv,gw,⟨px,py,pz,ph,pq⟩,wh⟩=if(bc nm&&bc ct)=true then
  (if bl ms=0 then(if dZ rs=0 then(if Sv.bl sv=0 then(if Gw.bl gw=0 then(if ed ⟨px,py,pz,ph,pq⟩=0 then Wh.bl wh else ed ⟨px,py,pz,ph,pq⟩) else Gw.bl gw) else Sv.bl sv) else dZ rs) else bl ms) else 1:=by unfold Nd.pE;with_reducible rfl
 have HL:Hid (∀(W:World) (g:Nat),W.cell? ⟨g,0,be⟩=AI (Y nm)->W.cell? ⟨g,1,be⟩=AI (Y ct)->aI _ _ _ _):=λW g h0 h1=>zD nm ct cZ Hz g 2 W h0 h1;have HW:Hid (bc nm=true->∀W,Below w.heap.size w W->kL 62 #[Ij #[Y nm,Ia true,J be 0 0,J be 0 0,J be 0 0,vw]] W (U O (Wh.bl wh))):=λhl W hW=>xz nm wh vw W (ME.below hW) cZ hl;have pW:Hid ((bc nm&&bc ct)=true->bc nm=true):=λh=>by rw[Bool.and_eq_true] at h;exact h.1
 generalize(bc nm&&bc ct)=lb at *;generalize Nd.pE ⟨nm,ct,ms,rs,sv,gw,⟨px,py,pz,ph,pq⟩,wh⟩=res at *;generalize bl ms=m1 at *;generalize dZ rs=r1 at *;generalize Sv.bl sv=s1 at *;generalize Gw.bl gw=g1 at *;generalize ed ⟨px,py,pz,ph,pq⟩=p1 at *;generalize Wh.bl wh=wz at *;obtain⟨a5,c5,rfl,_,_⟩:=ME;generalize wh.length=n5 at *;clear gQ oz Gy vh;obtain⟨y0,y1,y2,y3,y4,y5,y6,y7,y8,y9,y10,y11⟩:=HX.out w (Ib _ _);clear hg;go_enter Tryz.func55,Tryz.ntmps55;go_wp2_with fail;go_region_held3 (λw'=>w'.cell? ⟨b,0,be⟩=AI (Y nm)/\w'.cell? ⟨b,1,be⟩=AI (Y ct)) (go_keep) (first|(go_at_call 34;refine(HL.out _ _ (vZ rfl) (vZ rfl)).mono ?_;rintro e w' ⟨rfl,rfl⟩))
 obtain⟨W0,bN⟩:∃W0,W0=(w.alloc (By #[Y nm,Y ct] 9)).drew:=⟨_,rfl⟩;have db:Hid (Below w.heap.size w W0):=by rw[bN];exact((Ib _ _).alloc (Ic _) _).drew
 rw[<- bN];clear bN HL y0 y1 y2 y3 y4 y5 y6 y7 y8 y9 y10 y11;obtain⟨y0,y1,y2,y3,y4,y5,y6,y7,y8,y9,y10,y11⟩:=HX.out W0 db.out;cases lb
 .rw[if_neg (by simp)] at HE
  have HR:Hid _:=HE;clear HE;go_wp2_with fail;go_ret;exact⟨ai HR.out.symm,db.out⟩
 rw[if_pos rfl] at HE;have HW:Hid (∀W,Below w.heap.size w W->aI _ _ _ _):=HW.out (pW.out rfl);go_wp2_with fail;refine(HM.out _ db.out).mono ?_;rintro e w1 ⟨rfl,aB⟩;have ba:Hid _:=db.out.trans (aB.mono db.out.size);clear aB y0 y1 y2 y3 y4 y5 y6 y7 y8 y9 y10 y11;obtain⟨y0,y1,y2,y3,y4,y5,y6,y7,y8,y9,y10,y11⟩:=HX.out w1 ba.out;by_cases oP:m1=0
 .rw[if_pos oP] at HE
  subst oP;go_wp2_with fail;refine(jv.out _ ba.out).mono ?_;rintro e w2 ⟨rfl,aK⟩;have bu:Hid _:=ba.out.trans (aK.mono ba.out.size);clear aK y0 y1 y2 y3 y4 y5 y6 y7 y8 y9 y10 y11;obtain⟨y0,y1,y2,y3,y4,y5,y6,y7,y8,y9,y10,y11⟩:=HX.out w2 bu.out;by_cases nN:r1=0
  .rw[if_pos nN] at HE
   subst nN;go_wp2_with fail;refine(HS.out _ bu.out).mono ?_;rintro e w3 ⟨rfl,bX⟩;have cJ:Hid _:=bu.out.trans (bX.mono bu.out.size);clear bX y0 y1 y2 y3 y4 y5 y6 y7 y8 y9 y10 y11;obtain⟨y0,y1,y2,y3,y4,y5,y6,y7,y8,y9,y10,y11⟩:=HX.out w3 cJ.out;by_cases ft:s1=0
   .rw[if_pos ft] at HE
    subst ft;go_wp2_with fail;refine(HG.out _ cJ.out).mono ?_;rintro e w4 ⟨rfl,eU⟩;have fO:Hid _:=cJ.out.trans (eU.mono cJ.out.size);clear eU y0 y1 y2 y3 y4 y5 y6 y7 y8 y9 y10 y11;obtain⟨y0,y1,y2,y3,y4,y5,y6,y7,y8,y9,y10,y11⟩:=HX.out w4 fO.out;by_cases cO:g1=0
    .rw[if_pos cO] at HE
     subst cO;go_wp2_with fail;refine(HP.out _ fO.out).mono ?_;rintro e w5 ⟨rfl,jD⟩;have iy:Hid _:=fO.out.trans (jD.mono fO.out.size);clear jD y0 y1 y2 y3 y4 y5 y6 y7 y8 y9 y10 y11;obtain⟨y0,y1,y2,y3,y4,y5,y6,y7,y8,y9,y10,y11⟩:=HX.out w5 iy.out;by_cases xt:p1=0
     .rw[if_pos xt] at HE
      subst xt;go_wp2_with fail;go_region_held3 (λw'=>w'.cell? ⟨b,0,be⟩=AI (Y nm)/\w'.cell? ⟨b,11,be⟩=AI (J a5 n5 c5)) (first|assumption|go_keep) (first|(go_at_call 62;refine(HW.out _ iy.out.drew).mono ?_;rintro e w9 ⟨rfl,uM⟩;have Mi:Hid (Below w.heap.size w w9):=iy.out.drew.trans (uM.mono iy.out.size);have hS:w9.cell? ⟨b,0,be⟩=AI (Y nm)/\w9.cell? ⟨b,11,be⟩=AI (J a5 n5 c5):=⟨(HX.out w9 Mi.out).1,(HX.out w9 Mi.out).2.2.2.2.2.2.2.2.2.2.2⟩))
      go_wp2_with fail;go_ret;exact⟨ai HE.symm,Mi.out⟩
     .have akt:(p1 !=0)=true:=by simpa using xt
      rw[if_neg xt] at HE;have HR:Hid _:=HE;clear xt HE;go_wp2_with fail;go_ret;exact⟨ai HR.out.symm,iy.out⟩
    .have aku:(g1 !=0)=true:=by simpa using cO
     rw[if_neg cO] at HE;have HR:Hid _:=HE;clear cO HE;go_wp2_with fail;go_ret;exact⟨ai HR.out.symm,fO.out⟩
   .have vt:(s1 !=0)=true:=by simpa using ft
    rw[if_neg ft] at HE;have HR:Hid _:=HE;clear ft HE;go_wp2_with fail;go_ret;exact⟨ai HR.out.symm,cJ.out⟩
  .have akv:(r1 !=0)=true:=by simpa using nN
   rw[if_neg nN] at HE;have HR:Hid _:=HE;clear nN HE;go_wp2_with fail;go_ret;exact⟨ai HR.out.symm,bu.out⟩
 .have akw:(m1 !=0)=true:=by simpa using oP
  rw[if_neg oP] at HE;have HR:Hid _:=HE;clear oP HE;go_wp2_with fail;go_ret;exact⟨ai HR.out.symm,ba.out⟩
end Go.Proofs.YtfidhgjmifendaaGreatDoor
namespace Go.Proofs.YtfidhgjmifendaaGreatDoor
namespace Sv
open Go.RowKit
theorem kb(a b:List aY)(va vb:Value)(pb cap:Nat)(w:World)(ha:Sl w va a)(hb:Sl w vb b)(hpb:pb<w.heap.size)(hc0:w.cell? ⟨pb,0,be⟩=AI va)(hc1:w.cell? ⟨pb,1,be⟩=AI vb) :
 Calls AS 109 #[J (AI ⟨pb,0,be⟩) 2 cap] w λe w'=>∃v',e=AT (Ik #[v',U O (aE a b)])/\Below w.heap.size w w' /\
  (aE a b≠0->v'=J be 0 0)/\(aE a b=0->Own w.heap.size w' v' (av a b)):=by
 by_cases h0:aP a b=0
 .refine(lj a b va vb pb cap w ha hb hpb hc0 hc1 h0).mono ?_
  rintro e w' ⟨v',rfl,h1,h2,h3⟩;have hE:aE a b=if 40<(av a b).length then 2 else 0:=if_pos h0;refine⟨v',rfl,h1,λaQ=>h2 ?_,λhz=>h3 ?_⟩
  .rw[hE] at aQ;split at aQ
   .assumption
   .exact absurd rfl aQ
  .rw[hE] at hz;split at hz
   .cases hz
   .omega
 .refine(mT a b va vb pb cap w ha hb hpb hc0 hc1 h0).mono ?_
  rintro e w' ⟨rfl,h1⟩;have hE:aE a b=aP a b:=if_neg h0;exact⟨_,rfl,h1,λ_=>rfl,λhz=>absurd (hE▸hz) h0⟩
theorem qX(a b:List aY)(va vb:Value)(w:World)(ha:Sl w va a)(hb:Sl w vb b) :
 Calls AS 64 #[va,vb] w λe w'=>∃v',e=AT (Ik #[v',U O (aE a b)])/\Below w.heap.size w w' /\
  (aE a b≠0->v'=J be 0 0)/\(aE a b=0->Own w.heap.size w' v' (av a b)):=by
 have HA:=ha;have HB:=hb;obtain⟨pa,ca,rfl,_,_⟩:=ha;obtain⟨pv,cb,rfl,_,_⟩:=hb;have bO:Below w.heap.size w (w.alloc (By #[J pa a.length ca,J pv b.length cb] 36)):=(Ib _ _).alloc (Ic _) _;have GG:Hid (Sl _ _ _):=HA.below bO;have GH:Hid (Sl _ _ _):=HB.below bO;clear HA HB;generalize a.length=na at *;generalize b.length=nb at *;go_enter Tryz.func64,Tryz.ntmps64;go_wp2_with fail;refine(kb a b (J pa na ca) (J pv nb cb) w.heap.size 2 _ GG.out GH.out (by simp) (ae (Ih w _) 0) (ae (Ih w _) 1)).mono ?_;rintro e w2 ⟨v',rfl,h1,h2,h3⟩;have H2:Hid _:=h2;have H3:Hid _:=h3;clear h2 h3;go_wp2_with fail;go_ret2;exact⟨v',rfl,bO.trans (h1.mono (by simp)),H2.out,λh=>(H3.out h).mono (by simp)⟩
theorem oN{a b:List aY}(h:bl a≠0):aE a b=bl a:=by
 have:aP a b=bl a:=if_neg h
 rw[aE,this,if_neg h]
theorem lV{a b:List aY}(h:bl a=0)(h2:bl b≠0):aE a b=bl b:=by
 have:aP a b=bl b:=if_pos h
 rw[aE,this,if_neg h2]
theorem iF{a b:List aY}(h:bl a=0)(h2:bl b=0):aE a b=if 40<(av a b).length then 2 else 0:=by
 have:aP a b=0:=(if_pos h).trans h2
 rw[aE,if_pos this]
section
open Go.ChangeShapes Go.WideShapes Go.ChangeAt
variable {H:Type} {enc:TypeId × Value→H} {w:World} {base:Nat} {spare:Nat→Bool} {held:Bool}
end
end Sv
end Go.Proofs.YtfidhgjmifendaaGreatDoor
namespace Go.Proofs.YtfidhgjmifendaaGreatDoor
open Go.RowKit
def R7(w:World)(p:Pk)(A:Array Value):Prop:=∃vm vs vg vw,A=#[Y p.cV,Ia p.whole,vm,vs,vg,vw]/\Sl w vm p.ms/\Sv.Sl w vs p.sv/\Gw.Sl w vg p.gw/\Wh.Sl w vw p.wh
end Go.Proofs.YtfidhgjmifendaaGreatDoor
namespace Go.Proofs.YtfidhgjmifendaaGreatDoor
namespace Sv
open Go.RowKit
def eC(ms:List aY)(p:Nat)(f:Bool):aY:=if f=true then ms.getD p dm else dm
theorem nM(ms:List aY)(v:Value)(node bP:ByteArray)(w:World)(h:Sl w v ms)(hn:ms.length<=40)(hr:bp ms) :
 aI 239 #[v,Y node,Y bP] w λe w'=>∃(p:Nat) (f:Bool),e=AT (Ik #[Ij #[Y (eC ms p f).node,Y (eC ms p f).bP,Y (eC ms p f).name,Y (eC ms p f).tag,U O (eC ms p f).addr,U O (eC ms p f).port,Ia (eC ms p f).an,U O (eC ms p f).version,Ia (eC ms p f).gone],Ia f])/\Below w.heap.size w w'/\At ms ⟨node,bP,⟨#[]⟩,⟨#[]⟩,0,0,false,0,false⟩ p f:=by
 obtain⟨W0,bN,bO,eK,dI⟩:=bY w #[Y ⟨#[]⟩,Y ⟨#[]⟩,Y ⟨#[]⟩,Y ⟨#[]⟩,U O 0,U O 0,Ia false,U O 0,Ia false] 46;have HV:Hid (Sl W0 v ms):=h.below bO;have HF:Hid (aI 213 #[v,Ij #[Y node,Y bP,Y ⟨#[]⟩,Y ⟨#[]⟩,U O 0,U O 0,Ia false,U O 0,Ia false],IT (.func 157) #[] #[]] W0 λe w'=>∃(p:Nat) (f:Bool),e=AT (Ik #[U O p,Ia f])/\Below W0.heap.size W0 w'/\At ms ⟨node,bP,⟨#[]⟩,⟨#[]⟩,0,0,false,0,false⟩ p f):=
  fu ms v ⟨node,bP,⟨#[]⟩,⟨#[]⟩,0,0,false,0,false⟩ W0 HV.out (by omega) hr
 have tj:Hid _:=bN;clear bN h hr;go_enter Tryz.func239,Tryz.ntmps239;go_wp2_with fail;rw[<- tj.out];refine HF.out.mono ?_;rintro e w1 ⟨p,f,rfl,aB,cH⟩;have gj:Hid _:=cH;have V5:Hid (Sl w1 v ms):=HV.out.below aB;have ft:=aB.size;have ba:Hid _:=bO.trans (aB.mono (by omega));have cO:=(aB.block w.heap.size (by omega)).trans dI;have t0:w1.cell? ⟨w.heap.size,0,be⟩=AI (Y ⟨#[]⟩):=ae cO 0;have t1:w1.cell? ⟨w.heap.size,1,be⟩=AI (Y ⟨#[]⟩):=ae cO 1;have t2:w1.cell? ⟨w.heap.size,2,be⟩=AI (Y ⟨#[]⟩):=ae cO 2;have t3:w1.cell? ⟨w.heap.size,3,be⟩=AI (Y ⟨#[]⟩):=ae cO 3;have t4:w1.cell? ⟨w.heap.size,4,be⟩=AI (U O 0):=ae cO 4;have t5:w1.cell? ⟨w.heap.size,5,be⟩=AI (U O 0):=ae cO 5;have t6:w1.cell? ⟨w.heap.size,6,be⟩=AI (Ia false):=ae cO 6;have t7:w1.cell? ⟨w.heap.size,7,be⟩=AI (U O 0):=ae cO 7;have t8:w1.cell? ⟨w.heap.size,8,be⟩=AI (Ia false):=ae cO 8;have rI:∀o,w1.frozen? ⟨w.heap.size,o,be⟩=false:=λo=>by simp[Is,cO]
 have aX:w.heap.size<w1.heap.size:=by omega
 clear cH HF HV dI cO bO aB tj eK ft;cases f
 .go_wp2_with fail
  exact IK (v:=Ik #[Ij #[Y ⟨#[]⟩,Y ⟨#[]⟩,Y ⟨#[]⟩,Y ⟨#[]⟩,U O 0,U O 0,Ia false,U O 0,Ia false],Ia false]) (by simp[results,Tryz.results239,go_sem,t0,t1,t2,t3,t4,t5,t6,t7,t8]) rfl ⟨p,false,rfl,(((((((((ba.out.setCell (p:=⟨w.heap.size,0,be⟩) (Ic _) _).setCell (p:=⟨w.heap.size,1,be⟩) (Ic _) _).setCell (p:=⟨w.heap.size,2,be⟩) (Ic _) _).setCell (p:=⟨w.heap.size,3,be⟩) (Ic _) _).setCell (p:=⟨w.heap.size,4,be⟩) (Ic _) _).setCell (p:=⟨w.heap.size,5,be⟩) (Ic _) _).setCell (p:=⟨w.heap.size,6,be⟩) (Ic _) _).setCell (p:=⟨w.heap.size,7,be⟩) (Ic _) _).setCell (p:=⟨w.heap.size,8,be⟩) (Ic _) _),gj.out⟩
 .have hp:=(gj.out.is.1 rfl).1
  obtain⟨a,cap,rfl,_,V6⟩:=V5.out;obtain⟨b,off,Ek,Bq,cR⟩:∃b off,a=AI ⟨b,off,be⟩/\b<w1.heap.size/\Row w1 b off ms:=by
   rcases V6 with h|h
   .rw[h] at hp;simp at hp
   .exact h
  subst Ek;obtain⟨c0,c1,c2,c3,c4,c5,c6,c7,c8⟩:=cR p hp;clear cR V6 V5;generalize hm:ms.getD p dm=m at *;have HM:Hid (eC ms p true=m):=by show eC ms p true=m;rw[eC,if_pos rfl,hm]
  clear hm;go_wp2_with fail;exact IK (v:=Ik #[Ij #[Y m.node,Y m.bP,Y m.name,Y m.tag,U O m.addr,U O m.port,Ia m.an,U O m.version,Ia m.gone],Ia true]) (by simp[results,Tryz.results239,go_sem,t0,t1,t2,t3,t4,t5,t6,t7,t8]) rfl ⟨p,true,by rw[HM.out],(((((((((ba.out.setCell (p:=⟨w.heap.size,0,be⟩) (Ic _) _).setCell (p:=⟨w.heap.size,1,be⟩) (Ic _) _).setCell (p:=⟨w.heap.size,2,be⟩) (Ic _) _).setCell (p:=⟨w.heap.size,3,be⟩) (Ic _) _).setCell (p:=⟨w.heap.size,4,be⟩) (Ic _) _).setCell (p:=⟨w.heap.size,5,be⟩) (Ic _) _).setCell (p:=⟨w.heap.size,6,be⟩) (Ic _) _).setCell (p:=⟨w.heap.size,7,be⟩) (Ic _) _).setCell (p:=⟨w.heap.size,8,be⟩) (Ic _) _),gj.out⟩
end Sv
end Go.Proofs.YtfidhgjmifendaaGreatDoor
