import Derived.Test.YtfidhgjmifendaaGreatDoorng10
import Derived.Test.YtfidhgjmifendaaGreatDoorng21
import Derived.Laws.EntriesVeiled
import Derived.Test.YtfidhgjmifendaaGreatDoorng22
set_option maxHeartbeats 12800000
set_option maxRecDepth 100000
open Go.Value renaming string→Y,agg→Ik,int→U,bool→Ia,pointer→If,slice→J,func→IP,tuple→Im
open Option renaming none→be,some→AI
open Go.IntKind renaming i64→O
open Go.Ending renaming returned→AT
open Go.Obj renaming cells→By
open Go.Proofs.Tryz renaming prog→AS
open Go.World renaming block_lt_of_cell?→Iy,frozen?→Is
open Go.RowKit.Below renaming refl→Ib,heap_alloc→IE
open Nat renaming le_refl→Ic,zero_le→IH
open Go renaming heap_alloc_new→Ii,bodyPost_ret→IL,maxLen→Io
open Array renaming getElem?_eq_some_iff→BY
open List renaming getD→Iq,getElem?_eq_getElem→Ie,any_eq_true→Qg,getElem_mem→IG
namespace Go.Proofs.YtfidhgjmifendaaGreatDoor
open Go.RowKit
theorem D1(m:Mem)(nb:Nat)(nm:ByteArray)(w:World)(h:w.cell? ⟨nb,0,be⟩=AI (Y nm)) :
 Calls AS 114 #[Ik #[Y m.name,U O m.state,U O m.aM,U O m.addr,Ia m.server],If (AI ⟨nb,0,be⟩)] w λe w'=>e=AT (Ia (decide (m.name=nm)))/\w'=w.alloc (By #[Y m.name,U O m.state,U O m.aM,U O m.addr,Ia m.server] 50):=by
 have hb:=Iy w _ h;have h2:∀ob,(w.alloc ob).cell? ⟨nb,0,be⟩=AI (Y nm):=λob=>by
  rw[((Ib w.heap.size w).alloc (Ic _) ob).cell (p:=⟨nb,0,be⟩) hb];exact h
 obtain⟨mn,st,lf,ad,sv⟩:=m;go_enter Tryz.func114,Tryz.ntmps114;go_wp2_with fail;go_ret;exact⟨aL (jy _ _),rfl⟩
theorem Bj(ms:List Mem)(pa:Option Addr)(n c nb:Nat)(nm:ByteArray)(w:World)(hv:Sl w (J pa n c) ms)(yQ:n<=1000)(ht:w.cell? ⟨nb,0,be⟩=AI (Y nm)) :
 Calls AS 115 #[J pa n c,IP (.func 114) #[] #[If (AI ⟨nb,0,be⟩)]] w λe w'=>
  ((e=AT (U O (-1))/\Hid (cK ms nm=be))\/(∃i:Nat,i<n/\e=AT (U O i)/\Hid (cK ms nm=AI (ms.getD i dm))))/\Below w.heap.size w w':=by
 obtain⟨pa',ca,he,_,ha⟩:=hv;simp only[Value.slice.injEq] at he;obtain⟨rfl,hN,rfl⟩:=he;have HA:Hid _:=ha;have HN:Hid _:=hN.symm;have HT:Hid _:=ht;have Sb:=Iy w _ ht;clear ha hN ht;go_enter Tryz.func115,Tryz.ntmps115;go_wp2_with fail;go_loopw [8] (λi wr=>∃k:Nat,k<=n/\i=U O k/\Hid (∀j,j<k->(ms.getD j dm).name≠nm)/\Hid (Below w.heap.size w wr)) (λi _=>n-(intOf i).toNat)
 case atStart=>exact⟨0,IH _,rfl,λj hj=>by omega,Ib _ _⟩
 case round=>
  obtain⟨k,hk,rfl,HZ,HB⟩:=hrel;by_cases aR:k<n
  .obtain⟨b,off,sX,Av,hr⟩:∃b off,pa=AI ⟨b,off,be⟩/\b<w.heap.size/\Row w b off ms:=by
    rcases HA.out with h|h
    .have:=HN.out;rw[h] at this;simp at this;omega
    .exact h
   subst sX;obtain⟨c0,c1,c2,c3,c4⟩:=hr.later HB.out Av k (by rw[HN.out];exact aR);clear hr;have MF:wr.cell? ⟨nb,0,be⟩=AI (Y nm):=by rw[HB.out.cell (p:=⟨nb,0,be⟩) Sb];exact HT.out
   have HY:Hid ((ms.getD k dm).name=nm->cK ms nm=AI (ms.getD k dm)):=λh=>nr (by rw[HN.out];exact aR) HZ.out h;have ly:Hid ((ms.getD k dm).name≠nm->∀j,j<k+1->(ms.getD j dm).name≠nm):=λh j hj=>by
    by_cases e:j=k
    .subst e;exact h
    .exact HZ.out j (by omega)
   have hF:=λw h=>D1 (ms.getD k dm) nb nm w h;by_cases hkp:(ms.getD k dm).name=nm
   .have HF:Hid _:=HY.out hkp
    rw[decide_eq_true hkp] at hF;clear hkp ly HY;generalize Sc:ms.getD k dm=mk at *;have HMK:Hid _:=Sc;clear Sc;obtain⟨mn,st,lf,ad,sv⟩:=mk;simp only at c0 c1 c2 c3 c4 hF;go_wp2_with fail;refine(hF _ MF).mono ?_;rintro e w1 ⟨rfl,rfl⟩;go_wp2_with fail;go_ret;exact⟨.inr ⟨k,aR,rfl,by rw[HMK.out];exact HF⟩,HB.out.alloc HB.out.size _⟩
   .have pZ:Hid _:=ly.out hkp
    rw[decide_eq_false hkp] at hF;clear hkp ly HY HZ;generalize ms.getD k dm=mk at *;obtain⟨mn,st,lf,ad,sv⟩:=mk;simp only at c0 c1 c2 c3 c4 hF;go_wp2_with fail;refine(hF _ MF).mono ?_;rintro e w1 ⟨rfl,rfl⟩;go_wp2_with fail;go_roundw
    case rel=>exact⟨k+1,by omega,by go_num,pZ,HB.out.alloc HB.out.size _⟩
    case measure=>simp[intOf];omega
  .have pZ:Hid _:=qu λj hj=>HZ.out j (by have:=HN.out;omega)
   clear HZ;go_wp2_with fail;go_ret;exact⟨.inl ⟨rfl,pZ⟩,HB.out⟩
theorem kO{ms:List Mem}{t:ByteArray}{m:Mem}(h:cK ms t=AI m):fc ms t=m:=by unfold fc;rw[h];rfl
theorem tf{ms:List Mem}{t:ByteArray}(h:cK ms t=be):fc ms t=dm:=by unfold fc;rw[h];rfl
theorem iP(b:Nat)(pm:Option Addr)(nm cm:Nat)(ms:List Mem)(t:ByteArray)(w:World)(hc:w.cell? ⟨b,2,be⟩=AI (J pm nm cm))(hm:Sl w (J pm nm cm) ms)(hn:nm<=1000) :
 Calls AS 67 #[If (AI ⟨b,0,be⟩),Y t] w λe w'=>e=AT (Im #[Ik #[Y (fc ms t).name,U O (fc ms t).state,U O (fc ms t).aM,U O (fc ms t).addr,Ia (fc ms t).server],Ia (cK ms t).isSome])/\Below w.heap.size w w':=by
 have HM:Hid (Sl _ _ _):=hm;have hb:=Iy w _ hc;have HC:Hid _:=hc;clear hm;obtain⟨W,hW⟩:∃W,W=(w.alloc (By #[Y t] 9)).alloc (By #[Y ⟨#[]⟩,U O 0,U O 0,U O 0,Ia false] 50):=⟨_,rfl⟩;have qV:Below w.heap.size w W:=by rw[hW];exact((Ib _ _).alloc (Ic _) _).alloc (by simp) _
 have cI:W.heap[w.heap.size]?=AI (By #[Y t] 9 (0,0)):=by
  rw[hW,IE _ _ _ (by simp)];exact Ii w _
 have dS:W.heap[w.heap.size+1]?=AI (By #[Y ⟨#[]⟩,U O 0,U O 0,U O 0,Ia false] 50 (0,0)):=by
  have h:=Ii (w.alloc (By #[Y t] 9)) (By #[Y ⟨#[]⟩,U O 0,U O 0,U O 0,Ia false] 50);rw[hW];simpa using h
 have MH:W.heap.size=w.heap.size+2:=by rw[hW];simp
 go_enter Tryz.func67,Tryz.ntmps67;go_wp2_with fail;rw[<- hW];clear hW;refine(Bj ms pm nm cm _ t W (HM.out.below qV) hn (ae cI 0)).mono ?_;rintro e w1 ⟨LZ,aB⟩;have h2:=(aB.block _ (by omega)).trans dS;have HB:Hid _:=qV.trans (aB.mono (by omega));have HM1:Hid (Sl _ _ _):=HM.out.below HB.out;have d2:w1.cell? ⟨b,2,be⟩=AI (J pm nm cm):=by rw[HB.out.cell (p:=⟨b,2,be⟩) hb];exact HC.out
 have r0:=ae h2 0;have r1:=ae h2 1;have r2:=ae h2 2;have r3:=ae h2 3;have r4:=ae h2 4;have z0:w1.frozen? ⟨w.heap.size+1,0,be⟩=false:=by simp[Is,h2]
 have z1:w1.frozen? ⟨w.heap.size+1,1,be⟩=false:=by simp[Is,h2]
 have z2:w1.frozen? ⟨w.heap.size+1,2,be⟩=false:=by simp[Is,h2]
 have z3:w1.frozen? ⟨w.heap.size+1,3,be⟩=false:=by simp[Is,h2]
 have z4:w1.frozen? ⟨w.heap.size+1,4,be⟩=false:=by simp[Is,h2]
 have ny:=(BY.1 h2).1;clear qV cI dS aB h2 MH hc;rcases LZ with⟨rfl,HF⟩|⟨i,hi,rfl,HF⟩
 .have HO:Hid (fc ms t=dm/\(cK ms t).isSome=false):=⟨tf HF.out,by rw[HF.out];rfl⟩
  go_wp2_with fail;refine IL (v:=Im #[Ik #[Y ⟨#[]⟩,U O 0,U O 0,U O 0,Ia false],Ia false]) ?_ rfl ⟨by rw[HO.out.1,HO.out.2];rfl,?_⟩
  .simp[results,Tryz.results67,go_sem,r0,r1,r2,r3,r4]
  exact((((HB.out.setCell (p:=⟨w.heap.size+1,0,be⟩) (by simp) _).setCell (p:=⟨w.heap.size+1,1,be⟩) (by simp) _).setCell (p:=⟨w.heap.size+1,2,be⟩) (by simp) _).setCell (p:=⟨w.heap.size+1,3,be⟩) (by simp) _).setCell (p:=⟨w.heap.size+1,4,be⟩) (by simp) _
 .have HO:Hid (fc ms t=ms.getD i dm/\(cK ms t).isSome=true):=⟨kO HF.out,by rw[HF.out];rfl⟩
  obtain⟨pa',ca,he,_,ha⟩:=HM1.out;simp only[Value.slice.injEq] at he;obtain⟨rfl,hN,rfl⟩:=he;obtain⟨b2,off,sX,Av,hr⟩:∃b off,pm=AI ⟨b,off,be⟩/\b<w1.heap.size/\Row w1 b off ms:=by
   rcases ha with h|h
   .rw[h] at hN;simp at hN;omega
   .exact h
  subst sX;obtain⟨c0,c1,c2,c3,c4⟩:=hr i (by omega);clear hr hN ha HF;generalize ms.getD i dm=mk at *;obtain⟨mn,st,lf,ad,sv⟩:=mk;simp only at c0 c1 c2 c3 c4;go_wp2_with fail;refine IL (v:=Im #[Ik #[Y mn,U O st,U O lf,U O ad,Ia sv],Ia true]) ?_ rfl ⟨by rw[HO.out.1,HO.out.2],?_⟩
  .simp[results,Tryz.results67,go_sem,r0,r1,r2,r3,r4]
  exact((((HB.out.setCell (p:=⟨w.heap.size+1,0,be⟩) (by simp) _).setCell (p:=⟨w.heap.size+1,1,be⟩) (by simp) _).setCell (p:=⟨w.heap.size+1,2,be⟩) (by simp) _).setCell (p:=⟨w.heap.size+1,3,be⟩) (by simp) _).setCell (p:=⟨w.heap.size+1,4,be⟩) (by simp) _
def dL(ms:List Mem)(r:bK):Bool:=match cK ms r.m.name with
 |none=>true
 |some k=>bN r.m k==0&&eH r.m k
theorem yU(b:Nat)(pm:Option Addr)(nm cm:Nat)(ms:List Mem)(r:bK)(w:World)(hc:w.cell? ⟨b,2,be⟩=AI (J pm nm cm))(hm:Sl w (J pm nm cm) ms)(hn:nm<=1000)(hr:r.m.name.size<=Io) :
 Calls AS 103 #[If (AI ⟨b,0,be⟩),Ik #[Y r.m.name,U O r.m.state,U O r.m.aM,U O r.m.addr,Ia r.m.server,U O r.told]] w λe w'=>e=AT (Ia (dL ms r))/\Below w.heap.size w w':=by
 have hb:=Iy w _ hc;have HS:Hid (∀m,cK ms r.m.name=AI m->m.name.size<=Io):=λm h=>by
  obtain⟨a,c,he,hs,_⟩:=hm;exact dt hs m (pc h).1
 have HD:Hid (dL ms r=match cK ms r.m.name with
  |none=>true
  |some k=>bN r.m k==0&&eH r.m k):=rfl
 generalize dL ms r=res at *;obtain⟨W,hW,qV,-,hg⟩:=bV w #[Y r.m.name,U O r.m.state,U O r.m.aM,U O r.m.addr,Ia r.m.server,U O r.told] 111;have HCW:Hid (Calls AS 67 #[If (AI ⟨b,0,be⟩),Y r.m.name] W λe w'=>e=AT (Im #[Ik #[Y (fc ms r.m.name).name,U O (fc ms r.m.name).state,U O (fc ms r.m.name).aM,U O (fc ms r.m.name).addr,Ia (fc ms r.m.name).server],Ia (cK ms r.m.name).isSome])/\Below W.heap.size W w'):=
  iP b pm nm cm ms r.m.name W (by rw[qV.cell (p:=⟨b,2,be⟩) hb];exact hc) (hm.below qV) hn
 have x0:=ae hg 0;have MH:W.heap.size=w.heap.size+1:=by rw[hW];simp
 clear hc hm;go_enter Tryz.func103,Tryz.ntmps103;go_wp2_with fail;rw[<- hW];clear hW;refine HCW.out.mono ?_;rintro e w1 ⟨rfl,aB⟩;have cI:=(aB.block _ (by omega)).trans hg;have y0:=ae cI 0;have y1:=ae cI 1;have y2:=ae cI 2;have y3:=ae cI 3;have y4:=ae cI 4;have fh:=(BY.1 cI).1;have aY:Hid _:=qV.trans (aB.mono (by omega));clear aB cI hg qV HCW x0;rcases hf:cK ms r.m.name with _|k
 .have HR:Hid _:=HD.out.trans (by rw[hf])
  have Hq:=tf hf;rw[Hq];clear hf Hq;go_wp2_with fail;go_ret;exact⟨aL HR.out.symm,aY.out.alloc aY.out.size _⟩
 .have HR:Hid (res=(bN r.m k==0&&eH r.m k)):=HD.out.trans (by rw[hf])
  have hk:=HS.out k hf;have Hq:fc ms r.m.name=k:=kO hf;rw[Hq];clear hf Hq;have HN:Hid (∀W,Calls AS 162 #[Ik #[Y r.m.name,U O r.m.state,U O r.m.aM,U O r.m.addr,Ia r.m.server],Ik #[Y k.name,U O k.state,U O k.aM,U O k.addr,Ia k.server]] W λe w'=>e=AT (Im #[Ia (bN r.m k==0&&eH r.m k),U O (bN r.m k)])/\Below W.heap.size W w'):=λW=>nU r.m k W hr hk;generalize(bN r.m k==0&&eH r.m k)=q at *;go_wp2_with fail;refine(HN.out _).mono ?_;rintro e w2 ⟨rfl,aI⟩;have bp:Hid (Below w.heap.size w w2):=(aY.out.alloc aY.out.size _).trans (aI.mono (by have:=aY.out.size;simp;omega));clear aI;go_wp2_with fail;go_ret;exact⟨aL HR.out.symm,bp.out⟩
theorem Bk(b:Nat)(pm:Option Addr)(nm cm:Nat)(ms:List Mem)(rs:List bK)(v:Value)(w:World)(hv:mG w v rs)(hc:w.cell? ⟨b,2,be⟩=AI (J pm nm cm))(hm:Sl w (J pm nm cm) ms)(hn:nm<=1000)(yQ:rs.length<=1000) :
 Calls AS 131 #[v,IP (.func 103) #[If (AI ⟨b,0,be⟩)] #[]] w λe w'=>
  ((e=AT (U O (-1))/\Hid (rs.any (dL ms)=false))\/(∃i:Nat,i<rs.length/\e=AT (U O i)/\Hid (rs.any (dL ms)=true)))/\Below w.heap.size w w':=by
 obtain⟨pa,ca,rfl,hs,ha⟩:=hv;have hb:=Iy w _ hc;have HA:Hid _:=ha;have HS:Hid _:=hs;have HI:Hid (∀W,Below w.heap.size w W->∀r:bK,r.m.name.size<=Io->Calls AS 103 #[If (AI ⟨b,0,be⟩),Ik #[Y r.m.name,U O r.m.state,U O r.m.aM,U O r.m.addr,Ia r.m.server,U O r.told]] W λe w'=>e=AT (Ia (dL ms r))/\Below W.heap.size W w'):=λW hW r hr=>
  yU b pm nm cm ms r W (by rw[hW.cell (p:=⟨b,2,be⟩) hb];exact hc) (hm.below hW) hn hr
 clear ha hs hc hm;generalize hN:rs.length=n at *;have HN:Hid _:=hN;clear hN;go_enter Tryz.func131,Tryz.ntmps131;go_wp2_with fail;go_loopw [8] (λi wr=>∃k:Nat,k<=n/\i=U O k/\Hid (∀j,j<k->dL ms (rs.getD j dr)=false)/\Hid (Below w.heap.size w wr)) (λi _=>n-(intOf i).toNat)
 case atStart=>exact⟨0,IH _,rfl,λj hj=>by omega,Ib _ _⟩
 case round=>
  obtain⟨k,hk,rfl,HZ,HB⟩:=hrel;by_cases aR:k<n
  .obtain⟨b2,off,sX,Av,hr⟩:∃b off,pa=AI ⟨b,off,be⟩/\b<w.heap.size/\mH w b off rs:=by
    rcases HA.out with h|h
    .have:=HN.out;rw[h] at this;simp at this;omega
    .exact h
   subst sX;obtain⟨c0,c1,c2,c3,c4,c5⟩:=hr.below HB.out Av k (by rw[HN.out];exact aR);clear hr;have dy:=HS.out k;have HY:Hid (dL ms (rs.getD k dr)=true->rs.any (dL ms)=true):=λh=>by
    rw[show rs.getD k dr=rs[k]'(by rw[HN.out];exact aR) by simp[Iq,Ie (show k<rs.length by rw[HN.out];exact aR)]] at h;exact Qg.2 ⟨_,IG _,h⟩
   have ly:Hid (dL ms (rs.getD k dr)=false->∀j,j<k+1->dL ms (rs.getD j dr)=false):=λh j hj=>by
    by_cases e:j=k
    .subst e;exact h
    .exact HZ.out j (by omega)
   have HF:Hid (∀W,Below w.heap.size w W->Calls _ _ _ _ _):=λW hW=>HI.out W hW _ dy;generalize hah:dL ms (rs.getD k dr)=ah at *;clear hah;generalize rs.getD k dr=rk at *;obtain⟨⟨mn,st,lf,ad,sv⟩,td⟩:=rk;simp only at c0 c1 c2 c3 c4 c5 HF;clear HZ;have cC:=HB.out.size;cases ah
   .have pZ:Hid _:=ly.out rfl
    clear HY ly;go_wp2_with fail;refine(HF.out _ HB.out).mono ?_;rintro e w1 ⟨rfl,aB⟩;have aY:Hid _:=HB.out.trans (aB.mono cC);clear aB;go_wp2_with fail;go_roundw
    case rel=>exact⟨k+1,by omega,by go_num,pZ,aY⟩
    case measure=>simp[intOf];omega
   .have HR:Hid _:=HY.out rfl
    clear HY ly;go_wp2_with fail;refine(HF.out _ HB.out).mono ?_;rintro e w1 ⟨rfl,aB⟩;have aY:Hid _:=HB.out.trans (aB.mono cC);clear aB;go_wp2_with fail;go_ret;exact⟨.inr ⟨k,aR,rfl,HR⟩,aY.out⟩
  .have pZ:Hid (rs.any (dL ms)=false):=by
    rcases h:rs.any (dL ms) with _|_
    .rfl
    .obtain⟨r,hr,h2⟩:=Qg.1 h
     obtain⟨j,hj,rfl⟩:=List.getElem_of_mem hr;have h3:=HZ.out j (by have:=HN.out;omega);rw[show rs.getD j dr=rs[j] by simp[Iq,Ie hj],h2] at h3;cases h3
   clear HZ;go_wp2_with fail;go_ret;exact⟨.inl ⟨rfl,pZ⟩,HB.out⟩
theorem wW(b:Nat)(pm:Option Addr)(nm cm:Nat)(ms:List Mem)(rs:List bK)(v:Value)(w:World)(hv:mG w v rs)(hc:w.cell? ⟨b,2,be⟩=AI (J pm nm cm))(hm:Sl w (J pm nm cm) ms)(hn:nm<=1000)(yQ:rs.length<=1000) :
 Calls AS 102 #[v,IP (.func 103) #[If (AI ⟨b,0,be⟩)] #[]] w λe w'=>e=AT (Ia (rs.any (dL ms)))/\Below w.heap.size w w':=by
 have HI:Hid (Calls AS 131 #[v,IP (.func 103) #[If (AI ⟨b,0,be⟩)] #[]] w λe w'=>
  ((e=AT (U O (-1))/\Hid (rs.any (dL ms)=false))\/(∃i:Nat,i<rs.length/\e=AT (U O i)/\Hid (rs.any (dL ms)=true)))/\Below w.heap.size w w'):=Bk b pm nm cm ms rs v w hv hc hm hn yQ
 clear hv hc hm;generalize rs.any (dL ms)=q at *;go_enter Tryz.func102,Tryz.ntmps102;go_wp2_with fail;refine HI.out.mono ?_;rintro e w1 ⟨LZ,aB⟩;have HB:Hid _:=aB;clear aB;rcases LZ with⟨rfl,HF⟩|⟨i,hi,rfl,HF⟩
 .go_wp2_with fail
  go_ret;exact⟨aL HF.out.symm,HB.out⟩
 .go_wp2_with fail
  go_ret;exact⟨aL HF.out.symm,HB.out⟩
end Go.Proofs.YtfidhgjmifendaaGreatDoor
namespace Go.Proofs.YtfidhgjmifendaaGreatDoor
namespace Gw
open Go.RowKit
theorem jP(a b:List bC)(va vb:Value)(pb cap:Nat)(w:World)(ha:Sl w va a)(hb:Sl w vb b)(hpb:pb<w.heap.size)(hc0:w.cell? ⟨pb,0,be⟩=AI va)(hc1:w.cell? ⟨pb,1,be⟩=AI vb) :
 Calls AS 110 #[J (AI ⟨pb,0,be⟩) 2 cap] w λe w'=>∃v',e=AT (Im #[v',U O (aE a b)])/\Below w.heap.size w w' /\
  (aE a b≠0->v'=J be 0 0)/\(aE a b=0->Own w.heap.size w' v' (av a b)):=by
 by_cases h0:aO a b=0
 .refine(kN a b va vb pb cap w ha hb hpb hc0 hc1 h0).mono ?_
  rintro e w' ⟨v',rfl,h1,h2,h3⟩;have hE:aE a b=if 6<(av a b).length then 2 else 0:=if_pos h0;refine⟨v',rfl,h1,λaT=>h2 ?_,λhz=>h3 ?_⟩
  .rw[hE] at aT;split at aT
   .assumption
   .exact absurd rfl aT
  .rw[hE] at hz;split at hz
   .cases hz
   .omega
 .refine(mI a b va vb pb cap w ha hb hpb hc0 hc1 h0).mono ?_
  rintro e w' ⟨rfl,h1⟩;have hE:aE a b=aO a b:=if_neg h0;exact⟨_,rfl,h1,λ_=>rfl,λhz=>absurd (hE▸hz) h0⟩
theorem qt(a b:List bC)(va vb:Value)(w:World)(ha:Sl w va a)(hb:Sl w vb b) :
 Calls AS 65 #[va,vb] w λe w'=>∃v',e=AT (Im #[v',U O (aE a b)])/\Below w.heap.size w w' /\
  (aE a b≠0->v'=J be 0 0)/\(aE a b=0->Own w.heap.size w' v' (av a b)):=by
 have HA:=ha;have HB:=hb;obtain⟨pa,ca,rfl,_,_⟩:=ha;obtain⟨pv,cb,rfl,_,_⟩:=hb;have bM:Below w.heap.size w (w.alloc (By #[J pa a.length ca,J pv b.length cb] 37)):=(Ib _ _).alloc (Ic _) _;have Gn:Hid (Sl _ _ _):=HA.below bM;have Gp:Hid (Sl _ _ _):=HB.below bM;clear HA HB;generalize a.length=na at *;generalize b.length=nb at *;go_enter Tryz.func65,Tryz.ntmps65;go_wp2_with fail;refine(jP a b (J pa na ca) (J pv nb cb) w.heap.size 2 _ Gn.out Gp.out (by simp) (ae (Ii w _) 0) (ae (Ii w _) 1)).mono ?_;rintro e w2 ⟨v',rfl,h1,h2,h3⟩;have H2:Hid _:=h2;have H3:Hid _:=h3;clear h2 h3;go_wp2_with fail;go_ret2;exact⟨v',rfl,bM.trans (h1.mono (by simp)),H2.out,λh=>(H3.out h).mono (by simp)⟩
theorem oj{a b:List bC}(h:bj a≠0):aE a b=bj a:=by
 have:aO a b=bj a:=if_neg h
 rw[aE,this,if_neg h]
theorem lJ{a b:List bC}(h:bj a=0)(h2:bj b≠0):aE a b=bj b:=by
 have:aO a b=bj b:=if_pos h
 rw[aE,this,if_neg h2]
theorem il{a b:List bC}(h:bj a=0)(h2:bj b=0):aE a b=if 6<(av a b).length then 2 else 0:=by
 have:aO a b=0:=(if_pos h).trans h2
 rw[aE,if_pos this]
section
open Go.ChangeShapes Go.WideShapes Go.ChangeAt
variable {H:Type} {enc:TypeId × Value→H} {w:World} {base:Nat} {spare:Nat→Bool} {held:Bool}
end
end Gw
namespace Gw
open Go.RowKit
def ev(ms:List bC)(p:Nat)(f:Bool):bC:=if f=true then ms.getD p dm else dm
theorem nq(ms:List bC)(v:Value)(name:ByteArray)(w:World)(h:Sl w v ms)(hn:ms.length<=6)(hr:bl ms) :
 aF 241 #[v,Y name] w λe w'=>∃(p:Nat) (f:Bool),e=AT (Im #[Ik #[Y (ev ms p f).aC,U O (ev ms p f).addr,U O (ev ms p f).version],Ia f])/\Below w.heap.size w w'/\At ms ⟨name,0,0⟩ p f:=by
 obtain⟨W0,bA,bM,eE,dF⟩:=bV w #[Y ⟨#[]⟩,U O 0,U O 0] 77;have HV:Hid (Sl W0 v ms):=h.below bM;have HF:Hid (aF 215 #[v,Ik #[Y name,U O 0,U O 0],IP (.func 160) #[] #[]] W0 λe w'=>∃(p:Nat) (f:Bool),e=AT (Im #[U O p,Ia f])/\Below W0.heap.size W0 w'/\At ms ⟨name,0,0⟩ p f):=
  fm ms v ⟨name,0,0⟩ W0 HV.out (by omega) hr
 have sI:Hid _:=bA;clear bA h hr;go_enter Tryz.func241,Tryz.ntmps241;go_wp2_with fail;rw[<- sI.out];refine HF.out.mono ?_;rintro e w1 ⟨p,f,rfl,aB,cH⟩;have fb:Hid _:=cH;have VG:Hid (Sl w1 v ms):=HV.out.below aB;have fh:=aB.size;have aY:Hid _:=bM.trans (aB.mono (by omega));have cI:=(aB.block w.heap.size (by omega)).trans dF;have t0:w1.cell? ⟨w.heap.size,0,be⟩=AI (Y ⟨#[]⟩):=ae cI 0;have t1:w1.cell? ⟨w.heap.size,1,be⟩=AI (U O 0):=ae cI 1;have t2:w1.cell? ⟨w.heap.size,2,be⟩=AI (U O 0):=ae cI 2;have qT:∀o,w1.frozen? ⟨w.heap.size,o,be⟩=false:=λo=>by simp[Is,cI]
 have aR:w.heap.size<w1.heap.size:=by omega
 clear cH HF HV dF cI bM aB sI eE fh;cases f
 .go_wp2_with fail
  exact IL (v:=Im #[Ik #[Y ⟨#[]⟩,U O 0,U O 0],Ia false]) (by simp[results,Tryz.results241,go_sem,t0,t1,t2]) rfl ⟨p,false,rfl,(((aY.out.setCell (p:=⟨w.heap.size,0,be⟩) (Ic _) _).setCell (p:=⟨w.heap.size,1,be⟩) (Ic _) _).setCell (p:=⟨w.heap.size,2,be⟩) (Ic _) _),fb.out⟩
 .have hp:=(fb.out.is.1 rfl).1
  obtain⟨a,cap,rfl,_,VH⟩:=VG.out;obtain⟨b,off,D0,nz,cO⟩:∃b off,a=AI ⟨b,off,be⟩/\b<w1.heap.size/\Row w1 b off ms:=by
   rcases VH with h|h
   .rw[h] at hp;simp at hp
   .exact h
  subst D0;obtain⟨c0,c1,c2⟩:=cO p hp;clear cO VH VG;generalize hm:ms.getD p dm=m at *;have HM:Hid (ev ms p true=m):=by show ev ms p true=m;rw[ev,if_pos rfl,hm]
  clear hm;go_wp2_with fail;exact IL (v:=Im #[Ik #[Y m.aC,U O m.addr,U O m.version],Ia true]) (by simp[results,Tryz.results241,go_sem,t0,t1,t2]) rfl ⟨p,true,by rw[HM.out],(((aY.out.setCell (p:=⟨w.heap.size,0,be⟩) (Ic _) _).setCell (p:=⟨w.heap.size,1,be⟩) (Ic _) _).setCell (p:=⟨w.heap.size,2,be⟩) (Ic _) _),fb.out⟩
end Gw
namespace Gw
open Go.RowKit
theorem bc{m:bC}(h:m.e=0):ba m.aC=true/\0<=m.addr/\m.addr<=4294967295/\1<=m.version/\m.version<=1000000:=by
 unfold bC.e at h;split at h
 .rename_i h1
  split at h
  .rename_i h2
   split at h
   .rename_i h3
    simp[within] at h2 h3;exact⟨h1,h2.1,h2.2,h3.1,h3.2⟩
   .omega
  .omega
 .omega
theorem MI{ms:List bC}(h:aU ms=0)(p:Nat)(hp:p<ms.length):(ms.getD p dm).e=0:=by
 have:=bb ms h ms[p] (IG hp);simpa[Iq,Ie hp] using this
theorem pd{ms:List bC}{t:bC}(h:aU ms=0){p:Nat}{f:Bool}(cH:At ms t p f):0<=(ev ms p f).version/\(ev ms p f).version<=1000000:=by
 cases f
 .exact⟨by show(0:Int)<=0;omega,by show(0:Int)<=1000000;omega⟩
 .have:=(bc (MI h p (cH.is.1 rfl).1)).2.2.2
  rw[ev,if_pos rfl];omega
def Gq(ms:List bC)(p:Nat)(f:Bool)(name:ByteArray)(addr:Int):bC:=⟨name,addr,(ev ms p f).version+1⟩
theorem D2(ms:List bC)(v:Value)(name:ByteArray)(addr:Int)(w:World)(hv:Sl w v ms)(h0:bj ms=0)(hs:name.size<=Io)(p:Nat)(f:Bool)(cH:At ms ⟨name,0,0⟩ p f) :
 aF 204 #[v,Y name,U O addr] w λe w'=>∃v',e=AT (Im #[v',U O (aE ms [Gq ms p f name addr])])/\Below w.heap.size w w' /\
  (aE ms [Gq ms p f name addr]≠0->v'=J be 0 0)/\(aE ms [Gq ms p f name addr]=0->Own w.heap.size w' v' (av ms [Gq ms p f name addr])):=by
 have he:(bj ms !=0)=false:=by simpa using h0
 have hz:=af h0;have HV:Hid (Sl w v ms):=hv;have HR:Hid (bl ms):=hz.2.1;have hlen:=hz.1;have HF:Hid _:=hz.2.2;have fb:Hid _:=cH;obtain⟨pa,ca,rfl,_,_⟩:=hv;have HG:Hid (Gq ms p f name addr=⟨name,addr,(ev ms p f).version+1⟩):=rfl;generalize Gq ms p f name addr=g at *;clear h0 hz cH;go_enter Tryz.func204,Tryz.ntmps204;go_wp2_with (go_at_call 100;refine(bo ms _ _ HV.out).mono ?_;rintro e w1 ⟨rfl,aB⟩);refine(nq ms _ name _ (HV.out.below aB) hlen HR.out).mono ?_;rintro e w2 ⟨p',f',rfl,aI,qv⟩;obtain⟨rfl,rfl⟩:=ed fb.out qv;have yV:=pd HF.out qv;have bp:Hid _:=aB.trans (aI.mono aB.size);have iU:=bp.out.size;have HV2:Hid (Sl _ _ _):=(HV.out.below aB).below aI;clear qv aB aI HV;generalize ev ms p f=kn at *;obtain⟨kc,ka,kv⟩:=kn;simp only at yV;obtain⟨Aq,Ap⟩:=yV;go_wp2_with fail;refine(jP ms [g] (J pa ms.length ca) (J (AI ⟨w2.heap.size+1+1,0,be⟩) 1 1) _ _ _ ?ha ?hb ?hpb ?hc0 ?hc1).mono ?_
 case ha=>exact HV2.out.below ((((((Ib _ _).alloc (Ic _) _).alloc (by simp) _).alloc (by simp;omega) _).alloc (by simp;omega) _))
 case hb=>
  rw[HG.out];refine nT _ _ _ ⟨name,addr,kv+1⟩ hs ?_;refine(IE _ _ _ (by simp)).trans ?_;have h:=Ii ((w2.alloc (By #[Y kc,U O ka,U O kv] 77)).alloc (By #[Y name,U O addr,U O (kv+1)] 77)) (By #[Y name,U O addr,U O (kv+1)] 77);simpa using h
 case hpb=>simp
 case hc0=>exact(dz (by simp)).trans rfl
 case hc1=>exact(dz (by simp)).trans rfl
 rintro e w3 ⟨v',rfl,bU,pj,mK⟩;have Bl:Hid _:=pj;have cF:Hid _:=((((bp.out.alloc iU _).alloc (by simp;omega) _).alloc (by simp;omega) _).alloc (by simp;omega) _).trans (bU.mono (by simp;omega));have tg:Hid (aE ms [g]=0->Own w.heap.size w3 v' (av ms [g])):=λh=>(mK h).mono (by simp;omega);clear pj mK bU;go_wp2_with fail;go_ret2;exact⟨v',rfl,cF.out,Bl.out,tg.out⟩
end Gw
end Go.Proofs.YtfidhgjmifendaaGreatDoor
namespace Go.Proofs.YtfidhgjmifendaaGreatDoor
open Go.RowKit
abbrev dw(n:Nd)(vm vr vs vg vw:Value):Array Value:=#[Y n.name,Y n.aC,vm,vr,vs,vg,U O n.p.x,U O n.p.y,U O n.p.z,U O n.p.h,U O n.p.s,vw]
structure eT(w:World)(n:Nd)(vm vr vs vg vw:Value):Prop where
 ms:Sl w vm n.ms
 rs:mG w vr n.rs
 sv:Sv.Sl w vs n.sv
 gw:Gw.Sl w vg n.gw
 wh:Wh.Sl w vw n.wh
 name:n.name.size<=Io
 aC:n.aC.size<=Io
theorem eT.below{w w':World}{n:Nd}{vm vr vs vg vw:Value}(h:eT w n vm vr vs vg vw)(hb:Below w.heap.size w w'):eT w' n vm vr vs vg vw:=⟨h.ms.below hb,h.rs.below hb,h.sv.below hb,h.gw.below hb,h.wh.below hb,h.name,h.aC⟩
theorem th(w:World):Sl w (J be 0 0) []:=⟨be,0,rfl,cy (λm hm=>by simp at hm),.inl rfl⟩
theorem Sv.th(w:World):Sv.Sl w (J be 0 0) []:=⟨be,0,rfl,Sv.cy (λm hm=>by simp at hm),.inl rfl⟩
theorem Gw.th(w:World):Gw.Sl w (J be 0 0) []:=⟨be,0,rfl,Gw.cy (λm hm=>by simp at hm),.inl rfl⟩
theorem Ht{nm:ByteArray}{wh:List Wh.bJ}(h:ba nm=true):Pk.e ⟨nm,true,[],[],[],wh⟩=Wh.bj wh:=by
 unfold Pk.e;rw[if_pos (by simp[h])];rfl
theorem D3:Roomy (J be 0 0):=by unfold Roomy;exact Ic _
theorem wX(nm:ByteArray)(wh:List Wh.bJ)(vw:Value)(W:World)(Mm:Wh.Sl W vw wh)(dy:nm.size<=Io)(hl:ba nm=true) :
 kt 62 #[Ik #[Y nm,Ia true,J be 0 0,J be 0 0,J be 0 0,vw]] W (U O (Wh.bj wh)):=by
 have hp:jY W ⟨nm,true,[],[],[],wh⟩ (J be 0 0) (J be 0 0) (J be 0 0) vw:=⟨th W,Sv.th W,Gw.th W,Mm,dy,D3⟩;rw[<- Ht hl];exact lA ⟨nm,true,[],[],[],wh⟩ (J be 0 0) (J be 0 0) (J be 0 0) vw W hp (.inl rfl)
theorem vH{W:World}{cs:Array Value}{t:TypeId}{g k:Nat}(hg:g=W.heap.size):((W.alloc (By cs t)).drew).cell? ⟨g,k,be⟩=cs[k]?:=by subst hg;exact ae (Ii W _) k
theorem yW(a b:ByteArray)(ha:a.size<=Io)(hb:b.size<=Io)(g c:Nat)(W:World)(h0:W.cell? ⟨g,0,be⟩=AI (Y a))(h1:W.cell? ⟨g,1,be⟩=AI (Y b)) :
 aF 34 #[J (AI ⟨g,0,be⟩) 2 c] W λe w'=>e=AT (Ia (ba a&&ba b))/\w'=W:=by
 have h:=om [a,b] g c W (λj hj=>by
  have:j=0\/j=1:=by simp at hj;omega
  rcases this with rfl|rfl
  .exact h0
  .exact h1) (λj=>by
  match j with
  |0=>exact ha
  |1=>exact hb
  |_+2=>simp[Iq]) (by simp)
 rw[show[a,b].all ba=(ba a&&ba b) by simp] at h;exact h
theorem tj(n:Nd)(b:Nat)(vm vr vs vg vw:Value)(w:World)(h:eT w n vm vr vs vg vw)(hg:w.heap[b]?=AI (By (dw n vm vr vs vg vw) 90 (0,0))) :
 kt 55 #[If (AI ⟨b,0,be⟩)] w (U O n.pE):=by
 obtain⟨nm,ct,ms,rs,sv,gw,⟨px,py,pz,ph,pq⟩,wh⟩:=n;obtain⟨hU,nx,LL,wF,Mm,dy,Hu⟩:=h;simp only at hU nx LL wF Mm dy Hu hg;have hb:=(BY.1 hg).1;have HM:Hid (∀W,Below w.heap.size w W->aF _ _ _ _):=λW hW=>bo ms vm W (hU.below hW);have iX:Hid (∀W,Below w.heap.size w W->aF _ _ _ _):=λW hW=>gf rs vr W (nx.below hW);have HS:Hid (∀W,Below w.heap.size w W->aF _ _ _ _):=λW hW=>Sv.bo sv vs W (LL.below hW);have HG:Hid (∀W,Below w.heap.size w W->aF _ _ _ _):=λW hW=>Gw.bo gw vg W (wF.below hW);have HP:Hid (∀W,Below w.heap.size w W->aF _ _ _ _):=λW _=>lK ⟨px,py,pz,ph,pq⟩ W;have HX:Hid (∀W,Below w.heap.size w W->W.cell? ⟨b,0,be⟩=AI (Y nm)/\W.cell? ⟨b,1,be⟩=AI (Y ct)/\W.cell? ⟨b,2,be⟩=AI vm/\W.cell? ⟨b,3,be⟩=AI vr/\W.cell? ⟨b,4,be⟩=AI vs/\W.cell? ⟨b,5,be⟩=AI vg/\W.cell? ⟨b,6,be⟩=AI (U O px)/\W.cell? ⟨b,7,be⟩=AI (U O py)/\W.cell? ⟨b,8,be⟩=AI (U O pz)/\W.cell? ⟨b,9,be⟩=AI (U O ph)/\W.cell? ⟨b,10,be⟩=AI (U O pq)/\W.cell? ⟨b,11,be⟩=AI vw):=λW hW=>
  have uH:=(hW.block _ hb).trans hg
  ⟨ae uH 0,ae uH 1,ae uH 2,ae uH 3,ae uH 4,ae uH 5,ae uH 6,ae uH 7,ae uH 8,ae uH 9,ae uH 10,ae uH 11⟩
 have HE:Nd.pE ⟨nm,ct,ms,rs,sv,gw,⟨px,py,pz,ph,pq⟩,wh⟩=if(ba nm&&ba ct)=true then
  (if bj ms=0 then(if dV rs=0 then(if Sv.bj sv=0 then(if Gw.bj gw=0 then(if dZ ⟨px,py,pz,ph,pq⟩=0 then Wh.bj wh else dZ ⟨px,py,pz,ph,pq⟩) else Gw.bj gw) else Sv.bj sv) else dV rs) else bj ms) else 1:=by unfold Nd.pE;with_reducible rfl
 have HL:Hid (∀(W:World) (g:Nat),W.cell? ⟨g,0,be⟩=AI (Y nm)->W.cell? ⟨g,1,be⟩=AI (Y ct)->aF _ _ _ _):=λW g h0 h1=>yW nm ct dy Hu g 2 W h0 h1;have HW:Hid (ba nm=true->∀W,Below w.heap.size w W->kt 62 #[Ik #[Y nm,Ia true,J be 0 0,J be 0 0,J be 0 0,vw]] W (U O (Wh.bj wh))):=λhl W hW=>wX nm wh vw W (Mm.below hW) dy hl;have oY:Hid ((ba nm&&ba ct)=true->ba nm=true):=λh=>by rw[Bool.and_eq_true] at h;exact h.1
 generalize(ba nm&&ba ct)=lb at *;generalize Nd.pE ⟨nm,ct,ms,rs,sv,gw,⟨px,py,pz,ph,pq⟩,wh⟩=res at *;generalize bj ms=m1 at *;generalize dV rs=r1 at *;generalize Sv.bj sv=s1 at *;generalize Gw.bj gw=g1 at *;generalize dZ ⟨px,py,pz,ph,pq⟩=p1 at *;generalize Wh.bj wh=wz at *;obtain⟨a5,c5,rfl,_,_⟩:=Mm;generalize wh.length=n5 at *;clear hU nx LL wF;obtain⟨y0,y1,y2,y3,y4,y5,y6,y7,y8,y9,y10,y11⟩:=HX.out w (Ib _ _);clear hg;go_enter Tryz.func55,Tryz.ntmps55;go_wp2_with fail;go_region_held3 (λw'=>w'.cell? ⟨b,0,be⟩=AI (Y nm)/\w'.cell? ⟨b,1,be⟩=AI (Y ct)) (go_keep) (first|(go_at_call 34;refine(HL.out _ _ (vH rfl) (vH rfl)).mono ?_;rintro e w' ⟨rfl,rfl⟩))
 obtain⟨W0,bA⟩:∃W0,W0=(w.alloc (By #[Y nm,Y ct] 9)).drew:=⟨_,rfl⟩;have cY:Hid (Below w.heap.size w W0):=by rw[bA];exact((Ib _ _).alloc (Ic _) _).drew
 rw[<- bA];clear bA HL y0 y1 y2 y3 y4 y5 y6 y7 y8 y9 y10 y11;obtain⟨y0,y1,y2,y3,y4,y5,y6,y7,y8,y9,y10,y11⟩:=HX.out W0 cY.out;cases lb
 .rw[if_neg (by simp)] at HE
  have HR:Hid _:=HE;clear HE;go_wp2_with fail;go_ret;exact⟨ai HR.out.symm,cY.out⟩
 rw[if_pos rfl] at HE;have HW:Hid (∀W,Below w.heap.size w W->aF _ _ _ _):=HW.out (oY.out rfl);go_wp2_with fail;refine(HM.out _ cY.out).mono ?_;rintro e w1 ⟨rfl,aB⟩;have aY:Hid _:=cY.out.trans (aB.mono cY.out.size);clear aB y0 y1 y2 y3 y4 y5 y6 y7 y8 y9 y10 y11;obtain⟨y0,y1,y2,y3,y4,y5,y6,y7,y8,y9,y10,y11⟩:=HX.out w1 aY.out;by_cases po:m1=0
 .rw[if_pos po] at HE
  subst po;go_wp2_with fail;refine(iX.out _ aY.out).mono ?_;rintro e w2 ⟨rfl,aI⟩;have bp:Hid _:=aY.out.trans (aI.mono aY.out.size);clear aI y0 y1 y2 y3 y4 y5 y6 y7 y8 y9 y10 y11;obtain⟨y0,y1,y2,y3,y4,y5,y6,y7,y8,y9,y10,y11⟩:=HX.out w2 bp.out;by_cases lg:r1=0
  .rw[if_pos lg] at HE
   subst lg;go_wp2_with fail;refine(HS.out _ bp.out).mono ?_;rintro e w3 ⟨rfl,bU⟩;have cF:Hid _:=bp.out.trans (bU.mono bp.out.size);clear bU y0 y1 y2 y3 y4 y5 y6 y7 y8 y9 y10 y11;obtain⟨y0,y1,y2,y3,y4,y5,y6,y7,y8,y9,y10,y11⟩:=HX.out w3 cF.out;by_cases fh:s1=0
   .rw[if_pos fh] at HE
    subst fh;go_wp2_with fail;refine(HG.out _ cF.out).mono ?_;rintro e w4 ⟨rfl,eP⟩;have fE:Hid _:=cF.out.trans (eP.mono cF.out.size);clear eP y0 y1 y2 y3 y4 y5 y6 y7 y8 y9 y10 y11;obtain⟨y0,y1,y2,y3,y4,y5,y6,y7,y8,y9,y10,y11⟩:=HX.out w4 fE.out;by_cases cI:g1=0
    .rw[if_pos cI] at HE
     subst cI;go_wp2_with fail;refine(HP.out _ fE.out).mono ?_;rintro e w5 ⟨rfl,jz⟩;have gX:Hid _:=fE.out.trans (jz.mono fE.out.size);clear jz y0 y1 y2 y3 y4 y5 y6 y7 y8 y9 y10 y11;obtain⟨y0,y1,y2,y3,y4,y5,y6,y7,y8,y9,y10,y11⟩:=HX.out w5 gX.out;by_cases sX:p1=0
     .rw[if_pos sX] at HE
      subst sX;go_wp2_with fail;go_region_held3 (λw'=>w'.cell? ⟨b,0,be⟩=AI (Y nm)/\w'.cell? ⟨b,11,be⟩=AI (J a5 n5 c5)) (first|assumption|go_keep) (first|(go_at_call 62;refine(HW.out _ gX.out.drew).mono ?_;rintro e w9 ⟨rfl,yX⟩;have VJ:Hid (Below w.heap.size w w9):=gX.out.drew.trans (yX.mono gX.out.size);have hS:w9.cell? ⟨b,0,be⟩=AI (Y nm)/\w9.cell? ⟨b,11,be⟩=AI (J a5 n5 c5):=⟨(HX.out w9 VJ.out).1,(HX.out w9 VJ.out).2.2.2.2.2.2.2.2.2.2.2⟩))
      go_wp2_with fail;go_ret;exact⟨ai HE.symm,VJ.out⟩
     .have akg:(p1 !=0)=true:=by simpa using sX
      rw[if_neg sX] at HE;have HR:Hid _:=HE;clear sX HE;go_wp2_with fail;go_ret;exact⟨ai HR.out.symm,gX.out⟩
    .have akh:(g1 !=0)=true:=by simpa using cI
     rw[if_neg cI] at HE;have HR:Hid _:=HE;clear cI HE;go_wp2_with fail;go_ret;exact⟨ai HR.out.symm,fE.out⟩
   .have uP:(s1 !=0)=true:=by simpa using fh
    rw[if_neg fh] at HE;have HR:Hid _:=HE;clear fh HE;go_wp2_with fail;go_ret;exact⟨ai HR.out.symm,cF.out⟩
  .have aki:(r1 !=0)=true:=by simpa using lg
   rw[if_neg lg] at HE;have HR:Hid _:=HE;clear lg HE;go_wp2_with fail;go_ret;exact⟨ai HR.out.symm,bp.out⟩
 .have akj:(m1 !=0)=true:=by simpa using po
  rw[if_neg po] at HE;have HR:Hid _:=HE;clear po HE;go_wp2_with fail;go_ret;exact⟨ai HR.out.symm,aY.out⟩
end Go.Proofs.YtfidhgjmifendaaGreatDoor
namespace Go.Proofs.YtfidhgjmifendaaGreatDoor
namespace Wh
open Go.RowKit
end Wh
end Go.Proofs.YtfidhgjmifendaaGreatDoor
namespace Go.Proofs.YtfidhgjmifendaaGreatDoor
open Go.RowKit
def Sd(w:World)(p:Pk)(A:Array Value):Prop:=∃vm vs vg vw,A=#[Y p.cT,Ia p.whole,vm,vs,vg,vw]/\Sl w vm p.ms/\Sv.Sl w vs p.sv/\Gw.Sl w vg p.gw/\Wh.Sl w vw p.wh
end Go.Proofs.YtfidhgjmifendaaGreatDoor
