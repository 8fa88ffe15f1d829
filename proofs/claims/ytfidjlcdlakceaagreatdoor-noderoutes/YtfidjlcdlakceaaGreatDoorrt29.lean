import Derived.Test.YtfidjlcdlakceaaGreatDoorrt28
import Derived.Test.YtfidjlcdlakceaaGreatDoorrt27
set_option maxHeartbeats 6400000
set_option maxRecDepth 100000
open Go.Ending renaming returned→sh
open Go.Value renaming int→O,string→I,bool→AT,agg→Ip,pointer→Ig,slice→U,func→I7,tuple→Il
open Go.IntKind renaming i64→J
open Go.Proofs.Tryz renaming prog→be
open Go.RowKit.Below renaming refl→Ia
open Nat renaming zero_le→IF,le_refl→By
open Option renaming some→Z,none→Y
open Go.World renaming block_lt_of_cell?→IE,frozen?→Ih
open Array renaming getElem?_eq_some_iff→Ib
open List renaming getD→Io,getElem?_eq_getElem→Ic
namespace Go.Proofs.YtfidjlcdlakceaaGreatDoor
open Go.RowKit Go.WideMaps Go.Maps
theorem jS(a b:ByteArray):(a.toList==b.toList)=decide (a=b):=by
 by_cases h:a=b
 .subst h;simp
 .have h2:¬ a.toList=b.toList:=λe=>h (jq (by rw[Lib.toList_data,Lib.toList_data] at e;exact e))
  simp[h,h2]
theorem qZ(rs:List bu)(v:Value)(w:World)(hv:kB w v rs) :
 Calls be 35 #[v] w λe w'=>e=sh (O J (cI rs))/\Below w.heap.size w w':=by
 obtain⟨pa,ca,rfl,bb,ha⟩:=hv;by_cases hmany:20<rs.length
 .have HE:Hid (cI rs=2):=vt hmany
  go_enter Tryz.func35,Tryz.ntmps35;go_wp2_with fail;go_ret;exact⟨aj HE.out.symm,Ia _ _⟩
 have HA:Hid _:=ha;have HS:Hid (∀j,(rs.getD j dr).m.name.size<=maxLen):=bb;clear ha bb;generalize hN:rs.length=n at *;have HN:Hid (rs.length=n):=hN;clear hN;have nW:n<=20:=by omega
 go_enter Tryz.func35,Tryz.ntmps35;go_wp2;go_loopw [3] (λi wr=>∃k:Nat,k<=n/\i=O J k/\Hid (∀j,j<k->(rs.getD j dr).m.e=0)/\Hid (Below w.heap.size w wr))
  (λi _=>n-(intOf i).toNat)
 case atStart=>exact⟨0,IF _,rfl,λj hj=>by omega,Ia _ _⟩
 case round=>
  obtain⟨k,hk,rfl,HZ,HB⟩:=hrel;by_cases aB:k<n
  .obtain⟨b,off,hp,hl,hr⟩:∃b off,pa=Z ⟨b,off,Y⟩/\b<w.heap.size/\iX w b off rs:=by
    rcases HA.out with h|h
    .have:=HN.out;rw[h] at this;simp at this;omega
    .exact h
   subst hp;obtain⟨c0,c1,c2,c3,c4,c5⟩:=hr.below HB.out hl k (by rw[HN.out];exact aB);have eX:=HS.out k;have HX:Hid ((rs.getD k dr).m.e≠0->cI rs=(rs.getD k dr).m.e):=λh=>yq (by rw[HN.out];exact nW) (by rw[HN.out];exact aB) HZ.out h;have fm:Hid ((rs.getD k dr).m.e=0->∀j,j<k+1->(rs.getD j dr).m.e=0):=λh j hj=>by
    by_cases e:j=k
    .subst e;exact h
    .exact HZ.out j (by omega)
   generalize(rs.getD k dr)=rk at *;obtain⟨⟨nm,st,lf,ad,sv⟩,td⟩:=rk;simp only at c0 c1 c2 c3 c4 c5 eX HX fm;simp only[Mem.e] at HX fm;clear hr HZ;go_wp2_with fail;refine(jv nm st lf ad sv _ eX).mono ?_;rintro e w1 ⟨rfl,rfl⟩;have aK:Hid (Below w.heap.size w (wr.alloc (.cells #[I nm,O J st,O J lf,O J ad,AT sv] 70))):=HB.out.alloc HB.out.size _;clear c0 c1 c2 c3 c4 c5 HB;by_cases he:gX nm st lf ad=0
   .have gJ:(gX nm st lf ad !=0)=false:=by simpa using he
    have jM:Hid (∀j,j<k+1->(rs.getD j dr).m.e=0):=fm.out he;clear HX fm he;go_wp2_with fail;go_roundw
    case rel=>exact⟨k+1,by omega,by go_num,jM,aK⟩
    case measure=>simp[intOf];omega
   .have gJ:(gX nm st lf ad !=0)=true:=by simpa using he
    have HE:Hid (cI rs=gX nm st lf ad):=HX.out he;clear HX fm he;go_wp2_with fail;go_ret;exact⟨aj HE.out.symm,aK.out⟩
  .have Vu:Hid (∀j,j<rs.length->(rs.getD j dr).m.e=0):=λj hj=>HZ.out j (by rw[HN.out] at hj;omega)
   clear HZ;go_wp2_with fail;go_loopw [5] (λi wr=>∃k:Nat,k<=n/\i=O J k/\Hid (∀j,j<k->within (rs.getD j dr).told 0 100=true)/\Hid (Below w.heap.size w wr))
    (λi _=>n-(intOf i).toNat)
   case atStart=>exact⟨0,IF _,rfl,λj hj=>by omega,HB⟩
   case round=>
    clear HB aB hk;obtain⟨k2,hk,rfl,HZ,HB⟩:=hrel;by_cases aB:k2<n
    .obtain⟨b,off,hp,hl,hr⟩:∃b off,pa=Z ⟨b,off,Y⟩/\b<w.heap.size/\iX w b off rs:=by
      rcases HA.out with h|h
      .have:=HN.out;rw[h] at this;simp at this;omega
      .exact h
     subst hp;obtain⟨c0,c1,c2,c3,c4,c5⟩:=hr.below HB.out hl k2 (by rw[HN.out];exact aB);have HX:Hid (within (rs.getD k2 dr).told 0 100=false->cI rs=3):=λh=>vu (by rw[HN.out];exact nW) Vu.out (by rw[HN.out];exact aB) h;have fm:Hid (within (rs.getD k2 dr).told 0 100=true->∀j,j<k2+1->within (rs.getD j dr).told 0 100=true):=λh j hj=>by
      by_cases e:j=k2
      .subst e;exact h
      .exact HZ.out j (by omega)
     generalize(rs.getD k2 dr)=rk at *;obtain⟨⟨nm,st,lf,ad,sv⟩,td⟩:=rk;simp only at c0 c1 c2 c3 c4 c5 HX fm;clear hr HZ;rcases ht:within td 0 100 with _|_
     .have HE:Hid (cI rs=3):=HX.out ht
      clear HX fm;go_wp2_with (go_at_call 82;refine(cj _ _ _ _).mono ?_;rintro e w' ⟨rfl,rfl⟩;rw[ht]);go_ret;exact⟨aj HE.out.symm,HB.out⟩
     .have jM:Hid (∀j,j<k2+1->within (rs.getD j dr).told 0 100=true):=fm.out ht
      clear HX fm;go_wp2_with (go_at_call 82;refine(cj _ _ _ _).mono ?_;rintro e w' ⟨rfl,rfl⟩;rw[ht]);go_roundw
      case rel=>exact⟨k2+1,by omega,by go_num,jM,HB⟩
      case measure=>simp[intOf];omega
    .have HTA:Hid (fo rs):=λj hj=>HZ.out j (by rw[HN.out] at hj;omega)
     clear HZ;go_wp2_with fail;go_loopw [6] (λi wr=>∃k:Nat,k<=n/\i=O J k/\Hid (∀a b,a<b->b<k->(rs.getD a dr).m.name≠(rs.getD b dr).m.name)/\Hid (Below w.heap.size w wr))
      (λi _=>n-(intOf i).toNat)
     case atStart=>exact⟨0,IF _,rfl,λa b _ hb=>by omega,HB⟩
     case round=>
      clear HB aB hk;obtain⟨k3,hk,rfl,HZ,HB⟩:=hrel;by_cases aB:k3<n
      .obtain⟨b,off,hp,hl,hr⟩:∃b off,pa=Z ⟨b,off,Y⟩/\b<w.heap.size/\iX w b off rs:=by
        rcases HA.out with h|h
        .have:=HN.out;rw[h] at this;simp at this;omega
        .exact h
       subst hp;have HR:Hid (iX w b off rs):=hr;clear hr;go_wp2_with fail;go_loopw [7] (λi wr=>∃k:Nat,k<=k3/\i=O J k/\Hid (∀a,a<k->(rs.getD a dr).m.name≠(rs.getD k3 dr).m.name)/\Hid (Below w.heap.size w wr))
        (λi _=>k3-(intOf i).toNat)
       case atStart=>exact⟨0,IF _,rfl,λa ha=>by omega,HB⟩
       case round=>
        clear HB hk;obtain⟨k4,PT,rfl,HY,HB⟩:=hrel;by_cases aaS:k4<k3
        .obtain⟨c0,_,_,_,_,_⟩:=HR.out.below HB.out hl k4 (by rw[HN.out];omega)
         obtain⟨d0,_,_,_,_,_⟩:=HR.out.below HB.out hl k3 (by rw[HN.out];exact aB);have HX:Hid ((rs.getD k4 dr).m.name=(rs.getD k3 dr).m.name->cI rs=6):=λh=>sJ (by rw[HN.out];exact nW) Vu.out HTA.out (λhd=>hd k4 k3 aaS (by rw[HN.out];exact aB) h);have TM:Hid ((rs.getD k4 dr).m.name≠(rs.getD k3 dr).m.name->∀a,a<k4+1->(rs.getD a dr).m.name≠(rs.getD k3 dr).m.name):=λh a ha=>by
          by_cases e:a=k4
          .subst e;exact h
          .exact HY.out a (by omega)
         have Vd:=jS (rs.getD k4 dr).m.name (rs.getD k3 dr).m.name;clear HY HZ;generalize(rs.getD k4 dr).m.name=x4 at *;generalize(rs.getD k3 dr).m.name=x3 at *;by_cases hx:x4=x3
         .have HE:Hid (cI rs=6):=HX.out hx
          subst hx;clear HX TM Vd;go_wp2_with fail;go_quiet (fail)
          go_wp2_with fail;go_ret;exact⟨aj HE.out.symm,below_drewN HB.out _⟩
         .have HY3:Hid (∀a,a<k4+1->(rs.getD a dr).m.name≠x3):=TM.out hx
          rw[decide_eq_false hx] at Vd;clear HX TM hx;go_wp2_with fail;go_quiet (fail)
          go_wp2_with fail;exact⟨⟨k4+1,by omega,by go_num,HY3,below_drewN HB.out _⟩,by simp[intOf];omega⟩
        .have jM:Hid (∀a b,a<b->b<k3+1->(rs.getD a dr).m.name≠(rs.getD b dr).m.name):=λa b MX hb=>by
          by_cases e:b=k3
          .subst e;exact HY.out a (by omega)
          .exact HZ.out a b MX (by omega)
         clear HZ HY;go_wp2_with fail;exact⟨⟨k3+1,by omega,by go_num,jM,HB⟩,by simp[intOf];omega⟩
      .have HE:Hid (cI rs=0):=wK (by rw[HN.out];exact nW) Vu.out HTA.out (λa b MX hb=>HZ.out a b MX (by rw[HN.out] at hb;omega))
       clear HZ;go_wp2_with fail;go_ret;exact⟨aj HE.out.symm,HB.out⟩
end Go.Proofs.YtfidjlcdlakceaaGreatDoor
namespace Go.Proofs.YtfidjlcdlakceaaGreatDoor
open Go.RowKit
theorem Fv(m:Mem)(nb:Nat)(nm:ByteArray)(w:World)(h:w.cell? ⟨nb,0,Y⟩=Z (I nm)) :
 Calls be 157 #[Ip #[I m.name,O J m.state,O J m.aP,O J m.addr,AT m.server],Ig (Z ⟨nb,0,Y⟩)] w λe w'=>e=sh (AT (decide (m.name=nm)))/\w'=w.alloc (.cells #[I m.name,O J m.state,O J m.aP,O J m.addr,AT m.server] 70):=by
 have hb:=IE w _ h;have h2:∀ob,(w.alloc ob).cell? ⟨nb,0,Y⟩=Z (I nm):=λob=>by
  rw[((Ia w.heap.size w).alloc (By _) ob).cell (p:=⟨nb,0,Y⟩) hb];exact h
 obtain⟨mn,st,lf,ad,sv⟩:=m;go_enter Tryz.func157,Tryz.ntmps157;go_wp2_with fail;go_ret;exact⟨az (jS _ _),rfl⟩
theorem Bw(ms:List Mem)(pa:Option Addr)(n c nb:Nat)(nm:ByteArray)(w:World)(hv:Sl w (U pa n c) ms)(Aw:n<=1000)(ht:w.cell? ⟨nb,0,Y⟩=Z (I nm)) :
 Calls be 158 #[U pa n c,I7 (.func 157) #[] #[Ig (Z ⟨nb,0,Y⟩)]] w λe w'=>
  ((e=sh (O J (-1))/\Hid (cM ms nm=Y))\/(∃i:Nat,i<n/\e=sh (O J i)/\Hid (cM ms nm=Z (ms.getD i dm))))/\Below w.heap.size w w':=by
 obtain⟨X9,ca,he,_,ha⟩:=hv;simp only[Value.slice.injEq] at he;obtain⟨rfl,hN,rfl⟩:=he;have HA:Hid _:=ha;have HN:Hid _:=hN.symm;have HT:Hid _:=ht;have Pt:=IE w _ ht;clear ha hN ht;go_enter Tryz.func158,Tryz.ntmps158;go_wp2_with fail;go_loopw [8] (λi wr=>∃k:Nat,k<=n/\i=O J k/\Hid (∀j,j<k->(ms.getD j dm).name≠nm)/\Hid (Below w.heap.size w wr)) (λi _=>n-(intOf i).toNat)
 case atStart=>exact⟨0,IF _,rfl,λj hj=>by omega,Ia _ _⟩
 case round=>
  obtain⟨k,hk,rfl,HZ,HB⟩:=hrel;by_cases aB:k<n
  .obtain⟨b,off,hZ,dX,hr⟩:∃b off,pa=Z ⟨b,off,Y⟩/\b<w.heap.size/\Row w b off ms:=by
    rcases HA.out with h|h
    .have:=HN.out;rw[h] at this;simp at this;omega
    .exact h
   subst hZ;obtain⟨c0,c1,c2,c3,c4⟩:=hr.later HB.out dX k (by rw[HN.out];exact aB);clear hr;have Af:wr.cell? ⟨nb,0,Y⟩=Z (I nm):=by rw[HB.out.cell (p:=⟨nb,0,Y⟩) Pt];exact HT.out
   have HY:Hid ((ms.getD k dm).name=nm->cM ms nm=Z (ms.getD k dm)):=λh=>mi (by rw[HN.out];exact aB) HZ.out h;have fm:Hid ((ms.getD k dm).name≠nm->∀j,j<k+1->(ms.getD j dm).name≠nm):=λh j hj=>by
    by_cases e:j=k
    .subst e;exact h
    .exact HZ.out j (by omega)
   have hF:=λw h=>Fv (ms.getD k dm) nb nm w h;by_cases jZ:(ms.getD k dm).name=nm
   .have HF:Hid _:=HY.out jZ
    rw[decide_eq_true jZ] at hF;clear jZ fm HY;generalize Sw:ms.getD k dm=mk at *;have HMK:Hid _:=Sw;clear Sw;obtain⟨mn,st,lf,ad,sv⟩:=mk;simp only at c0 c1 c2 c3 c4 hF;go_wp2_with fail;refine(hF _ Af).mono ?_;rintro e w1 ⟨rfl,rfl⟩;go_wp2_with fail;go_ret;exact⟨.inr ⟨k,aB,rfl,by rw[HMK.out];exact HF⟩,HB.out.alloc HB.out.size _⟩
   .have jM:Hid _:=fm.out jZ
    rw[decide_eq_false jZ] at hF;clear jZ fm HY HZ;generalize ms.getD k dm=mk at *;obtain⟨mn,st,lf,ad,sv⟩:=mk;simp only at c0 c1 c2 c3 c4 hF;go_wp2_with fail;refine(hF _ Af).mono ?_;rintro e w1 ⟨rfl,rfl⟩;go_wp2_with fail;go_roundw
    case rel=>exact⟨k+1,by omega,by go_num,jM,HB.out.alloc HB.out.size _⟩
    case measure=>simp[intOf];omega
  .have jM:Hid _:=mh λj hj=>HZ.out j (by have:=HN.out;omega)
   clear HZ;go_wp2_with fail;go_ret;exact⟨.inl ⟨rfl,jM⟩,HB.out⟩
theorem jT{ms:List Mem}{t:ByteArray}{m:Mem}(h:cM ms t=Z m):dZ ms t=m:=by unfold dZ;rw[h];rfl
theorem th{ms:List Mem}{t:ByteArray}(h:cM ms t=Y):dZ ms t=dm:=by unfold dZ;rw[h];rfl
theorem jk(b:Nat)(pm:Option Addr)(nm cm:Nat)(ms:List Mem)(t:ByteArray)(w:World)(hc:w.cell? ⟨b,2,Y⟩=Z (U pm nm cm))(hm:Sl w (U pm nm cm) ms)(hn:nm<=1000) :
 Calls be 104 #[Ig (Z ⟨b,0,Y⟩),I t] w λe w'=>e=sh (Il #[Ip #[I (dZ ms t).name,O J (dZ ms t).state,O J (dZ ms t).aP,O J (dZ ms t).addr,AT (dZ ms t).server],AT (cM ms t).isSome])/\Below w.heap.size w w':=by
 have HM:Hid (Sl _ _ _):=hm;have hb:=IE w _ hc;have HC:Hid _:=hc;clear hm;obtain⟨W,hW⟩:∃W,W=(w.alloc (.cells #[I t] 9)).alloc (.cells #[I ⟨#[]⟩,O J 0,O J 0,O J 0,AT false] 70):=⟨_,rfl⟩;have eG:Below w.heap.size w W:=by rw[hW];exact((Ia _ _).alloc (By _) _).alloc (by simp) _
 have bf:W.heap[w.heap.size]?=Z (.cells #[I t] 9 (0,0)):=by
  rw[hW,Below.heap_alloc _ _ _ (by simp)];exact heap_alloc_new w _
 have iQ:W.heap[w.heap.size+1]?=Z (.cells #[I ⟨#[]⟩,O J 0,O J 0,O J 0,AT false] 70 (0,0)):=by
  have h:=heap_alloc_new (w.alloc (.cells #[I t] 9)) (.cells #[I ⟨#[]⟩,O J 0,O J 0,O J 0,AT false] 70);rw[hW];simpa using h
 have pY:W.heap.size=w.heap.size+2:=by rw[hW];simp
 go_enter Tryz.func104,Tryz.ntmps104;go_wp2_with fail;rw[<- hW];clear hW;refine(Bw ms pm nm cm _ t W (HM.out.below eG) hn (af bf 0)).mono ?_;rintro e w1 ⟨xq,an⟩;have h2:=(an.block _ (by omega)).trans iQ;have HB:Hid _:=eG.trans (an.mono (by omega));have Sg:Hid (Sl _ _ _):=HM.out.below HB.out;have d2:w1.cell? ⟨b,2,Y⟩=Z (U pm nm cm):=by rw[HB.out.cell (p:=⟨b,2,Y⟩) hb];exact HC.out
 have r0:=af h2 0;have r1:=af h2 1;have r2:=af h2 2;have r3:=af h2 3;have r4:=af h2 4;have z0:w1.frozen? ⟨w.heap.size+1,0,Y⟩=false:=by simp[Ih,h2]
 have z1:w1.frozen? ⟨w.heap.size+1,1,Y⟩=false:=by simp[Ih,h2]
 have z2:w1.frozen? ⟨w.heap.size+1,2,Y⟩=false:=by simp[Ih,h2]
 have z3:w1.frozen? ⟨w.heap.size+1,3,Y⟩=false:=by simp[Ih,h2]
 have z4:w1.frozen? ⟨w.heap.size+1,4,Y⟩=false:=by simp[Ih,h2]
 have jD:=(Ib.1 h2).1;clear eG bf iQ an h2 pY hc;rcases xq with⟨rfl,HF⟩|⟨i,hi,rfl,HF⟩
 .have HO:Hid (dZ ms t=dm/\(cM ms t).isSome=false):=⟨th HF.out,by rw[HF.out];rfl⟩
  go_wp2_with fail;refine bodyPost_ret (v:=Il #[Ip #[I ⟨#[]⟩,O J 0,O J 0,O J 0,AT false],AT false]) ?_ rfl ⟨by rw[HO.out.1,HO.out.2];rfl,?_⟩
  .simp[results,Tryz.results104,go_sem,r0,r1,r2,r3,r4]
  exact((((HB.out.setCell (p:=⟨w.heap.size+1,0,Y⟩) (by simp) _).setCell (p:=⟨w.heap.size+1,1,Y⟩) (by simp) _).setCell (p:=⟨w.heap.size+1,2,Y⟩) (by simp) _).setCell (p:=⟨w.heap.size+1,3,Y⟩) (by simp) _).setCell (p:=⟨w.heap.size+1,4,Y⟩) (by simp) _
 .have HO:Hid (dZ ms t=ms.getD i dm/\(cM ms t).isSome=true):=⟨jT HF.out,by rw[HF.out];rfl⟩
  obtain⟨X9,ca,he,_,ha⟩:=Sg.out;simp only[Value.slice.injEq] at he;obtain⟨rfl,hN,rfl⟩:=he;obtain⟨b2,off,hZ,dX,hr⟩:∃b off,pm=Z ⟨b,off,Y⟩/\b<w1.heap.size/\Row w1 b off ms:=by
   rcases ha with h|h
   .rw[h] at hN;simp at hN;omega
   .exact h
  subst hZ;obtain⟨c0,c1,c2,c3,c4⟩:=hr i (by omega);clear hr hN ha HF;generalize ms.getD i dm=mk at *;obtain⟨mn,st,lf,ad,sv⟩:=mk;simp only at c0 c1 c2 c3 c4;go_wp2_with fail;refine bodyPost_ret (v:=Il #[Ip #[I mn,O J st,O J lf,O J ad,AT sv],AT true]) ?_ rfl ⟨by rw[HO.out.1,HO.out.2],?_⟩
  .simp[results,Tryz.results104,go_sem,r0,r1,r2,r3,r4]
  exact((((HB.out.setCell (p:=⟨w.heap.size+1,0,Y⟩) (by simp) _).setCell (p:=⟨w.heap.size+1,1,Y⟩) (by simp) _).setCell (p:=⟨w.heap.size+1,2,Y⟩) (by simp) _).setCell (p:=⟨w.heap.size+1,3,Y⟩) (by simp) _).setCell (p:=⟨w.heap.size+1,4,Y⟩) (by simp) _
def dd(ms:List Mem)(r:bu):Bool:=match cM ms r.m.name with
 |none=>true
 |some k=>fX r.m k==0&&ik r.m k
theorem yW(b:Nat)(pm:Option Addr)(nm cm:Nat)(ms:List Mem)(r:bu)(w:World)(hc:w.cell? ⟨b,2,Y⟩=Z (U pm nm cm))(hm:Sl w (U pm nm cm) ms)(hn:nm<=1000)(hr:r.m.name.size<=maxLen) :
 Calls be 133 #[Ig (Z ⟨b,0,Y⟩),Ip #[I r.m.name,O J r.m.state,O J r.m.aP,O J r.m.addr,AT r.m.server,O J r.told]] w λe w'=>e=sh (AT (dd ms r))/\Below w.heap.size w w':=by
 have hb:=IE w _ hc;have HS:Hid (∀m,cM ms r.m.name=Z m->m.name.size<=maxLen):=λm h=>by
  obtain⟨a,c,he,hs,_⟩:=hm;exact eK hs m (od h).1
 have HD:Hid (dd ms r=match cM ms r.m.name with
  |none=>true
  |some k=>fX r.m k==0&&ik r.m k):=rfl
 generalize dd ms r=res at *;obtain⟨W,hW,eG,-,hg⟩:=eC w #[I r.m.name,O J r.m.state,O J r.m.aP,O J r.m.addr,AT r.m.server,O J r.told] 95;have HCW:Hid (Calls be 104 #[Ig (Z ⟨b,0,Y⟩),I r.m.name] W λe w'=>e=sh (Il #[Ip #[I (dZ ms r.m.name).name,O J (dZ ms r.m.name).state,O J (dZ ms r.m.name).aP,O J (dZ ms r.m.name).addr,AT (dZ ms r.m.name).server],AT (cM ms r.m.name).isSome])/\Below W.heap.size W w'):=
  jk b pm nm cm ms r.m.name W (by rw[eG.cell (p:=⟨b,2,Y⟩) hb];exact hc) (hm.below eG) hn
 have x0:=af hg 0;have pY:W.heap.size=w.heap.size+1:=by rw[hW];simp
 clear hc hm;go_enter Tryz.func133,Tryz.ntmps133;go_wp2_with fail;rw[<- hW];clear hW;refine HCW.out.mono ?_;rintro e w1 ⟨rfl,an⟩;have bf:=(an.block _ (by omega)).trans hg;have y0:=af bf 0;have y1:=af bf 1;have y2:=af bf 2;have y3:=af bf 3;have y4:=af bf 4;have gi:=(Ib.1 bf).1;have aK:Hid _:=eG.trans (an.mono (by omega));clear an bf hg eG HCW x0;rcases hf:cM ms r.m.name with _|k
 .have HR:Hid _:=HD.out.trans (by rw[hf])
  have D0:=th hf;rw[D0];clear hf D0;go_wp2_with fail;go_ret;exact⟨az HR.out.symm,aK.out.alloc aK.out.size _⟩
 .have HR:Hid (res=(fX r.m k==0&&ik r.m k)):=HD.out.trans (by rw[hf])
  have hk:=HS.out k hf;have D0:dZ ms r.m.name=k:=jT hf;rw[D0];clear hf D0;have HN:Hid (∀W,Calls be 188 #[Ip #[I r.m.name,O J r.m.state,O J r.m.aP,O J r.m.addr,AT r.m.server],Ip #[I k.name,O J k.state,O J k.aP,O J k.addr,AT k.server]] W λe w'=>e=sh (Il #[AT (fX r.m k==0&&ik r.m k),O J (fX r.m k)])/\Below W.heap.size W w'):=λW=>mX r.m k W hr hk;generalize(fX r.m k==0&&ik r.m k)=q at *;go_wp2_with fail;refine(HN.out _).mono ?_;rintro e w2 ⟨rfl,aD⟩;have bD:Hid (Below w.heap.size w w2):=(aK.out.alloc aK.out.size _).trans (aD.mono (by have:=aK.out.size;simp;omega));clear aD;go_wp2_with fail;go_ret;exact⟨az HR.out.symm,bD.out⟩
theorem Bx(b:Nat)(pm:Option Addr)(nm cm:Nat)(ms:List Mem)(rs:List bu)(v:Value)(w:World)(hv:kB w v rs)(hc:w.cell? ⟨b,2,Y⟩=Z (U pm nm cm))(hm:Sl w (U pm nm cm) ms)(hn:nm<=1000)(Aw:rs.length<=1000) :
 Calls be 187 #[v,I7 (.func 133) #[Ig (Z ⟨b,0,Y⟩)] #[]] w λe w'=>
  ((e=sh (O J (-1))/\Hid (rs.any (dd ms)=false))\/(∃i:Nat,i<rs.length/\e=sh (O J i)/\Hid (rs.any (dd ms)=true)))/\Below w.heap.size w w':=by
 obtain⟨pa,ca,rfl,hs,ha⟩:=hv;have hb:=IE w _ hc;have HA:Hid _:=ha;have HS:Hid _:=hs;have HI:Hid (∀W,Below w.heap.size w W->∀r:bu,r.m.name.size<=maxLen->Calls be 133 #[Ig (Z ⟨b,0,Y⟩),Ip #[I r.m.name,O J r.m.state,O J r.m.aP,O J r.m.addr,AT r.m.server,O J r.told]] W λe w'=>e=sh (AT (dd ms r))/\Below W.heap.size W w'):=λW hW r hr=>
  yW b pm nm cm ms r W (by rw[hW.cell (p:=⟨b,2,Y⟩) hb];exact hc) (hm.below hW) hn hr
 clear ha hs hc hm;generalize hN:rs.length=n at *;have HN:Hid _:=hN;clear hN;go_enter Tryz.func187,Tryz.ntmps187;go_wp2_with fail;go_loopw [8] (λi wr=>∃k:Nat,k<=n/\i=O J k/\Hid (∀j,j<k->dd ms (rs.getD j dr)=false)/\Hid (Below w.heap.size w wr)) (λi _=>n-(intOf i).toNat)
 case atStart=>exact⟨0,IF _,rfl,λj hj=>by omega,Ia _ _⟩
 case round=>
  obtain⟨k,hk,rfl,HZ,HB⟩:=hrel;by_cases aB:k<n
  .obtain⟨b2,off,hZ,dX,hr⟩:∃b off,pa=Z ⟨b,off,Y⟩/\b<w.heap.size/\iX w b off rs:=by
    rcases HA.out with h|h
    .have:=HN.out;rw[h] at this;simp at this;omega
    .exact h
   subst hZ;obtain⟨c0,c1,c2,c3,c4,c5⟩:=hr.below HB.out dX k (by rw[HN.out];exact aB);clear hr;have eX:=HS.out k;have HY:Hid (dd ms (rs.getD k dr)=true->rs.any (dd ms)=true):=λh=>by
    rw[show rs.getD k dr=rs[k]'(by rw[HN.out];exact aB) by simp[Io,Ic (show k<rs.length by rw[HN.out];exact aB)]] at h;exact List.any_eq_true.2 ⟨_,List.getElem_mem _,h⟩
   have fm:Hid (dd ms (rs.getD k dr)=false->∀j,j<k+1->dd ms (rs.getD j dr)=false):=λh j hj=>by
    by_cases e:j=k
    .subst e;exact h
    .exact HZ.out j (by omega)
   have HF:Hid (∀W,Below w.heap.size w W->Calls _ _ _ _ _):=λW hW=>HI.out W hW _ eX;generalize hah:dd ms (rs.getD k dr)=ah at *;clear hah;generalize rs.getD k dr=rk at *;obtain⟨⟨mn,st,lf,ad,sv⟩,td⟩:=rk;simp only at c0 c1 c2 c3 c4 c5 HF;clear HZ;have bb:=HB.out.size;cases ah
   .have jM:Hid _:=fm.out rfl
    clear HY fm;go_wp2_with fail;refine(HF.out _ HB.out).mono ?_;rintro e w1 ⟨rfl,an⟩;have aK:Hid _:=HB.out.trans (an.mono bb);clear an;go_wp2_with fail;go_roundw
    case rel=>exact⟨k+1,by omega,by go_num,jM,aK⟩
    case measure=>simp[intOf];omega
   .have HR:Hid _:=HY.out rfl
    clear HY fm;go_wp2_with fail;refine(HF.out _ HB.out).mono ?_;rintro e w1 ⟨rfl,an⟩;have aK:Hid _:=HB.out.trans (an.mono bb);clear an;go_wp2_with fail;go_ret;exact⟨.inr ⟨k,aB,rfl,HR⟩,aK.out⟩
  .have jM:Hid (rs.any (dd ms)=false):=by
    rcases h:rs.any (dd ms) with _|_
    .rfl
    .obtain⟨r,hr,h2⟩:=List.any_eq_true.1 h
     obtain⟨j,hj,rfl⟩:=List.getElem_of_mem hr;have h3:=HZ.out j (by have:=HN.out;omega);rw[show rs.getD j dr=rs[j] by simp[Io,Ic hj],h2] at h3;cases h3
   clear HZ;go_wp2_with fail;go_ret;exact⟨.inl ⟨rfl,jM⟩,HB.out⟩
theorem wW(b:Nat)(pm:Option Addr)(nm cm:Nat)(ms:List Mem)(rs:List bu)(v:Value)(w:World)(hv:kB w v rs)(hc:w.cell? ⟨b,2,Y⟩=Z (U pm nm cm))(hm:Sl w (U pm nm cm) ms)(hn:nm<=1000)(Aw:rs.length<=1000) :
 Calls be 132 #[v,I7 (.func 133) #[Ig (Z ⟨b,0,Y⟩)] #[]] w λe w'=>e=sh (AT (rs.any (dd ms)))/\Below w.heap.size w w':=by
 have HI:Hid (Calls be 187 #[v,I7 (.func 133) #[Ig (Z ⟨b,0,Y⟩)] #[]] w λe w'=>
  ((e=sh (O J (-1))/\Hid (rs.any (dd ms)=false))\/(∃i:Nat,i<rs.length/\e=sh (O J i)/\Hid (rs.any (dd ms)=true)))/\Below w.heap.size w w'):=Bx b pm nm cm ms rs v w hv hc hm hn Aw
 clear hv hc hm;generalize rs.any (dd ms)=q at *;go_enter Tryz.func132,Tryz.ntmps132;go_wp2_with fail;refine HI.out.mono ?_;rintro e w1 ⟨xq,an⟩;have HB:Hid _:=an;clear an;rcases xq with⟨rfl,HF⟩|⟨i,hi,rfl,HF⟩
 .go_wp2_with fail
  go_ret;exact⟨az HF.out.symm,HB.out⟩
 .go_wp2_with fail
  go_ret;exact⟨az HF.out.symm,HB.out⟩
end Go.Proofs.YtfidjlcdlakceaaGreatDoor
