import Derived.Test.YtfidjlcdlakceaaGreatDoortf10
import Derived.Test.YtfidjlcdlakceaaGreatDoortf7
import Derived.Test.YtfidjlcdlakceaaGreatDoortf12
import Derived.Laws.EntriesVeiled
set_option maxHeartbeats 3200000
set_option maxRecDepth 100000
open Go.Obj renaming cells→AT
open Option renaming none→Y,some→Z
open Go renaming maxLen→Ij,wpList_append_own→I5,heap_alloc_new→Ie,bodyPost_ret→Ix
open Go.Value renaming agg→Im,string→I,int→O,bool→AI,slice→U,tuple→Il
open Go.IntKind renaming i64→J
open Go.Ending renaming returned→sh
open Go.Proofs.Tryz renaming prog→be,underlying223→JH,underlying23→OI,underlying3→IG
open Go.RowKit.Below renaming refl→Ib,heap_alloc→It
open Nat renaming le_refl→By,zero_le→II
open List renaming getD→Io,getElem?_eq_getElem→Ic,getElem?_eq_none→IP,range→QE,all_eq_true→J5,getElem_of_mem→Jw,length_append→Ii
open Go.Maps renaming size→Oc,has→ON
open Array renaming getElem?_eq_some_iff→Ia
open Go.World renaming block_lt_of_cell?→IH,frozen?→Ig
namespace Go.Proofs.YtfidjlcdlakceaaGreatDoor
open Go.RowKit Go.WideMaps Go.Maps
theorem jf(m:Mem):ba [m]=m.e:=by
 unfold ba;by_cases h:m.e=0
 .simp[aV,h,aE]
 .simp[aV,h]
theorem cI{W:World}{cs:Array Value}{t:TypeId}{g k:Nat}(hg:g=W.heap.size):(W.alloc (AT cs t)).cell? ⟨g,k,Y⟩=cs[k]?:=by subst hg;simp
theorem eN(m:Mem)(w:World)(hs:m.name.size<=Ij) :
 Calls be 178 #[Im #[I m.name,O J m.state,O J m.aX,O J m.addr,AI m.server]] w λe w'=>e=sh (O J m.e)/\Below w.heap.size w w':=by
 go_enter Tryz.func178,Tryz.ntmps178;go_wp2_with fail;refine(aW [m] _ _ ⟨_,_,rfl,cB (by simpa using hs),.inr ⟨w.heap.size+1,0,rfl,by simp,?_⟩⟩).mono ?_
 .intro j hj
  have:j=0:=by simpa using hj
  subst this;exact⟨cI (by simp),cI (by simp),cI (by simp),cI (by simp),cI (by simp)⟩
 rintro e w1 ⟨rfl,al⟩;have HB:Hid _:=(((Ib _ _).alloc (By _) _).alloc (by simp) _).trans (al.mono (by simp;omega));clear al;rw[jf];go_wp2_with fail;go_ret;exact⟨rfl,HB.out⟩
def ev(rs:List bE):Prop:=∀i j,i<j->j<rs.length->(rs.getD i dr).m.name≠(rs.getD j dr).m.name
def nR(rs:List bE):List Mem:=rs.map (·.m)
theorem ku(rs:List bE)(k:Nat):(nR rs).getD k dm=(rs.getD k dr).m:=by
 by_cases h:k<rs.length
 .simp[nR,Io,Ic h]
 .simp[nR,Io,IP (by omega:rs.length<=k),dr]
theorem qp(rs:List bE):(nR rs).length=rs.length:=by simp[nR]
def gy(rs:List bE):Prop:=∀j,j<rs.length->within (rs.getD j dr).told 0 100=true
theorem Aj(rs:List bE):((QE rs.length).all λj=>within (rs.getD j dr).told 0 100)=true↔gy rs:=by
 unfold gy;simp only[J5,List.mem_range]
theorem yt(rs:List bE):((QE rs.length).all λj=>(QE j).all λi=>decide ((rs.getD i dr).m.name≠(rs.getD j dr).m.name))=true↔ev rs:=by
 unfold ev;simp only[J5,List.mem_range,decide_eq_true_eq];exact⟨λh i j hi hj=>h j hj i hi,λh j hj i hi=>h i j hi hj⟩
def ee(rs:List bE):Int:=
 if 20<rs.length then 2 else if aV (nR rs)=0 then(@ite _ (gy rs) (decidable_of_iff _ (Aj rs)) (@ite _ (ev rs) (decidable_of_iff _ (yt rs)) 0 6) 3) else aV (nR rs)
theorem Gv{rs:List bE}(h:20<rs.length):ee rs=2:=by unfold ee;rw[if_pos h]
theorem M7{rs:List bE}{k:Nat}(hn:rs.length<=20)(hk:k<rs.length)(hz:∀j,j<k->(rs.getD j dr).m.e=0)(bu:(rs.getD k dr).m.e≠0):ee rs=(rs.getD k dr).m.e:=by
 have h:=dI (nR rs) k (by rw[qp];exact hk) (λj hj=>by rw[ku];exact hz j hj) (by rw[ku];exact bu);rw[ku] at h;unfold ee;rw[if_neg (by omega),if_neg (by rw[h];exact bu),h]
theorem mq{rs:List bE}(hz:∀j,j<rs.length->(rs.getD j dr).m.e=0):aV (nR rs)=0:=
 bY _ (λj hj=>by rw[ku];exact hz j (by rw[qp] at hj;exact hj))
theorem Gx{rs:List bE}{k:Nat}(hn:rs.length<=20)(hz:∀j,j<rs.length->(rs.getD j dr).m.e=0)(hk:k<rs.length)(bu:within (rs.getD k dr).told 0 100=false):ee rs=3:=by
 unfold ee;rw[if_neg (by omega),if_pos (mq hz),if_neg];intro h;rw[h k hk] at bu;cases bu
theorem CX{rs:List bE}(hn:rs.length<=20)(hz:∀j,j<rs.length->(rs.getD j dr).m.e=0)(ht:gy rs)(hd:¬ ev rs):ee rs=6:=by
 unfold ee;rw[if_neg (by omega),if_pos (mq hz),if_pos ht,if_neg hd]
theorem EY{rs:List bE}(hn:rs.length<=20)(hz:∀j,j<rs.length->(rs.getD j dr).m.e=0)(ht:gy rs)(hd:ev rs):ee rs=0:=by
 unfold ee;rw[if_neg (by omega),if_pos (mq hz),if_pos ht,if_pos hd]
theorem acD{rs:List bE}(hd:¬ ev rs):Oc (Dm (eS rs) rs.length)<rs.length:=by
 apply og;apply Classical.byContradiction;intro h;apply hd;intro i j lO hj e;exact h ⟨i,j,lO,hj,by rw[di,di];exact e⟩
theorem acE{rs:List bE}(hd:ev rs):Oc (Dm (eS rs) rs.length)=rs.length:=
 oe _ _ (λi j lO hj=>by rw[di,di];exact hd i j lO hj)
theorem fT(rs:List bE)(v:Value)(w:World)(hv:mj w v rs) :
 Calls be 128 #[v] w λe w'=>e=sh (O J (ee rs))/\Below w.heap.size w w':=by
 have HV:Hid (mj w v rs):=hv;obtain⟨pa,ca,rfl,bA,ha⟩:=hv;by_cases hmany:20<rs.length
 .have HE:Hid _:=Gv hmany
  go_enter Tryz.func128,Tryz.ntmps128;go_wp2_with fail;go_ret;exact⟨aj HE.out.symm,Ib _ _⟩
 have HA:Hid _:=ha;have HS:Hid _:=bA;clear ha bA;generalize hN:rs.length=n at *;have HN:Hid _:=hN;clear hN;have yu:n<=20:=by omega
 go_enter Tryz.func128,Tryz.ntmps128;go_wp2;go_loopw [13] (λi wr=>∃k:Nat,k<=n/\i=O J k/\Hid (∀j,j<k->(rs.getD j dr).m.e=0)/\Hid (Below w.heap.size w wr))
  (λi _=>n-(intOf i).toNat)
 case atStart=>exact⟨0,II _,rfl,λj hj=>by omega,Ib _ _⟩
 case round=>
  obtain⟨k,hk,rfl,HZ,HB⟩:=hrel;by_cases aL:k<n
  .obtain⟨b,off,hp,hl,hr⟩:∃b off,pa=Z ⟨b,off,Y⟩/\b<w.heap.size/\mi w b off rs:=by
    rcases HA.out with h|h
    .have:=HN.out;rw[h] at this;simp at this;omega
    .exact h
   subst hp;obtain⟨c0,c1,c2,c3,c4,c5⟩:=hr.below HB.out hl k (by rw[HN.out];exact aL);have ft:=HS.out k;have HX:Hid ((rs.getD k dr).m.e≠0->ee rs=(rs.getD k dr).m.e):=λh=>M7 (by rw[HN.out];exact yu) (by rw[HN.out];exact aL) HZ.out h;have iS:Hid ((rs.getD k dr).m.e=0->∀j,j<k+1->(rs.getD j dr).m.e=0):=λh j hj=>by
    by_cases e:j=k
    .subst e;exact h
    .exact HZ.out j (by omega)
   generalize(rs.getD k dr)=rk at *;obtain⟨⟨nm,st,lf,ad,sv⟩,td⟩:=rk;simp only at c0 c1 c2 c3 c4 c5 ft HX iS;clear hr HZ;go_wp2_with fail;refine(eN ⟨nm,st,lf,ad,sv⟩ _ ft).mono ?_;rintro e w1 ⟨rfl,al⟩;have aR:Hid _:=(HB.out.alloc HB.out.size _).trans (al.mono (by have:=HB.out.size;simp;omega));clear al c0 c1 c2 c3 c4 c5 HB;by_cases he:(Mem.mk nm st lf ad sv).e=0
   .have ki:((Mem.mk nm st lf ad sv).e !=0)=false:=by simpa using he
    have mr:Hid _:=iS.out he;clear HX iS he;go_wp2_with fail;go_roundw
    case rel=>exact⟨k+1,by omega,by go_num,mr,aR⟩
    case measure=>simp[intOf];omega
   .have ki:((Mem.mk nm st lf ad sv).e !=0)=true:=by simpa using he
    have HE:Hid _:=HX.out he;clear HX iS he;go_wp2_with fail;go_ret;exact⟨aj HE.out.symm,aR.out⟩
  .have HZA:Hid (∀j,j<rs.length->(rs.getD j dr).m.e=0):=λj hj=>HZ.out j (by rw[HN.out] at hj;omega)
   clear HZ;go_wp2_with fail;go_loopw [26] (λi wr=>∃k:Nat,k<=n/\i=O J k/\Hid (∀j,j<k->within (rs.getD j dr).told 0 100=true)/\Hid (Below w.heap.size w wr))
    (λi _=>n-(intOf i).toNat)
   case atStart=>exact⟨0,II _,rfl,λj hj=>by omega,HB⟩
   case round=>
    clear HB aL hk;obtain⟨k2,hk,rfl,HZ,HB⟩:=hrel;by_cases aL:k2<n
    .obtain⟨b,off,hp,hl,hr⟩:∃b off,pa=Z ⟨b,off,Y⟩/\b<w.heap.size/\mi w b off rs:=by
      rcases HA.out with h|h
      .have:=HN.out;rw[h] at this;simp at this;omega
      .exact h
     subst hp;obtain⟨c0,c1,c2,c3,c4,c5⟩:=hr.below HB.out hl k2 (by rw[HN.out];exact aL);have HX:Hid (within (rs.getD k2 dr).told 0 100=false->ee rs=3):=λh=>Gx (by rw[HN.out];exact yu) HZA.out (by rw[HN.out];exact aL) h;have iS:Hid (within (rs.getD k2 dr).told 0 100=true->∀j,j<k2+1->within (rs.getD j dr).told 0 100=true):=λh j hj=>by
      by_cases e:j=k2
      .subst e;exact h
      .exact HZ.out j (by omega)
     generalize(rs.getD k2 dr)=rk at *;obtain⟨⟨nm,st,lf,ad,sv⟩,td⟩:=rk;simp only at c0 c1 c2 c3 c4 c5 HX iS;clear hr HZ;rcases ht:within td 0 100 with _|_
     .have HE:Hid _:=HX.out ht
      clear HX iS;go_wp2_with (go_at_call 70;refine(bD _ _ _ _).mono ?_;rintro e w' ⟨rfl,rfl⟩;rw[ht]);go_ret;exact⟨aj HE.out.symm,HB.out.alloc HB.out.size _⟩
     .have mr:Hid _:=iS.out ht
      clear HX iS;go_wp2_with (go_at_call 70;refine(bD _ _ _ _).mono ?_;rintro e w' ⟨rfl,rfl⟩;rw[ht]);go_roundw
      case rel=>exact⟨k2+1,by omega,by go_num,mr,HB.out.alloc HB.out.size _⟩
      case measure=>simp[intOf];omega
    .have HTA:Hid (gy rs):=λj hj=>HZ.out j (by rw[HN.out] at hj;omega)
     clear HZ;go_wp2_with fail;refine(oY rs _ _ (HV.out.below HB.out) (by rw[HN.out];omega)).mono ?_;rintro e w1 ⟨rfl,hown,al⟩;have HO:Hid (w1.ownsMap _ _ _ _ _ _):=hown;have aR:Hid _:=HB.out.trans (al.mono HB.out.size);clear hown al;have Ak:(Oc (Dm (eS rs) rs.length):Nat)<=n:=by rw[<- HN.out];exact od _ _
     by_cases hd:ev rs
     .have HE:Hid _:=EY (by rw[HN.out];exact yu) HZA.out HTA.out hd
      have HSZ:¬ ((Oc (Dm (eS rs) rs.length):Nat):Int)<n:=by rw[acE hd,HN.out];omega
      go_wp2_with (at_len;refine wpList_len_own _ rfl _ 223 rfl 9 3 JH _ _ _ _ rfl HO.out ?_);go_ret;exact⟨aj HE.out.symm,aR.out⟩
     .have HE:Hid _:=CX (by rw[HN.out];exact yu) HZA.out HTA.out hd
      have HSZ:((Oc (Dm (eS rs) rs.length):Nat):Int)<n:=by have:=acD hd;have:=HN.out;omega
      go_wp2_with (at_len;refine wpList_len_own _ rfl _ 223 rfl 9 3 JH _ _ _ _ rfl HO.out ?_);go_ret;exact⟨aj HE.out.symm,aR.out⟩
end Go.Proofs.YtfidjlcdlakceaaGreatDoor
namespace Go.Proofs.YtfidjlcdlakceaaGreatDoor
open Go.RowKit
def du(ms:List Mem)(t:ByteArray):Option Mem:=ms.find? λm=>decide (m.name=t)
def eD(ms:List Mem)(t:ByteArray):Mem:=(du ms t).getD dm
def tL(ms:List Mem)(t:ByteArray):Bool:=decide ((eD ms t).state=3)||decide ((eD ms t).state=4)
theorem qu{ms:List Mem}{t:ByteArray}(h:∀j,j<ms.length->(ms.getD j dm).name≠t):du ms t=Y:=by
 unfold du;rw[List.find?_eq_none];intro x hx;obtain⟨j,hj,rfl⟩:=Jw hx;have:=h j hj;rw[show ms.getD j dm=ms[j] by simp[Io,Ic hj]] at this;simpa using this
theorem qv{ms:List Mem}{t:ByteArray}{k:Nat}(hk:k<ms.length)(h1:∀j,j<k->(ms.getD j dm).name≠t)(h2:(ms.getD k dm).name=t):du ms t=Z (ms.getD k dm):=by
 unfold du;rw[show ms.getD k dm=ms[k] by simp[Io,Ic hk]] at h2 ⊢;rw[List.find?_eq_some_iff_getElem];refine⟨by simpa using h2,k,hk,rfl,λj hj=>?_⟩;have:=h1 j hj;rw[show ms.getD j dm=ms[j]'(by omega) by simp[Io,Ic (show j<ms.length by omega)]] at this;simpa using this
theorem o5{ms:List Mem}{t:ByteArray}{m:Mem}(h:du ms t=Z m):m∈ms/\m.name=t:=by
 unfold du at h;exact⟨List.mem_of_find?_eq_some h,by simpa using List.find?_some h⟩
def nS(ms:List Mem):Prop:=∀i j,i<j->j<ms.length->(ms.getD i dm).name≠(ms.getD j dm).name
def apB(ms:List Mem):Bool:=(QE ms.length).all λj=>(QE j).all λi=>decide ((ms.getD i dm).name≠(ms.getD j dm).name)
theorem yw(ms:List Mem):apB ms=true↔nS ms:=by
 simp only[apB,J5,List.mem_range,decide_eq_true_eq];exact⟨λh i j lO hj=>h j hj i lO,λh j hj i lO=>h i j lO hj⟩
def lH(ms:List Mem):Int:=if 5<ms.length then 2 else if aV ms=0 then(if apB ms=true then 0 else 6) else aV ms
theorem Gy{ms:List Mem}(h:5<ms.length):lH ms=2:=if_pos h
theorem XQ{ms:List Mem}{k:Nat}(hn:ms.length<=5)(hk:k<ms.length)(hz:∀j,j<k->(ms.getD j dm).e=0)(bu:(ms.getD k dm).e≠0):lH ms=(ms.getD k dm).e:=by
 have h:=dI ms k hk hz bu;rw[lH,if_neg (by omega),h,if_neg bu]
theorem CY{ms:List Mem}(hn:ms.length<=5)(hz:∀j,j<ms.length->(ms.getD j dm).e=0)(hd:¬ nS ms):lH ms=6:=by
 rw[lH,if_neg (by omega),if_pos (bY ms hz),if_neg (λh=>hd ((yw ms).1 h))]
theorem Tq{ms:List Mem}(hn:ms.length<=5)(hz:∀j,j<ms.length->(ms.getD j dm).e=0)(hd:nS ms):lH ms=0:=by
 rw[lH,if_neg (by omega),if_pos (bY ms hz),if_pos ((yw ms).2 hd)]
theorem Gz{ms:List Mem}(h:lH ms=0):ms.length<=5/\aV ms=0/\nS ms:=by
 unfold lH at h;split at h
 .cases h
 .split at h
  .rename_i h1 h2
   split at h
   .rename_i h3;exact⟨by omega,h2,(yw ms).1 h3⟩
   .cases h
  .rename_i h1 h2;exact absurd h h2
structure Pk where
 dN:ByteArray
 whole:Bool
 ms:List Mem
 sv:List Sv.aI
 gw:List Gw.cD
 wh:List Wh.bC
def Pk.alone(p:Pk):Bool:=p.sv.isEmpty&&(p.gw.isEmpty&&p.wh.isEmpty)
def Pk.mE(p:Pk):Int:=if p.whole=true then ba p.ms else lH p.ms
def Pk.e(p:Pk):Int:=
 if(aN p.dN&&(p.whole||p.alone))=true then
  (if p.mE=0 then(if Sv.ba p.sv=0 then(if Gw.ba p.gw=0 then Wh.ba p.wh else Gw.ba p.gw) else Sv.ba p.sv) else p.mE)
 else 1
structure Nd where
 name:ByteArray
 ai:ByteArray
 ms:List Mem
 rs:List bE
 sv:List Sv.aI
 gw:List Gw.cD
 p:Pl
 wh:List Wh.bC
def yx(ms:List Mem)(r:bE):Bool:=match du ms r.m.name with
 |none=>true
 |some k=>jG r.m k
def Nd.wE(n:Nd):Int:=match du n.ms n.name with
 |none=>5
 |some m=>if m.state=2\/m.state=3 then 4 else if n.rs.any (yx n.ms)=true then 4 else 0
def Nd.pE(n:Nd):Int:=
 if(aN n.name&&aN n.ai)=true then
  (if ba n.ms=0 then(if ee n.rs=0 then(if Sv.ba n.sv=0 then(if Gw.ba n.gw=0 then(if cJ n.p=0 then Wh.ba n.wh else cJ n.p) else Gw.ba n.gw) else Sv.ba n.sv) else ee n.rs) else ba n.ms)
 else 1
def Nd.e(n:Nd):Int:=if n.pE=0 then n.wE else n.pE
structure Nd.WC(n:Nd):Prop where
 name:aN n.name=true
 ai:aN n.ai=true
 ms:ba n.ms=0
 rs:ee n.rs=0
 sv:Sv.ba n.sv=0
 gw:Gw.ba n.gw=0
 p:cJ n.p=0
 wh:Wh.ba n.wh=0
theorem Nd.parts{n:Nd}(h:n.pE=0):n.WC:=by
 unfold Nd.pE at h;split at h
 .rename_i h0
  rw[Bool.and_eq_true] at h0;split at h
  .rename_i h1
   split at h
   .rename_i h2
    split at h
    .rename_i h3
     split at h
     .rename_i h4
      split at h
      .rename_i h5;exact⟨h0.1,h0.2,h1,h2,h3,h4,h5,h⟩
      .rename_i h5;exact absurd h h5
     .rename_i h4;exact absurd h h4
    .rename_i h3;exact absurd h h3
   .rename_i h2;exact absurd h h2
  .rename_i h1;exact absurd h h1
 .cases h
theorem Nd.gx{n:Nd}(h:n.e=0):n.pE=0/\n.wE=0:=by
 unfold Nd.e at h;split at h
 .rename_i h1;exact⟨h1,h⟩
 .rename_i h1;exact absurd h h1
def bE.cs(r:bE):List Value:=[I r.m.name,O J r.m.state,O J r.m.aX,O J r.m.addr,AI r.m.server,O J r.told]
def eO(rs:List bE):List Value:=rs.flatMap bE.cs
theorem iP(r:bE):r.cs.length=6:=rfl
theorem kx(m:bE)(r:List bE):eO (m::r)=m.cs++eO r:=by simp[eO]
theorem tM(a b:List bE):eO (a++b)=eO a++eO b:=by simp[eO]
theorem dO:∀ms:List bE,(eO ms).length=ms.length*6
 |[]=>rfl
 |m::r=>by rw[kx,Ii,dO r,iP,List.length_cons];omega
theorem tN:∀(ms:List bE) (i:Nat),(eO ms).take (i*6)=eO (ms.take i)
 |[],i=>by simp[eO]
 |m::r,0=>by simp[eO]
 |m::r,i+1=>by
  rw[kx,List.take_succ_cons,kx,show(i+1)*6=m.cs.length+i*6 by rw[iP];omega,List.take_length_add_append,tN r i]
theorem Al:∀(ms:List bE) (i:Nat),(eO ms).drop (i*6)=eO (ms.drop i)
 |[],i=>by simp[eO]
 |m::r,0=>by simp
 |m::r,i+1=>by
  rw[kx,List.drop_succ_cons,show(i+1)*6=m.cs.length+i*6 by rw[iP];omega,List.drop_length_add_append,Al r i]
theorem yy(m:bE):∀v∈m.cs,v.oneCell'=true:=by
 intro v hv;simp[bE.cs] at hv;rcases hv with rfl|rfl|rfl|rfl|rfl|rfl<;>rfl
theorem EZ(ms:List bE):∀v∈eO ms,v.oneCell'=true:=by
 intro v hv;obtain⟨m,_,h⟩:=List.mem_flatMap.1 hv;exact yy m v h
theorem kZ(ms:List bE)(j:Nat)(hj:j<ms.length)(t:Nat)(ht:t<6):(eO ms)[j*6+t]?=(ms.getD j dr).cs[t]?:=by
 induction ms generalizing j with
 |nil=>simp at hj
 |cons m r ih=>
  rw[kx];cases j with
  |zero=>rw[List.getElem?_append_left (by rw[iP];omega)];simp
  |succ j=>
   rw[List.getElem?_append_right (by rw[iP];omega),iP,show(j+1)*6+t-6=j*6+t by omega,ih j (by simpa using hj)];simp
abbrev cd(base:Nat)(w:World)(v:Value)(ms:List bE):Prop:=w.ownsRow base 95 6 v ms.length (eO ms)
theorem Am(base:Nat)(w:World):cd base w (U Y 0 0) []:=World.ownsRow_nil w base 95 6
theorem xi{base:Nat}{w:World}{v:Value}{L:List bE}{m:bE}(h:w.ownsRow base 95 6 v (L.length+1) (eO L++m.cs)):cd base w v (L++[m]):=by
 have e:eO (L++[m])=eO L++m.cs:=by rw[tM,kx];simp[eO]
 show w.ownsRow base 95 6 v (L++[m]).length (eO (L++[m]));rw[e,Ii];exact h
theorem Tr{rs:List bE}(h:∀r∈rs,r.m.name.size<=Ij):∀j,(rs.getD j dr).m.name.size<=Ij:=λj=>by
 by_cases hj:j<rs.length
 .rw[show rs.getD j dr=rs[j] by simp[Io,Ic hj]]
  exact h _ (List.getElem_mem hj)
 .rw[show rs.getD j dr=dr by simp[Io,IP (by omega:rs.length<=j)]]
  exact II _
theorem Ts{rs:List bE}(h:∀j,(rs.getD j dr).m.name.size<=Ij):∀m∈rs,m.m.name.size<=Ij:=by
 intro m hm;obtain⟨j,hj,rfl⟩:=Jw hm;have:=h j
 rwa [show rs.getD j dr=rs[j] by simp[Io,Ic hj]] at this
theorem cd.sl{base:Nat}{w:World}{v:Value}{ms:List bE}(h:cd base w v ms)(hs:∀j,(ms.getD j dr).m.name.size<=Ij):mj w v ms:=by
 rcases h.2 with⟨rfl,h0⟩|⟨g,c,cur,rfl,dQ,hg,eC,dj,cM,aO⟩
 .exact⟨Y,0,by rw[h0],hs,.inl (List.eq_nil_of_length_eq_zero h0)⟩
 .refine⟨_,c,rfl,hs,.inr ⟨g,0,rfl,(Ia.1 hg).1,λj hj=>?_⟩⟩
  have hc:∀t,t<6->w.cell? ⟨g,0+j*6+t,Y⟩=(ms.getD j dr).cs[t]?:=λt ht=>by
   rw[af hg,<- kZ ms j hj t ht,<- aO,List.getElem?_take_of_lt (by omega)];simp
  exact⟨hc 0 (by omega),hc 1 (by omega),hc 2 (by omega),hc 3 (by omega),hc 4 (by omega),hc 5 (by omega)⟩
theorem cd.below{base:Nat}{w w':World}{v:Value}{ms:List bE}(h:cd base w v ms)(hb:Below w.heap.size w w'):cd base w' v ms:=by
 obtain⟨h1,h2⟩:=h;refine⟨h1,?_⟩;rcases h2 with h2|⟨g,c,cur,hv,dQ,hg,hr⟩
 .exact .inl h2
 .exact .inr ⟨g,c,cur,hv,dQ,by rw[hb.block g (Ia.1 hg).1];exact hg,hr⟩
theorem cd.base{b b':Nat}{w:World}{v:Value}{ms:List bE}(h:cd b w v ms)(hb:b'<=b):cd b' w v ms:=by
 obtain⟨h1,h2⟩:=h;refine⟨h1,?_⟩;rcases h2 with h2|⟨g,c,cur,hv,dQ,hr⟩
 .exact .inl h2
 .exact .inr ⟨g,c,cur,hv,Nat.le_trans hb dQ,hr⟩
theorem cd.lt{base:Nat}{w:World}{v:Value}{ms:List bE}(h:cd base w v ms)(k:Nat)(hk:v.ownBlock=Z k):base<=k/\k<w.heap.size:=World.ownsRow.lt h k hk
theorem cd.slice{base:Nat}{w:World}{v:Value}{ms:List bE}(h:cd base w v ms):∃a c,v=U a ms.length c:=by
 rcases h.2 with⟨rfl,h0⟩|⟨g,c,cur,rfl,_⟩
 .exact⟨Y,0,by rw[h0]⟩
 .exact⟨_,c,rfl⟩
theorem Tryz.xj:(Tryz.prog.info? 95).map (λi=>(i.zero,i.size,i.bytes))=Z (Z (Im #[I ⟨#[]⟩,O J 0,O J 0,O J 0,AI false,O J 0]),6,56):=by kernel_rfl
theorem GA{rs:List bE}{w:World}{b off:Nat}(hr:mi w b off rs){j:Nat}{u:Value}(hj:(eO rs)[j]?=Z u):w.cell? ⟨b,off+j,Y⟩=Z u:=by
 have Sm:j<rs.length*6:=by rw[<- dO];exact(List.getElem?_eq_some_iff.1 hj).1
 have h1:=kZ rs (j/6) (by omega) (j%6) (by omega);rw[show j/6*6+j%6=j by omega,hj] at h1;obtain⟨c0,c1,c2,c3,c4,c5⟩:=hr (j/6) (by omega);have cM:j%6=0\/j%6=1\/j%6=2\/j%6=3\/j%6=4\/j%6=5:=by omega
 rcases cM with e|e|e|e|e|e
 .rw[show off+j=off+j/6*6 by omega,c0];rw[e] at h1;simpa[bE.cs] using h1.symm
 .rw[show off+j=off+j/6*6+1 by omega,c1];rw[e] at h1;simpa[bE.cs] using h1.symm
 .rw[show off+j=off+j/6*6+2 by omega,c2];rw[e] at h1;simpa[bE.cs] using h1.symm
 .rw[show off+j=off+j/6*6+3 by omega,c3];rw[e] at h1;simpa[bE.cs] using h1.symm
 .rw[show off+j=off+j/6*6+4 by omega,c4];rw[e] at h1;simpa[bE.cs] using h1.symm
 .rw[show off+j=off+j/6*6+5 by omega,c5];rw[e] at h1;simpa[bE.cs] using h1.symm
theorem fU(rs:List bE)(v:Value)(w:World)(h:mj w v rs)(hn:rs.length<=1000) :
 Calls be 90 #[v] w λe w'=>∃v',e=sh v'/\cd w.heap.size w' v' rs/\Below w.heap.size w w':=by
 obtain⟨a,cap,rfl,hs,h⟩:=h;obtain⟨i0,ei,bW,fs,eU⟩:=info_parts Tryz.xj;cases a with
 |none=>
  have he:rs=[]:=by
   rcases h with h|⟨b,off,h,_⟩
   .exact h
   .cases h
  subst he;clear h hs;have iD:=λ(w:World)=>Lib.run_eql_slice_nil (P:=be) w 23 95 Y 0 cap 0 0 OI;simp only[List.length_nil,Option.isNone_none] at iD ⊢;go_enter Tryz.func90,Tryz.ntmps90;go_wp2_with fail;go_ret;exact⟨_,rfl,Am _ _,Ib _ _⟩
 |some a=>
  have iD:=λ(w:World)=>Lib.run_eql_slice_nil (P:=be) w 23 95 (Z a) rs.length cap 0 0 OI;simp only[Option.isNone_some] at iD;have hnews:Hid (∀j u,(eO rs)[j]?=Z u->(w.alloc (AT #[] 95)).cell? (a.add j)=Z u):=by
   intro j u hj;rcases h with h|⟨b,off,h,hb,hr⟩
   .subst h;simp[eO] at hj
   .cases h
    rw[Addr.add_lit,World.cell?_alloc_past (w:=w) _ b _ hb];exact GA hr hj
  have HO:Hid ((w.alloc (AT #[] 95)).ownsRow w.heap.size 95 6 (U (Z ⟨w.heap.size,0,Y⟩) 0 0) 0 []):=World.ownsRow_made w #[] 0 (By _) (by unfold Ij;omega) rfl;clear h hs;go_enter Tryz.func90,Tryz.ntmps90;go_wp2_with (at_builtin;refine I5 _ rfl _ _ 23 rfl w.heap.size 95 i0 _ 6 56 OI ei bW fs eU rfl (by omega) _ 0 [] rfl HO.out a rs.length cap (eO rs) rfl (dO rs) hnews.out (EZ rs) (by unfold Ij;omega) (by omega) (by simp) ?_);intro v' w' r1 r2 r3;go_wp2_with fail;go_ret;refine⟨v',rfl,?_,?_⟩
  .simpa using r1
  .exact((Ib _ _).alloc (By _) _).grown r2 (by simp) (λk hk=>by simp[Value.ownBlock] at hk;omega)
end Go.Proofs.YtfidjlcdlakceaaGreatDoor
namespace Go.Proofs.YtfidjlcdlakceaaGreatDoor
open Go.RowKit Go.WideMaps Go.Maps
theorem o6{w:World}{b n:Nat}{D:DataW Unit}(h:w.ownsMap be 9 (plainElem (H:=Unit) be 3) b n D){s:ByteArray}(hs:s.size<=Ij) :
 ∃c:Int,(Instr.lookup 223 (.map (Z b)) (I s) true).run be w=.ok (Il #[O J c,AI (ON D (kS s))]) w/\D.atKey (kS s) (.lit (.int J 0))=.lit (.int J c):=by
 obtain⟨v,ps,ia,hv⟩:=h.look_ok Tg JH (MN _) (plainElem_int IG (by decide)) (keyOf_string_mk Tryz.underlying9 hs);obtain⟨c,rfl,hc,_⟩:=plainElem_int_inv IG hv;exact⟨c,ia,congrArg Prod.fst hc⟩
def E5(rs:List bE)(nm:ByteArray):Prop:=∀j,j<rs.length->(rs.getD j dr).m.name≠nm
theorem E7{rs:List bE}{nm:ByteArray}(h:E5 rs nm):ON (Dm (eS rs) rs.length) (kS nm)=false:=by
 cases hh:ON (Dm (eS rs) rs.length) (kS nm)
 .rfl
 .obtain⟨j,hj,e⟩:=(qb _ _ _).1 hh
  rw[di] at e;exact absurd e (h j hj)
theorem Tt(rs:List bE)(v:Value)(m:Mem)(w:World)(hv:mj w v rs)(hm:m.name.size<=Ij)(h0:ee rs=0)(he:m.e=0)(iV:E5 rs m.name)(hl:rs.length<20) :
 Calls be 203 #[v,Im #[I m.name,O J m.state,O J m.aX,O J m.addr,AI m.server]] w λe w'=>∃v',e=sh (Il #[v',O J 0])/\cd w.heap.size w' v' (rs++[⟨m,0⟩])/\Below w.heap.size w w':=by
 obtain⟨i0,ei,bW,fs,eU⟩:=info_parts Tryz.xj;have HV:Hid (mj w v rs):=hv;have ji:=λ(w:World) (h:mj w v rs)=>fT rs v w h;rw[h0] at ji;have dj:=λw=>eN m w hm;rw[he] at dj;have HH:Hid _:=E7 iV;clear h0 he hv;obtain⟨nm,st,lf,ad,sv⟩:=m;simp only at *;have lR:Below w.heap.size w (w.alloc (AT #[I nm,O J st,O J lf,O J ad,AI sv] 70)):=(Ib _ _).alloc (By _) _;go_enter Tryz.func203,Tryz.ntmps203;go_wp2_with fail;refine(ji _ (HV.out.below lR)).mono ?_;rintro e w1 ⟨rfl,al⟩;have c1:∀o,w1.cell? ⟨w.heap.size,o,Y⟩=#[I nm,O J st,O J lf,O J ad,AI sv][o]?:=λo=>by
  rw[al.cell (p:=⟨w.heap.size,o,Y⟩) (by simp)];exact cI rfl
 have aR:Hid _:=lR.trans (al.mono (by simp));have cS:w.heap.size<w1.heap.size:=by have:=al.size;simp at this;omega
 clear al lR ji;go_wp2_with fail;refine(dj _).mono ?_;rintro e w2 ⟨rfl,aC⟩;have c2:∀o,w2.cell? ⟨w.heap.size,o,Y⟩=#[I nm,O J st,O J lf,O J ad,AI sv][o]?:=λo=>by
  rw[aC.cell (p:=⟨w.heap.size,o,Y⟩) (by simp only;omega)];exact c1 o
 have bw:Hid _:=aR.out.trans (aC.mono aR.out.size);have iX:w.heap.size<w2.heap.size:=by have:=aC.size;omega
 clear aC c1 cS aR dj;go_wp2_with fail;refine(fU rs v _ (HV.out.below bw.out) (by omega)).mono ?_;rintro e w3 ⟨v3,rfl,nf,bf⟩;have eB:Hid (cd _ _ _ _):=nf;have c3:w3.cell? ⟨w.heap.size,0,Y⟩=Z (I nm):=by
  rw[bf.cell (p:=⟨w.heap.size,0,Y⟩) (by simp only;omega)];exact c2 0
 have C3:Hid (∀o,w3.cell? ⟨w.heap.size,o,Y⟩=#[I nm,O J st,O J lf,O J ad,AI sv][o]?):=λo=>by
  rw[bf.cell (p:=⟨w.heap.size,o,Y⟩) (by simp only;omega)];exact c2 o
 have da:Hid _:=bw.out.trans (bf.mono bw.out.size);have lN:w.heap.size<w3.heap.size:=by have:=bf.size;omega
 have XR:=bf.size;clear bf nf c2;go_wp2_with fail;go_region_held3 (λw'=>w'.cell? ⟨w.heap.size,0,Y⟩=Z (I nm)) (first|assumption|go_keep) (first|(go_at_call 179;refine(oY rs v _ ((HV.out.below da.out).below (Ib _ _).drew) (by omega)).mono ?_;rintro e w4 ⟨rfl,hown,fa⟩;obtain⟨cq,ia,cA⟩:=o6 hown hm;rw[HH.out] at ia;have EV:(Instr.lookup 223 (.map (Z w3.heap.size)) (I nm) true).run be w4=.ok (Il #[O J cq,AI false]) w4:=ia;clear ia cA hown;have gJ:Hid (Below w3.heap.size w3 w4):=(Ib w3.heap.size w3).drew.trans fa;have hS:w4.cell? ⟨w.heap.size,0,Y⟩=Z (I nm):=((fa.cell (p:=⟨w.heap.size,0,Y⟩) lN).trans c3);clear fa))
 obtain⟨a3,CZ,GB⟩:=eB.out.slice;subst GB;have C4:∀o,w4.cell? ⟨w.heap.size,o,Y⟩=#[I nm,O J st,O J lf,O J ad,AI sv][o]?:=λo=>by
  rw[gJ.out.cell (p:=⟨w.heap.size,o,Y⟩) lN];exact C3.out o
 have o7:Hid (cd _ _ _ _):=eB.out.below gJ.out;have jE:Hid _:=da.out.trans (gJ.out.mono da.out.size);have gG:w2.heap.size<=w4.heap.size:=by have:=gJ.out.size;omega
 have nT:Hid (∀ob,(w4.alloc ob).ownsRow w2.heap.size 95 6 (U a3 rs.length CZ) rs.length (eO rs)):=λob=>o7.out.below ((Ib _ _).alloc (By _) _);have E9:Hid (∀k,(Value.slice a3 rs.length CZ).ownBlock=Z k->w.heap.size<=k):=λk hk=>by have:=(o7.out.lt k hk).1;omega
 have HSN:Hid (∀(w':World) (v':Value),w'.ownsRow w2.heap.size 95 6 v' (rs.length+1) (eO rs++(bE.mk ⟨nm,st,lf,ad,sv⟩ 0).cs)->cd w.heap.size w' v' (rs++[⟨⟨nm,st,lf,ad,sv⟩,0⟩])):=λw' v' h=>(xi h).base (by omega);clear eB C3 gJ da c3 EV o7;generalize hN:rs.length=n at *;have HN:Hid _:=hN;clear hN;go_wp2_with (at_builtin;refine I5 _ rfl _ _ 23 rfl w2.heap.size 95 i0 _ 6 56 OI ei bW fs eU rfl (by omega) _ n (eO rs) rfl ?hown ⟨w4.heap.size,0,Y⟩ 1 1 (bE.mk ⟨nm,st,lf,ad,sv⟩ 0).cs rfl rfl ?hnews (yy _) ?h63 ?hbytes ?hbase ?_)
 case hown=>exact nT.out _
 case hnews=>(intro j u hj;rw[Addr.add_lit];exact(af (Ie w4 (AT #[I nm,O J st,O J lf,O J ad,AI sv,O J 0] 95)) (0+j)).trans (by simpa[bE.cs] using hj))
 case h63=>(unfold Ij;omega)
 case hbytes=>omega
 case hbase=>(simp;omega)
 intro v' w5 r1 r2 r3;have R1:Hid (cd _ _ _ _):=HSN.out w5 v' r1;have R2:Hid _:=(jE.out.alloc jE.out.size _).grown r2 (by have:=jE.out.size;simp;omega) (λk hk=>E9.out k hk);clear r1 r2 r3;go_wp2_with fail;go_ret2;exact⟨v',rfl,R1.out,R2.out⟩
end Go.Proofs.YtfidjlcdlakceaaGreatDoor
namespace Go.Proofs.YtfidjlcdlakceaaGreatDoor
open Go.RowKit
theorem XS(a b:ByteArray):(a.toList==b.toList)=decide (a=b):=by
 by_cases h:a=b
 .subst h;simp
 .rw[(hY h).1,decide_eq_false h]
theorem M8(m:Mem)(nb:Nat)(nm:ByteArray)(w:World)(h:w.cell? ⟨nb,0,Y⟩=Z (I nm)) :
 Calls be 241 #[Im #[I m.name,O J m.state,O J m.aX,O J m.addr,AI m.server],.pointer (Z ⟨nb,0,Y⟩)] w λe w'=>e=sh (AI (decide (m.name=nm)))/\w'=w.alloc (AT #[I m.name,O J m.state,O J m.aX,O J m.addr,AI m.server] 70):=by
 have hb:nb<w.heap.size:=IH w _ h;have h2:∀ob,(w.alloc ob).cell? ⟨nb,0,Y⟩=Z (I nm):=λob=>by
  rw[((Ib w.heap.size w).alloc (By _) ob).cell (p:=⟨nb,0,Y⟩) hb];exact h
 obtain⟨mn,st,lf,ad,sv⟩:=m;go_enter Tryz.func241,Tryz.ntmps241;go_wp2_with fail;go_ret;exact⟨aD (XS _ _),rfl⟩
theorem C5(ms:List Mem)(pa:Option Addr)(n c nb:Nat)(nm:ByteArray)(w:World)(hv:Sl w (U pa n c) ms)(CK:n<=1000)(ht:w.cell? ⟨nb,0,Y⟩=Z (I nm)) :
 Calls be 158 #[U pa n c,.func (.func 241) #[] #[.pointer (Z ⟨nb,0,Y⟩)]] w λe w'=>
  ((e=sh (O J (-1))/\Hid (du ms nm=Y))\/(∃i:Nat,i<n/\e=sh (O J i)/\Hid (du ms nm=Z (ms.getD i dm))))/\Below w.heap.size w w':=by
 obtain⟨pa',ca,he,_,ha⟩:=hv;simp only[Value.slice.injEq] at he;obtain⟨rfl,hN,rfl⟩:=he;have HA:Hid (ms=[]\/∃b off,pa=Z ⟨b,off,Y⟩/\b<w.heap.size/\Row w b off ms):=ha;have HN:Hid (ms.length=n):=hN.symm;have HT:Hid (w.cell? ⟨nb,0,Y⟩=Z (I nm)):=ht;have Tu:nb<w.heap.size:=IH w _ ht;clear ha hN ht;go_enter Tryz.func158,Tryz.ntmps158;go_wp2_with fail;go_loopw [8] (λi wr=>∃k:Nat,k<=n/\i=O J k/\Hid (∀j,j<k->(ms.getD j dm).name≠nm)/\Hid (Below w.heap.size w wr)) (λi _=>n-(intOf i).toNat)
 case atStart=>exact⟨0,II _,rfl,λj hj=>by omega,Ib _ _⟩
 case round=>
  obtain⟨k,hk,rfl,HZ,HB⟩:=hrel;by_cases aL:k<n
  .obtain⟨b,off,lP,eY,hr⟩:∃b off,pa=Z ⟨b,off,Y⟩/\b<w.heap.size/\Row w b off ms:=by
    rcases HA.out with h|h
    .have:=HN.out;rw[h] at this;simp at this;omega
    .exact h
   subst lP;obtain⟨c0,c1,c2,c3,c4⟩:=hr.later HB.out eY k (by rw[HN.out];exact aL);clear hr;have Fa:wr.cell? ⟨nb,0,Y⟩=Z (I nm):=by rw[HB.out.cell (p:=⟨nb,0,Y⟩) Tu];exact HT.out
   have HY:Hid ((ms.getD k dm).name=nm->du ms nm=Z (ms.getD k dm)):=λh=>qv (by rw[HN.out];exact aL) HZ.out h;have iS:Hid ((ms.getD k dm).name≠nm->∀j,j<k+1->(ms.getD j dm).name≠nm):=λh j hj=>by
    by_cases e:j=k
    .subst e;exact h
    .exact HZ.out j (by omega)
   have hF:=λw h=>M8 (ms.getD k dm) nb nm w h;by_cases kN:(ms.getD k dm).name=nm
   .have HF:Hid (du ms nm=Z (ms.getD k dm)):=HY.out kN
    rw[decide_eq_true kN] at hF;clear kN iS HY;generalize M9:ms.getD k dm=mk at *;have HMK:Hid (ms.getD k dm=mk):=M9;clear M9;obtain⟨mn,st,lf,ad,sv⟩:=mk;simp only at c0 c1 c2 c3 c4 hF;go_wp2_with fail;refine(hF _ Fa).mono ?_;rintro e w1 ⟨rfl,rfl⟩;go_wp2_with fail;go_ret;exact⟨.inr ⟨k,aL,rfl,by rw[HMK.out];exact HF⟩,HB.out.alloc HB.out.size _⟩
   .have mr:Hid (∀j,j<k+1->(ms.getD j dm).name≠nm):=iS.out kN
    rw[decide_eq_false kN] at hF;clear kN iS HY HZ;generalize ms.getD k dm=mk at *;obtain⟨mn,st,lf,ad,sv⟩:=mk;simp only at c0 c1 c2 c3 c4 hF;go_wp2_with fail;refine(hF _ Fa).mono ?_;rintro e w1 ⟨rfl,rfl⟩;go_wp2_with fail;go_roundw
    case rel=>exact⟨k+1,by omega,by go_num,mr,HB.out.alloc HB.out.size _⟩
    case measure=>simp[intOf];omega
  .have mr:Hid (du ms nm=Y):=qu λj hj=>HZ.out j (by have:=HN.out;omega)
   clear HZ;go_wp2_with fail;go_ret;exact⟨.inl ⟨rfl,mr⟩,HB.out⟩
abbrev eQ(here:ByteArray)(vs vm:Value)(px py pz ph pq:Int)(vw:Value):Array Value:=#[I here,vs,vm,O J px,O J py,O J pz,O J ph,O J pq,vw]
theorem xk{ms:List Mem}{t:ByteArray}{m:Mem}(h:du ms t=Z m):eD ms t=m:=by unfold eD;rw[h];rfl
theorem xl{ms:List Mem}{t:ByteArray}(h:du ms t=Y):eD ms t=dm:=by unfold eD;rw[h];rfl
theorem rI(here:ByteArray)(ps pm pw:Option Addr)(ns cs nm cm nw cw:Nat)(px py pz ph pq:Int)(ms:List Mem)(t:ByteArray)(w:World)(hm:Sl w (U pm nm cm) ms)(hn:nm<=1000) :
 Calls be 192 #[Im (eQ here (U ps ns cs) (U pm nm cm) px py pz ph pq (U pw nw cw)),I t] w λe w'=>e=sh (Im #[I (eD ms t).name,O J (eD ms t).state,O J (eD ms t).aX,O J (eD ms t).addr,AI (eD ms t).server])/\Below w.heap.size w w':=by
 have HM:Hid (Sl w (U pm nm cm) ms):=hm;clear hm;go_enter Tryz.func192,Tryz.ntmps192;go_wp2_with fail;obtain⟨W,hW⟩:∃W,W=((w.alloc (AT (eQ here (U ps ns cs) (U pm nm cm) px py pz ph pq (U pw nw cw)) 137)).alloc (AT #[I t] 9)).alloc (AT #[I ⟨#[]⟩,O J 0,O J 0,O J 0,AI false] 70):=⟨_,rfl⟩;rw[<- hW];have ez:Below w.heap.size w W:=by rw[hW];exact(((Ib _ _).alloc (By _) _).alloc (by simp) _).alloc (by simp;omega) _
 have dt:W.heap[w.heap.size]?=Z (AT (eQ here (U ps ns cs) (U pm nm cm) px py pz ph pq (U pw nw cw)) 137 (0,0)):=by
  rw[hW,It _ _ _ (by simp;omega),It _ _ _ (by simp)];exact Ie w _
 have bb:W.heap[w.heap.size+1]?=Z (AT #[I t] 9 (0,0)):=by
  rw[hW,It _ _ _ (by simp)];have h:=Ie (w.alloc (AT (eQ here (U ps ns cs) (U pm nm cm) px py pz ph pq (U pw nw cw)) 137)) (AT #[I t] 9);simpa using h
 have iL:W.heap[w.heap.size+2]?=Z (AT #[I ⟨#[]⟩,O J 0,O J 0,O J 0,AI false] 70 (0,0)):=by
  rw[hW];have h:=Ie ((w.alloc (AT (eQ here (U ps ns cs) (U pm nm cm) px py pz ph pq (U pw nw cw)) 137)).alloc (AT #[I t] 9)) (AT #[I ⟨#[]⟩,O J 0,O J 0,O J 0,AI false] 70);simpa using h
 have oX:w.heap.size+3<=W.heap.size:=by rw[hW];simp
 clear hW;refine(C5 ms pm nm cm _ t W (HM.out.below ez) hn (af bb 0)).mono ?_;rintro e w1 ⟨zL,al⟩;have h0:w1.heap[w.heap.size]?=_:=(al.block _ (by omega)).trans dt;have h2:w1.heap[w.heap.size+2]?=_:=(al.block _ (by omega)).trans iL;have HB:Hid (Below w.heap.size w w1):=ez.trans (al.mono (by omega));have WD:Hid (Sl w1 (U pm nm cm) ms):=HM.out.below HB.out;have d2:w1.cell? ⟨w.heap.size,2,Y⟩=Z (U pm nm cm):=af h0 2;have r0:w1.cell? ⟨w.heap.size+2,0,Y⟩=Z (I ⟨#[]⟩):=af h2 0;have r1:w1.cell? ⟨w.heap.size+2,1,Y⟩=Z (O J 0):=af h2 1;have r2:w1.cell? ⟨w.heap.size+2,2,Y⟩=Z (O J 0):=af h2 2;have r3:w1.cell? ⟨w.heap.size+2,3,Y⟩=Z (O J 0):=af h2 3;have r4:w1.cell? ⟨w.heap.size+2,4,Y⟩=Z (AI false):=af h2 4;have z0:w1.frozen? ⟨w.heap.size+2,0,Y⟩=false:=by simp[Ig,h2]
 have z1:w1.frozen? ⟨w.heap.size+2,1,Y⟩=false:=by simp[Ig,h2]
 have z2:w1.frozen? ⟨w.heap.size+2,2,Y⟩=false:=by simp[Ig,h2]
 have z3:w1.frozen? ⟨w.heap.size+2,3,Y⟩=false:=by simp[Ig,h2]
 have z4:w1.frozen? ⟨w.heap.size+2,4,Y⟩=false:=by simp[Ig,h2]
 have iX:w.heap.size+2<w1.heap.size:=(Ia.1 h2).1;clear ez dt bb iL al h0 h2 oX;rcases zL with⟨rfl,HF⟩|⟨i,hi,rfl,HF⟩
 .have HO:Hid (eD ms t=dm):=xl HF.out
  go_wp2_with fail;refine Ix (v:=Im #[I ⟨#[]⟩,O J 0,O J 0,O J 0,AI false]) ?_ rfl ⟨by rw[HO.out];rfl,?_⟩
  .simp[results,Tryz.results192,go_sem,r0,r1,r2,r3,r4]
  exact((((HB.out.setCell (p:=⟨w.heap.size+2,0,Y⟩) (by simp) _).setCell (p:=⟨w.heap.size+2,1,Y⟩) (by simp) _).setCell (p:=⟨w.heap.size+2,2,Y⟩) (by simp) _).setCell (p:=⟨w.heap.size+2,3,Y⟩) (by simp) _).setCell (p:=⟨w.heap.size+2,4,Y⟩) (by simp) _
 .have HO:Hid (eD ms t=ms.getD i dm):=xk HF.out
  obtain⟨pa',ca,he,_,ha⟩:=WD.out;simp only[Value.slice.injEq] at he;obtain⟨rfl,hN,rfl⟩:=he;obtain⟨b,off,lP,eY,hr⟩:∃b off,pm=Z ⟨b,off,Y⟩/\b<w1.heap.size/\Row w1 b off ms:=by
   rcases ha with h|h
   .rw[h] at hN;simp at hN;omega
   .exact h
  subst lP;obtain⟨c0,c1,c2,c3,c4⟩:=hr i (by omega);clear hr hN ha HF;generalize ms.getD i dm=mk at *;obtain⟨mn,st,lf,ad,sv⟩:=mk;simp only at c0 c1 c2 c3 c4;go_wp2_with fail;refine Ix (v:=Im #[I mn,O J st,O J lf,O J ad,AI sv]) ?_ rfl ⟨by rw[HO.out],?_⟩
  .simp[results,Tryz.results192,go_sem,r0,r1,r2,r3,r4]
  exact((((HB.out.setCell (p:=⟨w.heap.size+2,0,Y⟩) (by simp) _).setCell (p:=⟨w.heap.size+2,1,Y⟩) (by simp) _).setCell (p:=⟨w.heap.size+2,2,Y⟩) (by simp) _).setCell (p:=⟨w.heap.size+2,3,Y⟩) (by simp) _).setCell (p:=⟨w.heap.size+2,4,Y⟩) (by simp) _
theorem GC(a:ByteArray)(b c d:Int)(e:Bool)(w:World):(Instr.field 70 (Im #[I a,O J b,O J c,O J d,AI e]) 1).run be w=.ok (O J b) w:=by kernel_rfl
theorem GD(here:ByteArray)(ps pm pw:Option Addr)(ns cs nm cm nw cw:Nat)(px py pz ph pq:Int)(ms:List Mem)(t:ByteArray)(w:World)(hm:Sl w (U pm nm cm) ms)(hn:nm<=1000) :
 Calls be 242 #[Im (eQ here (U ps ns cs) (U pm nm cm) px py pz ph pq (U pw nw cw)),I t] w λe w'=>e=sh (AI (tL ms t))/\Below w.heap.size w w':=by
 have HM:Hid (Sl w (U pm nm cm) ms):=hm;clear hm;have HU:Hid (tL ms t=(decide ((eD ms t).state=3)||decide ((eD ms t).state=4))):=rfl;generalize tL ms t=R at *;go_enter Tryz.func242,Tryz.ntmps242;go_wp2_with fail;have ez:Below w.heap.size w (w.alloc (AT (eQ here (U ps ns cs) (U pm nm cm) px py pz ph pq (U pw nw cw)) 137)):=(Ib _ _).alloc (By _) _;refine(rI here ps pm pw ns cs nm cm nw cw px py pz ph pq ms t _ (HM.out.below ez) hn).mono ?_;rintro e w1 ⟨rfl,al⟩;have HB:Hid (Below w.heap.size w w1):=ez.trans (al.mono (by simp));clear al ez;generalize eD ms t=m at *;obtain⟨mn,st,lf,ad,sv⟩:=m;have al9:=GC;by_cases h3:st=3
 .have HR:Hid (R=true):=HU.out.trans (by simp[h3])
  subst h3;go_wp2_with fail;go_ret;exact⟨aD HR.out.symm,HB.out⟩
 .have HR:Hid (R=decide (st=4)):=HU.out.trans (by simp[h3])
  have h3':(st==3)=false:=by simpa using h3
  go_wp2_with fail;go_ret;exact⟨aD (by rw[HR.out];rfl),HB.out⟩
end Go.Proofs.YtfidjlcdlakceaaGreatDoor
