import Derived.Test.YtfidhgjmifendaaGreatDoorns4
set_option maxHeartbeats 3200000
set_option maxRecDepth 100000
open Go.Proofs.Tryz renaming prog→AS,underlying3→ID,isAgg3→OT,sizeOf3→OE,zeroValue3→OZ,underlying4→JU,isAgg4→Qz,sizeOf4→Qi,zeroValue4→O0,underlying5→OL,isAgg5→Ub,sizeOf5→QM,zeroValue5→O1,underlying9→Jb,isAgg9→QA,sizeOf9→Qj,zeroValue9→O2,underlying129→OM,isAgg129→QY,sizeOf129→QH,zeroValue129→O7,underlying165→ON,isAgg165→QZ,sizeOf165→QI,zeroValue165→O8,underlying125→JA,underlying35→Oc
open Option renaming some→AI,none→be
open Go.Value renaming int→U,string→Y,bool→Ia,slice→J,tuple→Ik
open Go.Ending renaming returned→AT
open Go.IntKind renaming i64→O
open Go renaming maxLen→Il,wpList_append_own→Ja
open Go.RowKit.Below renaming refl→Ib
open Nat renaming le_refl→Ic,zero_le→IP
open List renaming getD→Ip,getElem?_eq_getElem→If,getElem?_eq_none→I1,range→Jx,all_eq_true→OJ,length_append→Ig,getElem?_take_of_lt→IN
open Go.Maps renaming size→JC,has→QK
open Array renaming getElem?_eq_some_iff→BY
namespace Go.Proofs
open Go.Shelf
def Tryz.AA:Go.Shelf.Ren:=⟨fun|125=>71|128=>123|129=>124|n=>n,fun|46=>129|3=>3|51=>165|53=>167|4=>4|5=>5|9=>9|n=>n,fun|n=>n⟩
theorem Tryz.Ps:Go.Proofs.Lays.n125 AS Tryz.AA:={
 mixed:=by kernel_rfl
 f125:=Tryz.func71.trans (congrArg AI (by kernel_rfl))
 f128:=Tryz.func123.trans (congrArg AI (by kernel_rfl))
 f129:=Tryz.func124.trans (congrArg AI (by kernel_rfl))
 t3:=ID
 a3:=OT
 z3:=OE
 v3:=OZ
 t4:=JU
 a4:=Qz
 z4:=Qi
 v4:=O0
 t5:=OL
 a5:=Ub
 z5:=QM
 v5:=O1
 t9:=Jb
 a9:=QA
 z9:=Qj
 v9:=O2
 t46:=OM
 a46:=QY
 z46:=QH
 v46:=O7
 t51:=ON
 a51:=QZ
 z51:=QI
 v51:=O8
 t53:=Tryz.underlying167
 a53:=Tryz.isAgg167
 z53:=Tryz.sizeOf167
 v53:=Tryz.zeroValue167 }
theorem Tryz.bits_Len(x:Int)(w:World)(h0:0<=x)(h1:x<=18446744073709551615) :
 Calls AS 71 #[U .u64 x] w λe w'=>e=AT (U O (Lib.bitLen x.toNat))/\w'=w:=Any.bits_Len Tryz.Ps x w h0 h1
def Tryz.AB:Go.Shelf.Ren:=⟨fun|219=>276|217=>290|225=>291|224=>292|267=>293|266=>302|314=>303|n=>n,fun|9=>9|3=>3|4=>4|5=>5|46=>129|146=>329|51=>165|n=>n,fun|1=>0|n=>n⟩
theorem Tryz.Pt:Go.Proofs.Lays.n219 AS Tryz.AB:={
 mixed:=by kernel_rfl
 f217:=Tryz.func290.trans (congrArg AI (by kernel_rfl))
 f219:=Tryz.func276.trans (congrArg AI (by kernel_rfl))
 f224:=Tryz.func292.trans (congrArg AI (by kernel_rfl))
 f225:=Tryz.func291.trans (congrArg AI (by kernel_rfl))
 f266:=Tryz.func302.trans (congrArg AI (by kernel_rfl))
 f267:=Tryz.func293.trans (congrArg AI (by kernel_rfl))
 f314:=Tryz.func303.trans (congrArg AI (by kernel_rfl))
 t3:=ID
 a3:=OT
 z3:=OE
 v3:=OZ
 t4:=JU
 a4:=Qz
 z4:=Qi
 v4:=O0
 t5:=OL
 a5:=Ub
 z5:=QM
 v5:=O1
 t9:=Jb
 a9:=QA
 z9:=Qj
 v9:=O2
 t46:=OM
 a46:=QY
 z46:=QH
 v46:=O7
 t51:=ON
 a51:=QZ
 z51:=QI
 v51:=O8
 t146:=Tryz.underlying329
 a146:=Tryz.isAgg329
 z146:=Tryz.sizeOf329
 v146:=Tryz.zeroValue329
 g1:=by kernel_rfl }
open Go.RowKit Go.Lib in
theorem Tryz.stringslite_Index_one(s:ByteArray)(c:UInt8)(w:World) :
 Calls AS 276 #[Y s,Y ⟨#[c]⟩] w λe w'=>e=AT (U O (Lib.indexByte s.data.toList c))/\w'=w:=Any.stringslite_Index_one Tryz.Pt s c w
end Go.Proofs
namespace Go.Proofs.YtfidhgjmifendaaGreatDoor
open Go.RowKit Go.WideMaps Go.Maps
theorem jV(m:Mem):bl [m]=m.e:=by
 unfold bl;by_cases h:m.e=0
 .simp[aU,h,aM]
 .simp[aU,h]
theorem cU{W:World}{cs:Array Value}{t:TypeId}{g k:Nat}(hg:g=W.heap.size):(W.alloc (.cells cs t)).cell? ⟨g,k,be⟩=cs[k]?:=by subst hg;simp
theorem eX(m:Mem)(w:World)(hs:m.name.size<=Il) :
 Calls AS 125 #[.agg #[Y m.name,U O m.state,U O m.aJ,U O m.addr,Ia m.server]] w λe w'=>e=AT (U O m.e)/\Below w.heap.size w w':=by
 go_enter Tryz.func125,Tryz.ntmps125;go_wp2_with fail;refine(bq [m] _ _ ⟨_,_,rfl,cy (by simpa using hs),.inr ⟨w.heap.size+1,0,rfl,by simp,?_⟩⟩).mono ?_
 .intro j hj
  have:j=0:=by simpa using hj
  subst this;exact⟨cU (by simp),cU (by simp),cU (by simp),cU (by simp),cU (by simp)⟩
 rintro e w1 ⟨rfl,aB⟩;have HB:Hid _:=(((Ib _ _).alloc (Ic _) _).alloc (by simp) _).trans (aB.mono (by simp;omega));clear aB;rw[jV];go_wp2_with fail;go_ret;exact⟨rfl,HB.out⟩
def dL(rs:List bE):Prop:=∀i j,i<j->j<rs.length->(rs.getD i dr).m.name≠(rs.getD j dr).m.name
def gI(rs:List bE):List Mem:=rs.map (·.m)
theorem lh(rs:List bE)(k:Nat):(gI rs).getD k dm=(rs.getD k dr).m:=by
 by_cases h:k<rs.length
 .simp[gI,Ip,If h]
 .simp[gI,Ip,I1 (by omega:rs.length<=k),dr]
theorem jK(rs:List bE):(gI rs).length=rs.length:=by simp[gI]
def hJ(rs:List bE):Prop:=∀j,j<rs.length->within (rs.getD j dr).told 0 100=true
theorem AD(rs:List bE):((Jx rs.length).all λj=>within (rs.getD j dr).told 0 100)=true↔hJ rs:=by
 unfold hJ;simp only[OJ,List.mem_range]
theorem yH(rs:List bE):((Jx rs.length).all λj=>(Jx j).all λi=>decide ((rs.getD i dr).m.name≠(rs.getD j dr).m.name))=true↔dL rs:=by
 unfold dL;simp only[OJ,List.mem_range,decide_eq_true_eq];exact⟨λh i j hi hj=>h j hj i hi,λh j hj i hi=>h i j hi hj⟩
def dZ(rs:List bE):Int:=
 if 20<rs.length then 2 else if aU (gI rs)=0 then(@ite _ (hJ rs) (decidable_of_iff _ (AD rs)) (@ite _ (dL rs) (decidable_of_iff _ (yH rs)) 0 6) 3) else aU (gI rs)
theorem wR{rs:List bE}(h:20<rs.length):dZ rs=2:=by unfold dZ;rw[if_pos h]
theorem LY{rs:List bE}{k:Nat}(hn:rs.length<=20)(hk:k<rs.length)(hz:∀j,j<k->(rs.getD j dr).m.e=0)(aQ:(rs.getD k dr).m.e≠0):dZ rs=(rs.getD k dr).m.e:=by
 have h:=dX (gI rs) k (by rw[jK];exact hk) (λj hj=>by rw[lh];exact hz j hj) (by rw[lh];exact aQ);rw[lh] at h;unfold dZ;rw[if_neg (by omega),if_neg (by rw[h];exact aQ),h]
theorem nC{rs:List bE}(hz:∀j,j<rs.length->(rs.getD j dr).m.e=0):aU (gI rs)=0:=
 cG _ (λj hj=>by rw[lh];exact hz j (by rw[jK] at hj;exact hj))
theorem Gm{rs:List bE}{k:Nat}(hn:rs.length<=20)(hz:∀j,j<rs.length->(rs.getD j dr).m.e=0)(hk:k<rs.length)(aQ:within (rs.getD k dr).told 0 100=false):dZ rs=3:=by
 unfold dZ;rw[if_neg (by omega),if_pos (nC hz),if_neg];intro h;rw[h k hk] at aQ;cases aQ
theorem CL{rs:List bE}(hn:rs.length<=20)(hz:∀j,j<rs.length->(rs.getD j dr).m.e=0)(ht:hJ rs)(hd:¬ dL rs):dZ rs=6:=by
 unfold dZ;rw[if_neg (by omega),if_pos (nC hz),if_pos ht,if_neg hd]
theorem xN{rs:List bE}(hn:rs.length<=20)(hz:∀j,j<rs.length->(rs.getD j dr).m.e=0)(ht:hJ rs)(hd:dL rs):dZ rs=0:=by
 unfold dZ;rw[if_neg (by omega),if_pos (nC hz),if_pos ht,if_pos hd]
theorem aaN{rs:List bE}(hd:¬ dL rs):JC (Dm (ff rs) rs.length)<rs.length:=by
 apply lM;apply Classical.byContradiction;intro h;apply hd;intro i j iS hj e;exact h ⟨i,j,iS,hj,by rw[dE,dE];exact e⟩
theorem aaO{rs:List bE}(hd:dL rs):JC (Dm (ff rs) rs.length)=rs.length:=
 lN _ _ (λi j iS hj=>by rw[dE,dE];exact hd i j iS hj)
theorem gh(rs:List bE)(v:Value)(w:World)(hv:mR w v rs) :
 Calls AS 72 #[v] w λe w'=>e=AT (U O (dZ rs))/\Below w.heap.size w w':=by
 have HV:Hid (mR w v rs):=hv;obtain⟨pa,ca,rfl,cI,ha⟩:=hv;by_cases hmany:20<rs.length
 .have HE:Hid _:=wR hmany
  go_enter Tryz.func72,Tryz.ntmps72;go_wp2_with fail;go_ret;exact⟨ai HE.out.symm,Ib _ _⟩
 have HA:Hid _:=ha;have HS:Hid _:=cI;clear ha cI;generalize hN:rs.length=n at *;have HN:Hid _:=hN;clear hN;have Bv:n<=20:=by omega
 go_enter Tryz.func72,Tryz.ntmps72;go_wp2;go_loopw [13] (λi wr=>∃k:Nat,k<=n/\i=U O k/\Hid (∀j,j<k->(rs.getD j dr).m.e=0)/\Hid (Below w.heap.size w wr))
  (λi _=>n-(intOf i).toNat)
 case atStart=>exact⟨0,IP _,rfl,λj hj=>by omega,Ib _ _⟩
 case round=>
  obtain⟨k,hk,rfl,HZ,HB⟩:=hrel;by_cases aX:k<n
  .obtain⟨b,off,hp,hl,hr⟩:∃b off,pa=AI ⟨b,off,be⟩/\b<w.heap.size/\mS w b off rs:=by
    rcases HA.out with h|h
    .have:=HN.out;rw[h] at this;simp at this;omega
    .exact h
   subst hp;obtain⟨c0,c1,c2,c3,c4,c5⟩:=hr.below HB.out hl k (by rw[HN.out];exact aX);have cZ:=HS.out k;have HX:Hid ((rs.getD k dr).m.e≠0->dZ rs=(rs.getD k dr).m.e):=λh=>LY (by rw[HN.out];exact Bv) (by rw[HN.out];exact aX) HZ.out h;have lP:Hid ((rs.getD k dr).m.e=0->∀j,j<k+1->(rs.getD j dr).m.e=0):=λh j hj=>by
    by_cases e:j=k
    .subst e;exact h
    .exact HZ.out j (by omega)
   generalize(rs.getD k dr)=rk at *;obtain⟨⟨nm,st,lf,ad,sv⟩,td⟩:=rk;simp only at c0 c1 c2 c3 c4 c5 cZ HX lP;clear hr HZ;go_wp2_with fail;refine(eX ⟨nm,st,lf,ad,sv⟩ _ cZ).mono ?_;rintro e w1 ⟨rfl,aB⟩;have ba:Hid _:=(HB.out.alloc HB.out.size _).trans (aB.mono (by have:=HB.out.size;simp;omega));clear aB c0 c1 c2 c3 c4 c5 HB;by_cases he:(Mem.mk nm st lf ad sv).e=0
   .have kW:((Mem.mk nm st lf ad sv).e !=0)=false:=by simpa using he
    have qK:Hid _:=lP.out he;clear HX lP he;go_wp2_with fail;go_roundw
    case rel=>exact⟨k+1,by omega,by go_num,qK,ba⟩
    case measure=>simp[intOf];omega
   .have kW:((Mem.mk nm st lf ad sv).e !=0)=true:=by simpa using he
    have HE:Hid _:=HX.out he;clear HX lP he;go_wp2_with fail;go_ret;exact⟨ai HE.out.symm,ba.out⟩
  .have HZA:Hid (∀j,j<rs.length->(rs.getD j dr).m.e=0):=λj hj=>HZ.out j (by rw[HN.out] at hj;omega)
   clear HZ;go_wp2_with fail;go_loopw [26] (λi wr=>∃k:Nat,k<=n/\i=U O k/\Hid (∀j,j<k->within (rs.getD j dr).told 0 100=true)/\Hid (Below w.heap.size w wr))
    (λi _=>n-(intOf i).toNat)
   case atStart=>exact⟨0,IP _,rfl,λj hj=>by omega,HB⟩
   case round=>
    clear HB aX hk;obtain⟨k2,hk,rfl,HZ,HB⟩:=hrel;by_cases aX:k2<n
    .obtain⟨b,off,hp,hl,hr⟩:∃b off,pa=AI ⟨b,off,be⟩/\b<w.heap.size/\mS w b off rs:=by
      rcases HA.out with h|h
      .have:=HN.out;rw[h] at this;simp at this;omega
      .exact h
     subst hp;obtain⟨c0,c1,c2,c3,c4,c5⟩:=hr.below HB.out hl k2 (by rw[HN.out];exact aX);have HX:Hid (within (rs.getD k2 dr).told 0 100=false->dZ rs=3):=λh=>Gm (by rw[HN.out];exact Bv) HZA.out (by rw[HN.out];exact aX) h;have lP:Hid (within (rs.getD k2 dr).told 0 100=true->∀j,j<k2+1->within (rs.getD j dr).told 0 100=true):=λh j hj=>by
      by_cases e:j=k2
      .subst e;exact h
      .exact HZ.out j (by omega)
     generalize(rs.getD k2 dr)=rk at *;obtain⟨⟨nm,st,lf,ad,sv⟩,td⟩:=rk;simp only at c0 c1 c2 c3 c4 c5 HX lP;clear hr HZ;rcases ht:within td 0 100 with _|_
     .have HE:Hid _:=HX.out ht
      clear HX lP;go_wp2_with (go_at_call 54;refine(cB _ _ _ _).mono ?_;rintro e w' ⟨rfl,rfl⟩;rw[ht]);go_ret;exact⟨ai HE.out.symm,HB.out.alloc HB.out.size _⟩
     .have qK:Hid _:=lP.out ht
      clear HX lP;go_wp2_with (go_at_call 54;refine(cB _ _ _ _).mono ?_;rintro e w' ⟨rfl,rfl⟩;rw[ht]);go_roundw
      case rel=>exact⟨k2+1,by omega,by go_num,qK,HB.out.alloc HB.out.size _⟩
      case measure=>simp[intOf];omega
    .have HTA:Hid (hJ rs):=λj hj=>HZ.out j (by rw[HN.out] at hj;omega)
     clear HZ;go_wp2_with fail;refine(pS rs _ _ (HV.out.below HB.out) (by rw[HN.out];omega)).mono ?_;rintro e w1 ⟨rfl,hown,aB⟩;have HO:Hid (w1.ownsMap _ _ _ _ _ _):=hown;have ba:Hid _:=HB.out.trans (aB.mono HB.out.size);clear hown aB;have D7:(JC (Dm (ff rs) rs.length):Nat)<=n:=by rw[<- HN.out];exact pd _ _
     by_cases hd:dL rs
     .have HE:Hid _:=xN (by rw[HN.out];exact Bv) HZA.out HTA.out hd
      have HSZ:¬ ((JC (Dm (ff rs) rs.length):Nat):Int)<n:=by rw[aaO hd,HN.out];omega
      go_wp2_with (at_len;refine wpList_len_own _ rfl _ 125 rfl 9 3 JA _ _ _ _ rfl HO.out ?_);go_ret;exact⟨ai HE.out.symm,ba.out⟩
     .have HE:Hid _:=CL (by rw[HN.out];exact Bv) HZA.out HTA.out hd
      have HSZ:((JC (Dm (ff rs) rs.length):Nat):Int)<n:=by have:=aaN hd;have:=HN.out;omega
      go_wp2_with (at_len;refine wpList_len_own _ rfl _ 125 rfl 9 3 JA _ _ _ _ rfl HO.out ?_);go_ret;exact⟨ai HE.out.symm,ba.out⟩
end Go.Proofs.YtfidhgjmifendaaGreatDoor
namespace Go.Proofs.YtfidhgjmifendaaGreatDoor
open Go.RowKit
def bE.cs(r:bE):List Value:=[Y r.m.name,U O r.m.state,U O r.m.aJ,U O r.m.addr,Ia r.m.server,U O r.told]
def eW(rs:List bE):List Value:=rs.flatMap bE.cs
theorem jF(r:bE):r.cs.length=6:=rfl
theorem lz(m:bE)(r:List bE):eW (m::r)=m.cs++eW r:=by simp[eW]
theorem tq(a b:List bE):eW (a++b)=eW a++eW b:=by simp[eW]
theorem ea:∀ms:List bE,(eW ms).length=ms.length*6
 |[]=>rfl
 |m::r=>by rw[lz,Ig,ea r,jF,List.length_cons];omega
theorem tr:∀(ms:List bE) (i:Nat),(eW ms).take (i*6)=eW (ms.take i)
 |[],i=>by simp[eW]
 |m::r,0=>by simp[eW]
 |m::r,i+1=>by
  rw[lz,List.take_succ_cons,lz,show(i+1)*6=m.cs.length+i*6 by rw[jF];omega,List.take_length_add_append,tr r i]
theorem zy:∀(ms:List bE) (i:Nat),(eW ms).drop (i*6)=eW (ms.drop i)
 |[],i=>by simp[eW]
 |m::r,0=>by simp
 |m::r,i+1=>by
  rw[lz,List.drop_succ_cons,show(i+1)*6=m.cs.length+i*6 by rw[jF];omega,List.drop_length_add_append,zy r i]
theorem xv(m:bE):∀v∈m.cs,v.oneCell'=true:=by
 intro v hv;simp[bE.cs] at hv;rcases hv with rfl|rfl|rfl|rfl|rfl|rfl<;>rfl
theorem Da(ms:List bE):∀v∈eW ms,v.oneCell'=true:=by
 intro v hv;obtain⟨m,_,h⟩:=List.mem_flatMap.1 hv;exact xv m v h
theorem ma(ms:List bE)(j:Nat)(hj:j<ms.length)(t:Nat)(ht:t<6):(eW ms)[j*6+t]?=(ms.getD j dr).cs[t]?:=by
 induction ms generalizing j with
 |nil=>simp at hj
 |cons m r ih=>
  rw[lz];cases j with
  |zero=>rw[List.getElem?_append_left (by rw[jF];omega)];simp
  |succ j=>
   rw[List.getElem?_append_right (by rw[jF];omega),jF,show(j+1)*6+t-6=j*6+t by omega,ih j (by simpa using hj)];simp
abbrev cL(base:Nat)(w:World)(v:Value)(ms:List bE):Prop:=w.ownsRow base 111 6 v ms.length (eW ms)
theorem zP(base:Nat)(w:World):cL base w (J be 0 0) []:=World.ownsRow_nil w base 111 6
theorem vY{base:Nat}{w:World}{v:Value}{L:List bE}{m:bE}(h:w.ownsRow base 111 6 v (L.length+1) (eW L++m.cs)):cL base w v (L++[m]):=by
 have e:eW (L++[m])=eW L++m.cs:=by rw[tq,lz];simp[eW]
 show w.ownsRow base 111 6 v (L++[m]).length (eW (L++[m]));rw[e,Ig];exact h
theorem MR{rs:List bE}(h:∀r∈rs,r.m.name.size<=Il):∀j,(rs.getD j dr).m.name.size<=Il:=λj=>by
 by_cases hj:j<rs.length
 .rw[show rs.getD j dr=rs[j] by simp[Ip,If hj]]
  exact h _ (List.getElem_mem hj)
 .rw[show rs.getD j dr=dr by simp[Ip,I1 (by omega:rs.length<=j)]]
  exact IP _
theorem MQ{rs:List bE}(h:∀j,(rs.getD j dr).m.name.size<=Il):∀m∈rs,m.m.name.size<=Il:=by
 intro m hm;obtain⟨j,hj,rfl⟩:=List.getElem_of_mem hm;have:=h j
 rwa [show rs.getD j dr=rs[j] by simp[Ip,If hj]] at this
theorem cL.sl{base:Nat}{w:World}{v:Value}{ms:List bE}(h:cL base w v ms)(hs:∀j,(ms.getD j dr).m.name.size<=Il):mR w v ms:=by
 rcases h.2 with⟨rfl,h0⟩|⟨g,c,cur,rfl,eD,hg,fP,dR,cf,bj⟩
 .exact⟨be,0,by rw[h0],hs,.inl (List.eq_nil_of_length_eq_zero h0)⟩
 .refine⟨_,c,rfl,hs,.inr ⟨g,0,rfl,(BY.1 hg).1,λj hj=>?_⟩⟩
  have hc:∀t,t<6->w.cell? ⟨g,0+j*6+t,be⟩=(ms.getD j dr).cs[t]?:=λt ht=>by
   rw[ae hg,<- ma ms j hj t ht,<- bj,IN (by omega)];simp
  exact⟨hc 0 (by omega),hc 1 (by omega),hc 2 (by omega),hc 3 (by omega),hc 4 (by omega),hc 5 (by omega)⟩
theorem cL.below{base:Nat}{w w':World}{v:Value}{ms:List bE}(h:cL base w v ms)(hb:Below w.heap.size w w'):cL base w' v ms:=by
 obtain⟨h1,h2⟩:=h;refine⟨h1,?_⟩;rcases h2 with h2|⟨g,c,cur,hv,eD,hg,hr⟩
 .exact .inl h2
 .exact .inr ⟨g,c,cur,hv,eD,by rw[hb.block g (BY.1 hg).1];exact hg,hr⟩
theorem cL.base{b b':Nat}{w:World}{v:Value}{ms:List bE}(h:cL b w v ms)(hb:b'<=b):cL b' w v ms:=by
 obtain⟨h1,h2⟩:=h;refine⟨h1,?_⟩;rcases h2 with h2|⟨g,c,cur,hv,eD,hr⟩
 .exact .inl h2
 .exact .inr ⟨g,c,cur,hv,Nat.le_trans hb eD,hr⟩
theorem cL.lt{base:Nat}{w:World}{v:Value}{ms:List bE}(h:cL base w v ms)(k:Nat)(hk:v.ownBlock=AI k):base<=k/\k<w.heap.size:=World.ownsRow.lt h k hk
theorem cL.slice{base:Nat}{w:World}{v:Value}{ms:List bE}(h:cL base w v ms):∃a c,v=J a ms.length c:=by
 rcases h.2 with⟨rfl,h0⟩|⟨g,c,cur,rfl,_⟩
 .exact⟨be,0,by rw[h0]⟩
 .exact⟨_,c,rfl⟩
theorem Tryz.vW:(Tryz.prog.info? 111).map (λi=>(i.zero,i.size,i.bytes))=AI (AI (.agg #[Y ⟨#[]⟩,U O 0,U O 0,U O 0,Ia false,U O 0]),6,56):=by kernel_rfl
theorem Gn{rs:List bE}{w:World}{b off:Nat}(hr:mS w b off rs){j:Nat}{u:Value}(hj:(eW rs)[j]?=AI u):w.cell? ⟨b,off+j,be⟩=AI u:=by
 have RI:j<rs.length*6:=by rw[<- ea];exact(List.getElem?_eq_some_iff.1 hj).1
 have h1:=ma rs (j/6) (by omega) (j%6) (by omega);rw[show j/6*6+j%6=j by omega,hj] at h1;obtain⟨c0,c1,c2,c3,c4,c5⟩:=hr (j/6) (by omega);have cf:j%6=0\/j%6=1\/j%6=2\/j%6=3\/j%6=4\/j%6=5:=by omega
 rcases cf with e|e|e|e|e|e
 .rw[show off+j=off+j/6*6 by omega,c0];rw[e] at h1;simpa[bE.cs] using h1.symm
 .rw[show off+j=off+j/6*6+1 by omega,c1];rw[e] at h1;simpa[bE.cs] using h1.symm
 .rw[show off+j=off+j/6*6+2 by omega,c2];rw[e] at h1;simpa[bE.cs] using h1.symm
 .rw[show off+j=off+j/6*6+3 by omega,c3];rw[e] at h1;simpa[bE.cs] using h1.symm
 .rw[show off+j=off+j/6*6+4 by omega,c4];rw[e] at h1;simpa[bE.cs] using h1.symm
 .rw[show off+j=off+j/6*6+5 by omega,c5];rw[e] at h1;simpa[bE.cs] using h1.symm
theorem gi(rs:List bE)(v:Value)(w:World)(h:mR w v rs)(hn:rs.length<=1000) :
 Calls AS 58 #[v] w λe w'=>∃v',e=AT v'/\cL w.heap.size w' v' rs/\Below w.heap.size w w':=by
 obtain⟨a,cap,rfl,hs,h⟩:=h;obtain⟨i0,fV,di,il,gT⟩:=info_parts Tryz.vW;cases a with
 |none=>
  have he:rs=[]:=by
   rcases h with h|⟨b,off,h,_⟩
   .exact h
   .cases h
  subst he;clear h hs;have gX:=λ(w:World)=>Lib.run_eql_slice_nil (P:=AS) w 35 111 be 0 cap 0 0 Oc;simp only[List.length_nil,Option.isNone_none] at gX ⊢;go_enter Tryz.func58,Tryz.ntmps58;go_wp2_with fail;go_ret;exact⟨_,rfl,zP _ _,Ib _ _⟩
 |some a=>
  have gX:=λ(w:World)=>Lib.run_eql_slice_nil (P:=AS) w 35 111 (AI a) rs.length cap 0 0 Oc;simp only[Option.isNone_some] at gX;have hnews:Hid (∀j u,(eW rs)[j]?=AI u->(w.alloc (.cells #[] 111)).cell? (a.add j)=AI u):=by
   intro j u hj;rcases h with h|⟨b,off,h,hb,hr⟩
   .subst h;simp[eW] at hj
   .cases h
    rw[Addr.add_lit,World.cell?_alloc_past (w:=w) _ b _ hb];exact Gn hr hj
  have HO:Hid ((w.alloc (.cells #[] 111)).ownsRow w.heap.size 111 6 (J (AI ⟨w.heap.size,0,be⟩) 0 0) 0 []):=World.ownsRow_made w #[] 0 (Ic _) (by unfold Il;omega) rfl;clear h hs;go_enter Tryz.func58,Tryz.ntmps58;go_wp2_with (at_builtin;refine Ja _ rfl _ _ 35 rfl w.heap.size 111 i0 _ 6 56 Oc fV di il gT rfl (by omega) _ 0 [] rfl HO.out a rs.length cap (eW rs) rfl (ea rs) hnews.out (Da rs) (by unfold Il;omega) (by omega) (by simp) ?_);intro v' w' r1 r2 r3;go_wp2_with fail;go_ret;refine⟨v',rfl,?_,?_⟩
  .simpa using r1
  .exact((Ib _ _).alloc (Ic _) _).grown r2 (by simp) (λk hk=>by simp[Value.ownBlock] at hk;omega)
end Go.Proofs.YtfidhgjmifendaaGreatDoor
namespace Go.Proofs.YtfidhgjmifendaaGreatDoor
open Go.RowKit Go.WideMaps Go.Maps
theorem pT{w:World}{b n:Nat}{D:DataW Unit}(h:w.ownsMap AS 9 (plainElem (H:=Unit) AS 3) b n D){s:ByteArray}(hs:s.size<=Il) :
 ∃c:Int,(Instr.lookup 125 (.map (AI b)) (Y s) true).run AS w=.ok (Ik #[U O c,Ia (QK D (kS s))]) w/\D.atKey (kS s) (.lit (.int O 0))=.lit (.int O c):=by
 obtain⟨v,ps,jW,hv⟩:=h.look_ok D9 JA (Bd _) (plainElem_int ID (by decide)) (keyOf_string_mk Jb hs);obtain⟨c,rfl,hc,_⟩:=plainElem_int_inv ID hv;exact⟨c,jW,congrArg Prod.fst hc⟩
def Db(rs:List bE)(nm:ByteArray):Prop:=∀j,j<rs.length->(rs.getD j dr).m.name≠nm
theorem Dc{rs:List bE}{nm:ByteArray}(h:Db rs nm):QK (Dm (ff rs) rs.length) (kS nm)=false:=by
 cases hh:QK (Dm (ff rs) rs.length) (kS nm)
 .rfl
 .obtain⟨j,hj,e⟩:=(qV _ _ _).1 hh
  rw[dE] at e;exact absurd e (h j hj)
theorem M8(rs:List bE)(v:Value)(m:Mem)(w:World)(hv:mR w v rs)(hm:m.name.size<=Il)(h0:dZ rs=0)(he:m.e=0)(RT:Db rs m.name)(hl:rs.length<20) :
 Calls AS 168 #[v,.agg #[Y m.name,U O m.state,U O m.aJ,U O m.addr,Ia m.server]] w λe w'=>∃v',e=AT (Ik #[v',U O 0])/\cL w.heap.size w' v' (rs++[⟨m,0⟩])/\Below w.heap.size w w':=by
 obtain⟨i0,fV,di,il,gT⟩:=info_parts Tryz.vW;have HV:Hid (mR w v rs):=hv;have j7:=λ(w:World) (h:mR w v rs)=>gh rs v w h;rw[h0] at j7;have dR:=λw=>eX m w hm;rw[he] at dR;have HH:Hid _:=Dc RT;clear h0 he hv;obtain⟨nm,st,lf,ad,sv⟩:=m;simp only at *;have sj:Below w.heap.size w (w.alloc (.cells #[Y nm,U O st,U O lf,U O ad,Ia sv] 50)):=(Ib _ _).alloc (Ic _) _;go_enter Tryz.func168,Tryz.ntmps168;go_wp2_with fail;refine(j7 _ (HV.out.below sj)).mono ?_;rintro e w1 ⟨rfl,aB⟩;have c1:∀o,w1.cell? ⟨w.heap.size,o,be⟩=#[Y nm,U O st,U O lf,U O ad,Ia sv][o]?:=λo=>by
  rw[aB.cell (p:=⟨w.heap.size,o,be⟩) (by simp)];exact cU rfl
 have ba:Hid _:=sj.trans (aB.mono (by simp));have da:w.heap.size<w1.heap.size:=by have:=aB.size;simp at this;omega
 clear aB sj j7;go_wp2_with fail;refine(dR _).mono ?_;rintro e w2 ⟨rfl,aK⟩;have c2:∀o,w2.cell? ⟨w.heap.size,o,be⟩=#[Y nm,U O st,U O lf,U O ad,Ia sv][o]?:=λo=>by
  rw[aK.cell (p:=⟨w.heap.size,o,be⟩) (by simp only;omega)];exact c1 o
 have bu:Hid _:=ba.out.trans (aK.mono ba.out.size);have nW:w.heap.size<w2.heap.size:=by have:=aK.size;omega
 clear aK c1 da ba dR;go_wp2_with fail;refine(gi rs v _ (HV.out.below bu.out) (by omega)).mono ?_;rintro e w3 ⟨v3,rfl,lE,bX⟩;have ec:Hid (cL _ _ _ _):=lE;have c3:w3.cell? ⟨w.heap.size,0,be⟩=AI (Y nm):=by
  rw[bX.cell (p:=⟨w.heap.size,0,be⟩) (by simp only;omega)];exact c2 0
 have C3:Hid (∀o,w3.cell? ⟨w.heap.size,o,be⟩=#[Y nm,U O st,U O lf,U O ad,Ia sv][o]?):=λo=>by
  rw[bX.cell (p:=⟨w.heap.size,o,be⟩) (by simp only;omega)];exact c2 o
 have cJ:Hid _:=bu.out.trans (bX.mono bu.out.size);have qL:w.heap.size<w3.heap.size:=by have:=bX.size;omega
 have RU:=bX.size;clear bX lE c2;go_wp2_with fail;go_region_held3 (λw'=>w'.cell? ⟨w.heap.size,0,be⟩=AI (Y nm)) (first|assumption|go_keep) (first|(go_at_call 126;refine(pS rs v _ ((HV.out.below cJ.out).below (Ib _ _).drew) (by omega)).mono ?_;rintro e w4 ⟨rfl,hown,eU⟩;obtain⟨cq,jW,cH⟩:=pT hown hm;rw[HH.out] at jW;have rJ:(Instr.lookup 125 (.map (AI w3.heap.size)) (Y nm) true).run AS w4=.ok (Ik #[U O cq,Ia false]) w4:=jW;clear jW cH hown;have fO:Hid (Below w3.heap.size w3 w4):=(Ib w3.heap.size w3).drew.trans eU;have hS:w4.cell? ⟨w.heap.size,0,be⟩=AI (Y nm):=((eU.cell (p:=⟨w.heap.size,0,be⟩) qL).trans c3);clear eU))
 obtain⟨a3,Eh,zz⟩:=ec.out.slice;subst zz;have C4:∀o,w4.cell? ⟨w.heap.size,o,be⟩=#[Y nm,U O st,U O lf,U O ad,Ia sv][o]?:=λo=>by
  rw[fO.out.cell (p:=⟨w.heap.size,o,be⟩) qL];exact C3.out o
 have nX:Hid (cL _ _ _ _):=ec.out.below fO.out;have iy:Hid _:=cJ.out.trans (fO.out.mono cJ.out.size);have ju:w2.heap.size<=w4.heap.size:=by have:=fO.out.size;omega
 have vv:Hid (∀ob,(w4.alloc ob).ownsRow w2.heap.size 111 6 (J a3 rs.length Eh) rs.length (eW rs)):=λob=>nX.out.below ((Ib _ _).alloc (Ic _) _);have Mg:Hid (∀k,(Value.slice a3 rs.length Eh).ownBlock=AI k->w.heap.size<=k):=λk hk=>by have:=(nX.out.lt k hk).1;omega
 have HSN:Hid (∀(w':World) (v':Value),w'.ownsRow w2.heap.size 111 6 v' (rs.length+1) (eW rs++(bE.mk ⟨nm,st,lf,ad,sv⟩ 0).cs)->cL w.heap.size w' v' (rs++[⟨⟨nm,st,lf,ad,sv⟩,0⟩])):=λw' v' h=>(vY h).base (by omega);clear ec C3 fO cJ c3 rJ nX;generalize hN:rs.length=n at *;have HN:Hid _:=hN;clear hN;go_wp2_with (at_builtin;refine Ja _ rfl _ _ 35 rfl w2.heap.size 111 i0 _ 6 56 Oc fV di il gT rfl (by omega) _ n (eW rs) rfl ?hown ⟨w4.heap.size,0,be⟩ 1 1 (bE.mk ⟨nm,st,lf,ad,sv⟩ 0).cs rfl rfl ?hnews (xv _) ?h63 ?hbytes ?hbase ?_)
 case hown=>exact vv.out _
 case hnews=>(intro j u hj;rw[Addr.add_lit];exact(ae (heap_alloc_new w4 (.cells #[Y nm,U O st,U O lf,U O ad,Ia sv,U O 0] 111)) (0+j)).trans (by simpa[bE.cs] using hj))
 case h63=>(unfold Il;omega)
 case hbytes=>omega
 case hbase=>(simp;omega)
 intro v' w5 r1 r2 r3;have R1:Hid (cL _ _ _ _):=HSN.out w5 v' r1;have R2:Hid _:=(iy.out.alloc iy.out.size _).grown r2 (by have:=iy.out.size;simp;omega) (λk hk=>Mg.out k hk);clear r1 r2 r3;go_wp2_with fail;go_ret2;exact⟨v',rfl,R1.out,R2.out⟩
end Go.Proofs.YtfidhgjmifendaaGreatDoor
namespace Go.Proofs.YtfidhgjmifendaaGreatDoor
open Go.RowKit
theorem Tryz.WM:(Tryz.prog.info? 3).map (λi=>(i.zero,i.size,i.bytes))=AI (AI (U O 0),1,8):=by kernel_rfl
theorem qi{base g c n:Nat}{w:World}{rs:List bE}(h:w.ownsRow base 111 6 (J (AI ⟨g,0,be⟩) n c) rs.length (eW rs)):mS w g 0 rs:=by
 rcases h.2 with⟨hv,_⟩|⟨g',c',cur,hv,eD,hg,fP,dR,cf,bj⟩
 .cases hv
 .simp only[Value.slice.injEq,Option.some.injEq,Addr.mk.injEq,and_true] at hv
  obtain⟨rfl,_,_⟩:=hv;intro j hj;have hc:∀t,t<6->w.cell? ⟨g,0+j*6+t,be⟩=(rs.getD j dr).cs[t]?:=λt ht=>by
   rw[ae hg,<- ma rs j hj t ht,<- bj,IN (by omega)];simp
  exact⟨hc 0 (by omega),hc 1 (by omega),hc 2 (by omega),hc 3 (by omega),hc 4 (by omega),hc 5 (by omega)⟩
end Go.Proofs.YtfidhgjmifendaaGreatDoor
