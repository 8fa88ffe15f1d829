import Derived.Test.YtfidjlcdlakceaaGreatDoorrt20
import Derived.Test.YtfidjlcdlakceaaGreatDoorrt13
set_option maxHeartbeats 3200000
set_option maxRecDepth 1000000
open Go.Value renaming string→I,int→O,bool→AT,slice→U,agg→Ip,tuple→Il
open Go.IntKind renaming i64→J
open List renaming length_append→Ij,length_cons→I5,getElem?_append_left→Jt,getElem?_append_right→Jz,getD→Io,getElem?_eq_getElem→Ic,getElem?_eq_none→IK,getElem?_take_of_lt→IL,getElem?_eq_some_iff→I9,length_set→Jc,length_take→IA,length_drop→Jl
open Option renaming none→Y,some→Z
open Go renaming maxLen→Ii,info_parts→Jd,wpList_append_own→Ja,cell_regrown→Iq,redrawn→Ix,wp_region_quiet_below→IT
open Array renaming getElem?_eq_some_iff→Ib
open Go.World.ownsRow renaming lt→IY,stored→JW,frozenAt→Jw,cellAt→OV
open Go.Ending renaming returned→sh
open Go.Proofs.Tryz renaming prog→be,underlying23→Om,underlying3→Iz
open Go.RowKit.Below renaming refl→Ia
open Go.Addr renaming add_lit→Je
open Nat renaming le_refl→By
open Go.Instr renaming lookup→J5
open Go.Value.slice renaming injEq→IS
open Option.some renaming injEq→JA
open Go.Addr.mk renaming injEq→Oa
open Go.Sort renaming grow→Im
namespace Go.Proofs.YtfidjlcdlakceaaGreatDoor
open Go.RowKit
def bu.cs(r:bu):List Value:=[I r.m.name,O J r.m.state,O J r.m.aP,O J r.m.addr,AT r.m.server,O J r.told]
def ez(rs:List bu):List Value:=rs.flatMap bu.cs
theorem iw(r:bu):r.cs.length=6:=rfl
theorem jR(m:bu)(r:List bu):ez (m::r)=m.cs++ez r:=by simp[ez]
theorem s9(a b:List bu):ez (a++b)=ez a++ez b:=by simp[ez]
theorem dy:∀ms:List bu,(ez ms).length=ms.length*6
 |[]=>rfl
 |m::r=>by rw[jR,Ij,dy r,iw,I5];omega
theorem te:∀(ms:List bu) (i:Nat),(ez ms).take (i*6)=ez (ms.take i)
 |[],i=>by simp[ez]
 |m::r,0=>by simp[ez]
 |m::r,i+1=>by
  rw[jR,List.take_succ_cons,jR,show(i+1)*6=m.cs.length+i*6 by rw[iw];omega,List.take_length_add_append,te r i]
theorem yS:∀(ms:List bu) (i:Nat),(ez ms).drop (i*6)=ez (ms.drop i)
 |[],i=>by simp[ez]
 |m::r,0=>by simp
 |m::r,i+1=>by
  rw[jR,List.drop_succ_cons,show(i+1)*6=m.cs.length+i*6 by rw[iw];omega,List.drop_length_add_append,yS r i]
theorem wU(m:bu):∀v∈m.cs,v.oneCell'=true:=by
 intro v hv;simp[bu.cs] at hv;rcases hv with rfl|rfl|rfl|rfl|rfl|rfl<;>rfl
theorem CW(ms:List bu):∀v∈ez ms,v.oneCell'=true:=by
 intro v hv;obtain⟨m,_,h⟩:=List.mem_flatMap.1 hv;exact wU m v h
theorem kl(ms:List bu)(j:Nat)(hj:j<ms.length)(t:Nat)(ht:t<6):(ez ms)[j*6+t]?=(ms.getD j dr).cs[t]?:=by
 induction ms generalizing j with
 |nil=>simp at hj
 |cons m r ih=>
  rw[jR];cases j with
  |zero=>rw[Jt (by rw[iw];omega)];simp
  |succ j=>
   rw[Jz (by rw[iw];omega),iw,show(j+1)*6+t-6=j*6+t by omega,ih j (by simpa using hj)];simp
abbrev bX(base:Nat)(w:World)(v:Value)(ms:List bu):Prop:=w.ownsRow base 95 6 v ms.length (ez ms)
theorem yT(base:Nat)(w:World):bX base w (U Y 0 0) []:=World.ownsRow_nil w base 95 6
theorem vF{base:Nat}{w:World}{v:Value}{L:List bu}{m:bu}(h:w.ownsRow base 95 6 v (L.length+1) (ez L++m.cs)):bX base w v (L++[m]):=by
 have e:ez (L++[m])=ez L++m.cs:=by rw[s9,jR];simp[ez]
 show w.ownsRow base 95 6 v (L++[m]).length (ez (L++[m]));rw[e,Ij];exact h
theorem wV{rs:List bu}(h:∀r∈rs,r.m.name.size<=Ii):∀j,(rs.getD j dr).m.name.size<=Ii:=λj=>by
 by_cases hj:j<rs.length
 .rw[show rs.getD j dr=rs[j] by simp[Io,Ic hj]]
  exact h _ (List.getElem_mem hj)
 .rw[show rs.getD j dr=dr by simp[Io,IK (by omega:rs.length<=j)]]
  exact Nat.zero_le _
theorem PO{rs:List bu}(h:∀j,(rs.getD j dr).m.name.size<=Ii):∀m∈rs,m.m.name.size<=Ii:=by
 intro m hm;obtain⟨j,hj,rfl⟩:=List.getElem_of_mem hm;have:=h j
 rwa [show rs.getD j dr=rs[j] by simp[Io,Ic hj]] at this
theorem bX.sl{base:Nat}{w:World}{v:Value}{ms:List bu}(h:bX base w v ms)(hs:∀j,(ms.getD j dr).m.name.size<=Ii):kB w v ms:=by
 rcases h.2 with⟨rfl,h0⟩|⟨g,c,cur,rfl,dN,hg,fa,dO,cJ,aV⟩
 .exact⟨Y,0,by rw[h0],hs,.inl (List.eq_nil_of_length_eq_zero h0)⟩
 .refine⟨_,c,rfl,hs,.inr ⟨g,0,rfl,(Ib.1 hg).1,λj hj=>?_⟩⟩
  have hc:∀t,t<6->w.cell? ⟨g,0+j*6+t,Y⟩=(ms.getD j dr).cs[t]?:=λt ht=>by
   rw[af hg,<- kl ms j hj t ht,<- aV,IL (by omega)];simp
  exact⟨hc 0 (by omega),hc 1 (by omega),hc 2 (by omega),hc 3 (by omega),hc 4 (by omega),hc 5 (by omega)⟩
theorem bX.below{base:Nat}{w w':World}{v:Value}{ms:List bu}(h:bX base w v ms)(hb:Below w.heap.size w w'):bX base w' v ms:=by
 obtain⟨h1,h2⟩:=h;refine⟨h1,?_⟩;rcases h2 with h2|⟨g,c,cur,hv,dN,hg,hr⟩
 .exact .inl h2
 .exact .inr ⟨g,c,cur,hv,dN,by rw[hb.block g (Ib.1 hg).1];exact hg,hr⟩
theorem bX.base{b b':Nat}{w:World}{v:Value}{ms:List bu}(h:bX b w v ms)(hb:b'<=b):bX b' w v ms:=by
 obtain⟨h1,h2⟩:=h;refine⟨h1,?_⟩;rcases h2 with h2|⟨g,c,cur,hv,dN,hr⟩
 .exact .inl h2
 .exact .inr ⟨g,c,cur,hv,Nat.le_trans hb dN,hr⟩
theorem bX.lt{base:Nat}{w:World}{v:Value}{ms:List bu}(h:bX base w v ms)(k:Nat)(hk:v.ownBlock=Z k):base<=k/\k<w.heap.size:=IY h k hk
theorem bX.slice{base:Nat}{w:World}{v:Value}{ms:List bu}(h:bX base w v ms):∃a c,v=U a ms.length c:=by
 rcases h.2 with⟨rfl,h0⟩|⟨g,c,cur,rfl,_⟩
 .exact⟨Y,0,by rw[h0]⟩
 .exact⟨_,c,rfl⟩
theorem Tryz.vG:(Tryz.prog.info? 95).map (λi=>(i.zero,i.size,i.bytes))=Z (Z (Ip #[I ⟨#[]⟩,O J 0,O J 0,O J 0,AT false,O J 0]),6,56):=by kernel_rfl
theorem Fo{rs:List bu}{w:World}{b off:Nat}(hr:iX w b off rs){j:Nat}{u:Value}(hj:(ez rs)[j]?=Z u):w.cell? ⟨b,off+j,Y⟩=Z u:=by
 have MW:j<rs.length*6:=by rw[<- dy];exact(I9.1 hj).1
 have h1:=kl rs (j/6) (by omega) (j%6) (by omega);rw[show j/6*6+j%6=j by omega,hj] at h1;obtain⟨c0,c1,c2,c3,c4,c5⟩:=hr (j/6) (by omega);have cJ:j%6=0\/j%6=1\/j%6=2\/j%6=3\/j%6=4\/j%6=5:=by omega
 rcases cJ with e|e|e|e|e|e
 .rw[show off+j=off+j/6*6 by omega,c0];rw[e] at h1;simpa[bu.cs] using h1.symm
 .rw[show off+j=off+j/6*6+1 by omega,c1];rw[e] at h1;simpa[bu.cs] using h1.symm
 .rw[show off+j=off+j/6*6+2 by omega,c2];rw[e] at h1;simpa[bu.cs] using h1.symm
 .rw[show off+j=off+j/6*6+3 by omega,c3];rw[e] at h1;simpa[bu.cs] using h1.symm
 .rw[show off+j=off+j/6*6+4 by omega,c4];rw[e] at h1;simpa[bu.cs] using h1.symm
 .rw[show off+j=off+j/6*6+5 by omega,c5];rw[e] at h1;simpa[bu.cs] using h1.symm
theorem fA(rs:List bu)(v:Value)(w:World)(h:kB w v rs)(hn:rs.length<=1000) :
 Calls be 90 #[v] w λe w'=>∃v',e=sh v'/\bX w.heap.size w' v' rs/\Below w.heap.size w w':=by
 obtain⟨a,cap,rfl,hs,h⟩:=h;obtain⟨i0,eP,cE,gn,ga⟩:=Jd Tryz.vG;cases a with
 |none=>
  have he:rs=[]:=by
   rcases h with h|⟨b,off,h,_⟩
   .exact h
   .cases h
  subst he;clear h hs;have gY:=λ(w:World)=>Lib.run_eql_slice_nil (P:=be) w 23 95 Y 0 cap 0 0 Om;simp only[List.length_nil,Option.isNone_none] at gY ⊢;go_enter Tryz.func90,Tryz.ntmps90;go_wp2_with fail;go_ret;exact⟨_,rfl,yT _ _,Ia _ _⟩
 |some a=>
  have gY:=λ(w:World)=>Lib.run_eql_slice_nil (P:=be) w 23 95 (Z a) rs.length cap 0 0 Om;simp only[Option.isNone_some] at gY;have hnews:Hid (∀j u,(ez rs)[j]?=Z u->(w.alloc (.cells #[] 95)).cell? (a.add j)=Z u):=by
   intro j u hj;rcases h with h|⟨b,off,h,hb,hr⟩
   .subst h;simp[ez] at hj
   .cases h
    rw[Je,World.cell?_alloc_past (w:=w) _ b _ hb];exact Fo hr hj
  have HO:Hid ((w.alloc (.cells #[] 95)).ownsRow w.heap.size 95 6 (U (Z ⟨w.heap.size,0,Y⟩) 0 0) 0 []):=World.ownsRow_made w #[] 0 (By _) (by unfold Ii;omega) rfl;clear h hs;go_enter Tryz.func90,Tryz.ntmps90;go_wp2_with (at_builtin;refine Ja _ rfl _ _ 23 rfl w.heap.size 95 i0 _ 6 56 Om eP cE gn ga rfl (by omega) _ 0 [] rfl HO.out a rs.length cap (ez rs) rfl (dy rs) hnews.out (CW rs) (by unfold Ii;omega) (by omega) (by simp) ?_);intro v' w' r1 r2 r3;go_wp2_with fail;go_ret;refine⟨v',rfl,?_,?_⟩
  .simpa using r1
  .exact((Ia _ _).alloc (By _) _).grown r2 (by simp) (λk hk=>by simp[Value.ownBlock] at hk;omega)
end Go.Proofs.YtfidjlcdlakceaaGreatDoor
namespace Go.Proofs.YtfidjlcdlakceaaGreatDoor
open Go.RowKit Go.WideMaps Go.Maps
theorem ox{w:World}{b n:Nat}{D:DataW Unit}(h:w.ownsMap be 9 (plainElem (H:=Unit) be 3) b n D){s:ByteArray}(hs:s.size<=Ii) :
 ∃c:Int,(J5 223 (.map (Z b)) (I s) true).run be w=.ok (Il #[O J c,AT (Maps.has D (kS s))]) w/\D.atKey (kS s) (.lit (.int J 0))=.lit (.int J c):=by
 obtain⟨v,ps,gO,hv⟩:=h.look_ok Pj Tryz.underlying223 (K7 _) (plainElem_int Iz (by decide)) (keyOf_string_mk Tryz.underlying9 hs);obtain⟨c,rfl,hc,_⟩:=plainElem_int_inv Iz hv;exact⟨c,gO,congrArg Prod.fst hc⟩
def CX(rs:List bu)(nm:ByteArray):Prop:=∀j,j<rs.length->(rs.getD j dr).m.name≠nm
theorem CY{rs:List bu}{nm:ByteArray}(h:CX rs nm):Maps.has (Dm (eE rs) rs.length) (kS nm)=false:=by
 cases hh:Maps.has (Dm (eE rs) rs.length) (kS nm)
 .rfl
 .obtain⟨j,hj,e⟩:=(pC _ _ _).1 hh
  rw[cU] at e;exact absurd e (h j hj)
theorem PQ(rs:List bu)(v:Value)(m:Mem)(w:World)(hv:kB w v rs)(hm:m.name.size<=Ii)(h0:cI rs=0)(he:m.e=0)(iA:CX rs m.name)(hl:rs.length<20) :
 Calls be 203 #[v,Ip #[I m.name,O J m.state,O J m.aP,O J m.addr,AT m.server]] w λe w'=>∃v',e=sh (Il #[v',O J 0])/\bX w.heap.size w' v' (rs++[⟨m,0⟩])/\Below w.heap.size w w':=by
 obtain⟨i0,eP,cE,gn,ga⟩:=Jd Tryz.vG;have HV:Hid (kB w v rs):=hv;have iO:=λ(w:World) (h:kB w v rs)=>fu rs v w h;rw[h0] at iO;have dO:=λw=>ey m w hm;rw[he] at dO;have HH:Hid _:=CY iA;clear h0 he hv;obtain⟨nm,st,lf,ad,sv⟩:=m;simp only at *;have kO:Below w.heap.size w (w.alloc (.cells #[I nm,O J st,O J lf,O J ad,AT sv] 70)):=(Ia _ _).alloc (By _) _;go_enter Tryz.func203,Tryz.ntmps203;go_wp2_with fail;refine(iO _ (HV.out.below kO)).mono ?_;rintro e w1 ⟨rfl,an⟩;have c1:∀o,w1.cell? ⟨w.heap.size,o,Y⟩=#[I nm,O J st,O J lf,O J ad,AT sv][o]?:=λo=>by
  rw[an.cell (p:=⟨w.heap.size,o,Y⟩) (by simp)];exact cC rfl
 have aK:Hid _:=kO.trans (an.mono (by simp));have cP:w.heap.size<w1.heap.size:=by have:=an.size;simp at this;omega
 clear an kO iO;go_wp2_with fail;refine(dO _).mono ?_;rintro e w2 ⟨rfl,aD⟩;have c2:∀o,w2.cell? ⟨w.heap.size,o,Y⟩=#[I nm,O J st,O J lf,O J ad,AT sv][o]?:=λo=>by
  rw[aD.cell (p:=⟨w.heap.size,o,Y⟩) (by simp only;omega)];exact c1 o
 have bD:Hid _:=aK.out.trans (aD.mono aK.out.size);have jD:w.heap.size<w2.heap.size:=by have:=aD.size;omega
 clear aD c1 cP aK dO;go_wp2_with fail;refine(fA rs v _ (HV.out.below bD.out) (by omega)).mono ?_;rintro e w3 ⟨v3,rfl,nu,bn⟩;have gI:Hid (bX _ _ _ _):=nu;have c3:w3.cell? ⟨w.heap.size,0,Y⟩=Z (I nm):=by
  rw[bn.cell (p:=⟨w.heap.size,0,Y⟩) (by simp only;omega)];exact c2 0
 have C3:Hid (∀o,w3.cell? ⟨w.heap.size,o,Y⟩=#[I nm,O J st,O J lf,O J ad,AT sv][o]?):=λo=>by
  rw[bn.cell (p:=⟨w.heap.size,o,Y⟩) (by simp only;omega)];exact c2 o
 have cT:Hid _:=bD.out.trans (bn.mono bD.out.size);have mB:w.heap.size<w3.heap.size:=by have:=bn.size;omega
 have VP:=bn.size;clear bn nu c2;go_wp2_with fail;go_region_held3 (λw'=>w'.cell? ⟨w.heap.size,0,Y⟩=Z (I nm)) (first|assumption|go_keep) (first|(go_at_call 179;refine(n9 rs v _ ((HV.out.below cT.out).below (Ia _ _).drew) (by omega)).mono ?_;rintro e w4 ⟨rfl,hown,e9⟩;obtain⟨cq,gO,cG⟩:=ox hown hm;rw[HH.out] at gO;have xK:(J5 223 (.map (Z w3.heap.size)) (I nm) true).run be w4=.ok (Il #[O J cq,AT false]) w4:=gO;clear gO cG hown;have fb:Hid (Below w3.heap.size w3 w4):=(Ia w3.heap.size w3).drew.trans e9;have hS:w4.cell? ⟨w.heap.size,0,Y⟩=Z (I nm):=((e9.cell (p:=⟨w.heap.size,0,Y⟩) mB).trans c3);clear e9))
 obtain⟨a3,Fp,Fq⟩:=gI.out.slice;subst Fq;have C4:∀o,w4.cell? ⟨w.heap.size,o,Y⟩=#[I nm,O J st,O J lf,O J ad,AT sv][o]?:=λo=>by
  rw[fb.out.cell (p:=⟨w.heap.size,o,Y⟩) mB];exact C3.out o
 have qY:Hid (bX _ _ _ _):=gI.out.below fb.out;have ia:Hid _:=cT.out.trans (fb.out.mono cT.out.size);have fW:w2.heap.size<=w4.heap.size:=by have:=fb.out.size;omega
 have mM:Hid (∀ob,(w4.alloc ob).ownsRow w2.heap.size 95 6 (U a3 rs.length Fp) rs.length (ez rs)):=λob=>qY.out.below ((Ia _ _).alloc (By _) _);have CS:Hid (∀k,(U a3 rs.length Fp).ownBlock=Z k->w.heap.size<=k):=λk hk=>by have:=(qY.out.lt k hk).1;omega
 have HSN:Hid (∀(w':World) (v':Value),w'.ownsRow w2.heap.size 95 6 v' (rs.length+1) (ez rs++(bu.mk ⟨nm,st,lf,ad,sv⟩ 0).cs)->bX w.heap.size w' v' (rs++[⟨⟨nm,st,lf,ad,sv⟩,0⟩])):=λw' v' h=>(vF h).base (by omega);clear gI C3 fb cT c3 xK qY;generalize hN:rs.length=n at *;have HN:Hid _:=hN;clear hN;go_wp2_with (at_builtin;refine Ja _ rfl _ _ 23 rfl w2.heap.size 95 i0 _ 6 56 Om eP cE gn ga rfl (by omega) _ n (ez rs) rfl ?hown ⟨w4.heap.size,0,Y⟩ 1 1 (bu.mk ⟨nm,st,lf,ad,sv⟩ 0).cs rfl rfl ?hnews (wU _) ?h63 ?hbytes ?hbase ?_)
 case hown=>exact mM.out _
 case hnews=>(intro j u hj;rw[Je];exact(af (heap_alloc_new w4 (.cells #[I nm,O J st,O J lf,O J ad,AT sv,O J 0] 95)) (0+j)).trans (by simpa[bu.cs] using hj))
 case h63=>(unfold Ii;omega)
 case hbytes=>omega
 case hbase=>(simp;omega)
 intro v' w5 r1 r2 r3;have R1:Hid (bX _ _ _ _):=HSN.out w5 v' r1;have R2:Hid _:=(ia.out.alloc ia.out.size _).grown r2 (by have:=ia.out.size;simp;omega) (λk hk=>CS.out k hk);clear r1 r2 r3;go_wp2_with fail;go_ret2;exact⟨v',rfl,R1.out,R2.out⟩
end Go.Proofs.YtfidjlcdlakceaaGreatDoor
namespace Go.Proofs.YtfidjlcdlakceaaGreatDoor
open Go.RowKit
theorem Tryz.aaO:(Tryz.prog.info? 3).map (λi=>(i.zero,i.size,i.bytes))=Z (Z (O J 0),1,8):=by kernel_rfl
theorem oy{base g c n:Nat}{w:World}{rs:List bu}(h:w.ownsRow base 95 6 (U (Z ⟨g,0,Y⟩) n c) rs.length (ez rs)):iX w g 0 rs:=by
 rcases h.2 with⟨hv,_⟩|⟨g',c',cur,hv,dN,hg,fa,dO,cJ,aV⟩
 .cases hv
 .simp only[IS,JA,Oa,and_true] at hv
  obtain⟨rfl,_,_⟩:=hv;intro j hj;have hc:∀t,t<6->w.cell? ⟨g,0+j*6+t,Y⟩=(rs.getD j dr).cs[t]?:=λt ht=>by
   rw[af hg,<- kl rs j hj t ht,<- aV,IL (by omega)];simp
  exact⟨hc 0 (by omega),hc 1 (by omega),hc 2 (by omega),hc 3 (by omega),hc 4 (by omega),hc 5 (by omega)⟩
def Fs:List Value->Nat->List Value->List Value
 |xs,_,[]=>xs
 |xs,o,v::r=>Fs (xs.set o v) (o+1) r
theorem mr:∀(vs xs:List Value) (o:Nat),(Fs xs o vs).length=xs.length
 |[],_,_=>rfl
 |v::r,xs,o=>by rw[Fs,mr r,Jc]
theorem mu:∀(vs xs:List Value) (o k:Nat),k<o\/o+vs.length<=k->(Fs xs o vs)[k]?=xs[k]?
 |[],_,_,_,_=>rfl
 |v::r,xs,o,k,h=>by
  simp only[I5] at h;rw[Fs,mu r _ _ k (by omega),List.getElem?_set_ne (by omega)]
theorem Bu:∀(vs xs:List Value) (o j:Nat),j<vs.length->o+vs.length<=xs.length->(Fs xs o vs)[o+j]?=vs[j]?
 |[],_,_,_,h,_=>by simp at h
 |v::r,xs,o,0,_,h2=>by
  simp only[I5] at h2;rw[Fs,mu r _ _ _ (by omega)];simp[List.getElem?_set_self (show o<xs.length by omega)]
 |v::r,xs,o,j+1,h,h2=>by
  simp only[I5] at h h2;rw[Fs,show o+(j+1)=(o+1)+j by omega,Bu r _ _ j (by omega) (by rw[Jc];omega)];simp
theorem iP{base g n cap:Nat}{e:TypeId}{size:Nat}:∀(vs xs:List Value) (o:Nat) (w:World),w.ownsRow base e size (U (Z ⟨g,0,Y⟩) n cap) n xs->(w.setCells g o vs).ownsRow base e size (U (Z ⟨g,0,Y⟩) n cap) n (Fs xs o vs)
 |[],_,_,_,h=>h
 |v::r,_,o,_,h=>iP r _ _ _ (JW h o v).1
theorem eM{base g:Nat}(hg:base<=g):∀(vs:List Value) (o:Nat) (w0 w:World),Below base w0 w->Below base w0 (w.setCells g o vs)
 |[],_,_,_,h=>h
 |v::r,o,w0,_,h=>eM hg r _ w0 _ (h.setCell (p:=⟨g,o,Y⟩) hg v)
theorem qm{w:World}{base g n m cap:Nat}{e:TypeId}{size:Nat}{xs:List Value}(h:w.ownsRow base e size (U (Z ⟨g,0,Y⟩) n cap) n xs)(hm:m<=n):w.ownsRow base e size (U (Z ⟨g,0,Y⟩) m cap) m (xs.take (m*size)):=by
 obtain⟨h1,h2⟩:=h;have hle:m*size<=n*size:=Nat.mul_le_mul_right _ hm;refine⟨by rw[IA,h1];omega,?_⟩;rcases h2 with⟨hv,_⟩|⟨g',c',cur,hv,dN,hg,fa,dO,cJ,aV⟩
 .cases hv
 .simp only[IS,JA,Oa,and_true,true_and] at hv
  obtain⟨rfl,rfl⟩:=hv;refine .inr ⟨g,cap,cur,rfl,dN,hg,by omega,dO,cJ,?_⟩;rw[<- aV,List.take_take,Nat.min_eq_left hle]
def zR:List Value:=[I ⟨#[]⟩,O J 0,O J 0,O J 0,AT false,O J 0]
theorem tf{xs ys:List Value}{k:Nat}(hl:k<=xs.length)(hy:ys.length=k)(h:∀j,j<k->xs[j]?=ys[j]?):xs.take k=ys:=by
 apply List.ext_getElem?;intro j;by_cases hj:j<k
 .rw[IL hj,h j hj]
 .rw[IK (by rw[IA];omega),IK (by omega)]
theorem yU{rs:List bu}{p n:Nat}(hn:rs.length=n)(hp:p<n):(Fs (Fs (ez rs) (p*6) (ez (rs.drop (p+1)))) ((n-1)*6) zR).take ((n-1)*6)=ez (rs.eraseIdx p):=by
 have hl:(ez rs).length=n*6:=by rw[dy,hn]
 have hd:(ez (rs.drop (p+1))).length=(n-(p+1))*6:=by rw[dy,Jl,hn]
 refine tf (by rw[mr,mr,hl];omega) (by rw[dy,List.length_eraseIdx,if_pos (by omega),hn]) (λj hj=>?_);rw[mu _ _ _ _ (by omega),List.eraseIdx_eq_take_drop_succ,s9];have ht:(ez (rs.take p)).length=p*6:=by rw[dy,IA,hn];omega
 by_cases hjp:j<p*6
 .rw[mu _ _ _ _ (by omega),Jt (by omega),<- te,IL hjp]
 .rw[Jz (by omega),ht]
  have:=Bu (ez (rs.drop (p+1))) (ez rs) (p*6) (j-p*6) (by rw[hd];omega) (by rw[hd,hl];omega);rw[show p*6+(j-p*6)=j by omega] at this;exact this
theorem uE(w:World)(ty:TypeId)(b o c:Nat)(hc:∀j,j<6->(w.cell? ⟨b,o+j,Y⟩).isSome=true)(hf:∀j,j<6->w.frozen? ⟨b,o+j,Y⟩=false) : (Builtin.clear_ #[23] ty #[U (Z ⟨b,o,Y⟩) 1 c]).run be w=.ok (Il #[]) (w.setCells b o zR):=by
 have hzc:(Builtin.zeroCells (Value.agg #[I ⟨#[]⟩,O J 0,O J 0,O J 0,AT false,O J 0]).cells 1).toList=zR:=by kernel_rfl
 have rX:=run_storeCells_cells (P:=be) b o zR 0 w (λj hj=>by simpa using hc j (by simpa[zR] using hj)) (λj hj=>by simpa using hf j (by simpa[zR] using hj)) (by intro v hv;simp[zR] at hv;rcases hv with rfl|rfl|rfl|rfl<;>rfl);simp only[Nat.add_zero] at rX;simp[Builtin.clear_,run_underlying Om,hzc,rX]
theorem Bv(rs:List bu)(n p g c base:Nat)(w:World)(hn:rs.length=n)(ho:bX base w (U (Z ⟨g,0,Y⟩) n c) rs)(hp:p<n)(Aw:n<=1000) :
 Calls be 246 #[U (Z ⟨g,0,Y⟩) n c,O J p,O J (p+1)] w λe w'=>e=sh (U (Z ⟨g,0,Y⟩) (n-1) c)/\bX base w' (U (Z ⟨g,0,Y⟩) (n-1) c) (rs.eraseIdx p)/\Below base w w':=by
 obtain⟨i0,eP,cE,cP,jD⟩:=Jd Tryz.vG;have HO:Hid (w.ownsRow base 95 6 (U (Z ⟨g,0,Y⟩) n c) n (ez rs)):=by rw[<- hn];rw[<- hn] at ho;exact ho
 obtain⟨oU,fa,dO⟩:base<=g/\n<=c/\c<=Ii:=by
  rcases HO.out.2 with⟨hv,_⟩|⟨g',c',cur,hv,dN,hg,fa,dO,cJ,aV⟩
  .cases hv
  .simp only[IS,JA,Oa,and_true,true_and] at hv
   obtain⟨rfl,rfl⟩:=hv;exact⟨dN,fa,dO⟩
 unfold Ii at dO;have hp0:(0:Int)<=(p:Int)+1:=by omega
 have hZ:(p:Int)+1<=(n:Int):=by omega
 have ND:((p:Int)+1).toNat=p+1:=by omega
 have hic:p<=c:=by omega
 have bj:∀k,k<n*6->w.cell? ⟨g,k,Y⟩=(ez rs)[k]?:=λk hk=>by
  rcases HO.out.2 with⟨hv,_⟩|⟨g',c',cur,hv,dN,hg,_,_,cJ,aV⟩
  .cases hv
  .simp only[IS,JA,Oa,and_true,true_and] at hv
   obtain⟨rfl,rfl⟩:=hv;rw[af hg,<- aV,IL hk,Array.getElem?_toList]
 have qP:(ez rs).length=n*6:=by rw[dy,hn]
 have S1:Hid ((ez (rs.drop (p+1))).length=(n-(p+1))*6):=(show(ez (rs.drop (p+1))).length=_ by rw[dy,Jl,hn]);obtain⟨A,hA,hnews⟩:∃A:Addr,(if c=p+1 then Z (⟨g,0,Y⟩:Addr) else Z ⟨g,(p+1)*6,Y⟩)=Z A/\Hid (∀j u,(ez (rs.drop (p+1)))[j]?=Z u->w.drew.cell? (A.add j)=Z u):=by
  by_cases h:c=p+1
  .refine⟨_,if_pos h,λj u hj=>?_⟩
   have:j<(ez (rs.drop (p+1))).length:=(I9.1 hj).1
   rw[S1.out] at this;omega
  .refine⟨_,if_neg h,λj u hj=>?_⟩
   have M6:=(I9.1 hj).1;rw[S1.out] at M6;rw[Je];show w.cell? _=_;rw[bj _ (by omega),<- hj,<- yS,List.getElem?_drop]
 have S2:Hid (∀u∈ez (rs.drop (p+1)),u.oneCell'=true):=CW _;have S3:Hid (∀j,j<(ez (rs.drop (p+1))).length->(w.drew.cell? ⟨g,0+p*6+j,Y⟩).isSome=true/\w.drew.frozen? ⟨g,0+p*6+j,Y⟩=false):=λj hj=>by
  rw[S1.out] at hj;refine⟨?_,Jw HO.out _⟩;show(w.cell? _).isSome=true;rw[bj _ (by omega),Ic (by omega)];rfl
 have HD:Hid ((w.drew.setCells g (p*6) (ez (rs.drop (p+1)))).ownsRow base 95 6 (U (Z ⟨g,0,Y⟩) n c) n (Fs (ez rs) (p*6) (ez (rs.drop (p+1))))):=iP _ _ _ _ (show w.drew.ownsRow base 95 6 (U (Z ⟨g,0,Y⟩) n c) n (ez rs) from HO.out);have VQ:∀ty,(Builtin.clear_ #[23] ty #[U (Z ⟨g,(p+(n-(p+1)))*6,Y⟩) (n-(p+(n-(p+1)))) (c-(p+(n-(p+1))))]).run be (w.drew.setCells g (p*6) (ez (rs.drop (p+1))))=.ok (Il #[]) ((w.drew.setCells g (p*6) (ez (rs.drop (p+1)))).setCells g ((n-1)*6) zR):=λty=>by
  rw[show p+(n-(p+1))=n-1 by omega,show n-(n-1)=1 by omega];exact uE _ ty g _ _ (λj hj=>by rw[OV HD.out _ (by omega),Ic (by rw[mr,qP];omega)];rfl) (λj _=>Jw HD.out _)
 have HF:Hid (((w.drew.setCells g (p*6) (ez (rs.drop (p+1)))).setCells g ((n-1)*6) zR).ownsRow base 95 6 (U (Z ⟨g,0,Y⟩) (n-1) c) (n-1) (ez (rs.eraseIdx p))):=by
  have h:=qm (m:=n-1) (iP zR _ ((n-1)*6) _ HD.out) (by omega);rw[yU hn hp] at h;exact h
 have HL:Hid ((rs.eraseIdx p).length=n-1):=(show(rs.eraseIdx p).length=n-1 by rw[List.length_eraseIdx,if_pos (by omega),hn]);have HBL:Hid (Below base w ((w.drew.setCells g (p*6) (ez (rs.drop (p+1)))).setCells g ((n-1)*6) zR)):=eM oU _ _ _ _ (eM oU _ _ _ _ (Ia _ _).drew);have Ft:Hid (p+(n-(p+1))=n-1):=(show p+(n-(p+1))=n-1 by omega);clear ho bj;go_enter Tryz.func246,Tryz.ntmps246;go_wp2_with fail;go_region_law (refine step_append_room rfl (.tmp 22) (.tmp 25) 23 rfl 95 i0 6 Om eP cP g 0 p c (by simp[Act.eval,Act.put]) A (n-(p+1)) (c-(p+1)) (ez (rs.drop (p+1))) (by simp[Act.eval,Act.put]) S1.out hnews.out S2.out (by omega) S3.out ?_)
 go_wp2_with fail;go_ret;refine⟨?_,?_,HBL.out⟩
 .have yV:=Ft.out
  simp only[yV];rfl
 .show World.ownsRow _ _ _ _ _ (rs.eraseIdx p).length _
  rw[HL.out];exact HF.out
end Go.Proofs.YtfidjlcdlakceaaGreatDoor
namespace Go.Proofs.YtfidjlcdlakceaaGreatDoor
open Go.RowKit Go.WideMaps Go.Maps
theorem gv{rs:List bu}(h:cI rs=0):rs.length<=20/\(∀j,j<rs.length->(rs.getD j dr).m.e=0)/\fo rs/\dS rs:=by
 unfold cI at h;by_cases h1:20<rs.length
 .rw[if_pos h1] at h;omega
 rw[if_neg h1] at h;by_cases h2:aQ (mO rs)=0
 .rw[if_pos h2] at h
  by_cases h3:fo rs
  .rw[if_pos h3] at h
   by_cases h4:dS rs
   .refine⟨by omega,λj hj=>?_,h3,h4⟩
    have:=si h2 j (by rw[pD];exact hj)
    rwa [jL] at this
   .rw[if_neg h4] at h;omega
  .rw[if_neg h3] at h;omega
 .rw[if_neg h2] at h;exact absurd h h2
theorem vH{a b:Mem}(ha:a.e=0)(hb:b.e=0)(hn:a.name=b.name):fX a b=0:=by
 have h:aY [a] [b]=0:=by rw[aY,iI,iI];simp[ha,hb]
 rw[fX,if_pos h,if_pos hn]
theorem LO(rs:List bu)(v:Value)(m:Mem)(w:World)(hv:kB w v rs)(hm:m.name.size<=Ii)(h0:cI rs=0)(he:m.e=0)(iA:CX rs m.name)(hl:rs.length=20) :
 Calls be 203 #[v,Ip #[I m.name,O J m.state,O J m.aP,O J m.addr,AT m.server]] w λe w'=>e=sh (Il #[U Y 0 0,O J 2])/\Below w.heap.size w w':=by
 obtain⟨i0,eP,cE,gn,ga⟩:=Jd Tryz.vG;have HV:Hid (kB w v rs):=hv;have iO:=λ(w:World) (h:kB w v rs)=>fu rs v w h;rw[h0] at iO;have dO:=λw=>ey m w hm;rw[he] at dO;have HH:Hid _:=CY iA;clear h0 he hv;obtain⟨nm,st,lf,ad,sv⟩:=m;simp only at *;have kO:Below w.heap.size w (w.alloc (.cells #[I nm,O J st,O J lf,O J ad,AT sv] 70)):=(Ia _ _).alloc (By _) _;go_enter Tryz.func203,Tryz.ntmps203;go_wp2_with fail;refine(iO _ (HV.out.below kO)).mono ?_;rintro e w1 ⟨rfl,an⟩;have c1:∀o,w1.cell? ⟨w.heap.size,o,Y⟩=#[I nm,O J st,O J lf,O J ad,AT sv][o]?:=λo=>by
  rw[an.cell (p:=⟨w.heap.size,o,Y⟩) (by simp)];exact cC rfl
 have aK:Hid _:=kO.trans (an.mono (by simp));have cP:w.heap.size<w1.heap.size:=by have:=an.size;simp at this;omega
 clear an kO iO;go_wp2_with fail;refine(dO _).mono ?_;rintro e w2 ⟨rfl,aD⟩;have c2:∀o,w2.cell? ⟨w.heap.size,o,Y⟩=#[I nm,O J st,O J lf,O J ad,AT sv][o]?:=λo=>by
  rw[aD.cell (p:=⟨w.heap.size,o,Y⟩) (by simp only;omega)];exact c1 o
 have bD:Hid _:=aK.out.trans (aD.mono aK.out.size);have jD:w.heap.size<w2.heap.size:=by have:=aD.size;omega
 clear aD c1 cP aK dO;go_wp2_with fail;refine(fA rs v _ (HV.out.below bD.out) (by omega)).mono ?_;rintro e w3 ⟨v3,rfl,nu,bn⟩;have gI:Hid (bX _ _ _ _):=nu;have c3:w3.cell? ⟨w.heap.size,0,Y⟩=Z (I nm):=by
  rw[bn.cell (p:=⟨w.heap.size,0,Y⟩) (by simp only;omega)];exact c2 0
 have C3:Hid (∀o,w3.cell? ⟨w.heap.size,o,Y⟩=#[I nm,O J st,O J lf,O J ad,AT sv][o]?):=λo=>by
  rw[bn.cell (p:=⟨w.heap.size,o,Y⟩) (by simp only;omega)];exact c2 o
 have cT:Hid _:=bD.out.trans (bn.mono bD.out.size);have mB:w.heap.size<w3.heap.size:=by have:=bn.size;omega
 have VP:=bn.size;clear bn nu c2;go_wp2_with fail;go_region_held3 (λw'=>w'.cell? ⟨w.heap.size,0,Y⟩=Z (I nm)) (first|assumption|go_keep) (first|(go_at_call 179;refine(n9 rs v _ ((HV.out.below cT.out).below (Ia _ _).drew) (by omega)).mono ?_;rintro e w4 ⟨rfl,hown,e9⟩;obtain⟨cq,gO,cG⟩:=ox hown hm;rw[HH.out] at gO;have xK:(J5 223 (.map (Z w3.heap.size)) (I nm) true).run be w4=.ok (Il #[O J cq,AT false]) w4:=gO;clear gO cG hown;have fb:Hid (Below w3.heap.size w3 w4):=(Ia w3.heap.size w3).drew.trans e9;have hS:w4.cell? ⟨w.heap.size,0,Y⟩=Z (I nm):=((e9.cell (p:=⟨w.heap.size,0,Y⟩) mB).trans c3);clear e9))
 obtain⟨a3,Fp,Fq⟩:=gI.out.slice;subst Fq;have ia:Hid _:=cT.out.trans (fb.out.mono cT.out.size);clear gI C3 fb cT c3 xK;rw[hl];go_wp2_with fail;go_ret2;exact⟨rfl,ia.out⟩
theorem PR(rs:List bu)(v:Value)(m:Mem)(w:World)(hv:kB w v rs)(hm:m.name.size<=Ii)(h0:cI rs=0)(he:m.e=0)(p:Nat)(hp:p<rs.length)(yV:(rs.getD p dr).m.name=m.name)(VR:ik m (rs.getD p dr).m=false) :
 Calls be 203 #[v,Ip #[I m.name,O J m.state,O J m.aP,O J m.addr,AT m.server]] w λe w'=>∃v',e=sh (Il #[v',O J 0])/\bX w.heap.size w' v' rs/\Below w.heap.size w w':=by
 obtain⟨i0,eP,cE,gn,ga⟩:=Jd Tryz.vG;have HV:Hid (kB w v rs):=hv;have iO:=λ(w:World) (h:kB w v rs)=>fu rs v w h;rw[h0] at iO;have dO:=λw=>ey m w hm;rw[he] at dO;have HH:Hid (Maps.has (Dm (eE rs) rs.length) (kS m.name)=true):=(pC _ _ _).2 ⟨p,hp,by rw[cU];exact yV⟩;have hY:Hid ((Dm (eE rs) rs.length).atKey (kS m.name) (.lit (.int J 0))=.lit (.int J p)):=K6 _ _ _ _ p hp (by rw[cU];exact yV) (λi hi hk=>by rw[cU,<- yV];exact λe=>(gv h0).2.2.2 p i hi hk e.symm);have nW:=(gv h0).1;have HEP:Hid _:=(gv h0).2.1 p hp;have hnp:(rs.getD p dr).m.name.size<=Ii:=by obtain⟨_,_,_,h,_⟩:=hv;exact h p
 have HN0:Hid _:=vH he HEP.out yV.symm;clear h0 he hv HEP;obtain⟨nm,st,lf,ad,sv⟩:=m;simp only at *;have kO:Below w.heap.size w (w.alloc (.cells #[I nm,O J st,O J lf,O J ad,AT sv] 70)):=(Ia _ _).alloc (By _) _;go_enter Tryz.func203,Tryz.ntmps203;go_wp2_with fail;refine(iO _ (HV.out.below kO)).mono ?_;rintro e w1 ⟨rfl,an⟩;have c1:∀o,w1.cell? ⟨w.heap.size,o,Y⟩=#[I nm,O J st,O J lf,O J ad,AT sv][o]?:=λo=>by
  rw[an.cell (p:=⟨w.heap.size,o,Y⟩) (by simp)];exact cC rfl
 have aK:Hid _:=kO.trans (an.mono (by simp));have cP:w.heap.size<w1.heap.size:=by have:=an.size;simp at this;omega
 clear an kO iO;go_wp2_with fail;refine(dO _).mono ?_;rintro e w2 ⟨rfl,aD⟩;have c2:∀o,w2.cell? ⟨w.heap.size,o,Y⟩=#[I nm,O J st,O J lf,O J ad,AT sv][o]?:=λo=>by
  rw[aD.cell (p:=⟨w.heap.size,o,Y⟩) (by simp only;omega)];exact c1 o
 have bD:Hid _:=aK.out.trans (aD.mono aK.out.size);have jD:w.heap.size<w2.heap.size:=by have:=aD.size;omega
 clear aD c1 cP aK dO;go_wp2_with fail;refine(fA rs v _ (HV.out.below bD.out) (by omega)).mono ?_;rintro e w3 ⟨v3,rfl,nu,bn⟩;have gI:Hid (bX _ _ _ _):=nu;have c3:w3.cell? ⟨w.heap.size,0,Y⟩=Z (I nm):=by
  rw[bn.cell (p:=⟨w.heap.size,0,Y⟩) (by simp only;omega)];exact c2 0
 have C3:Hid (∀o,w3.cell? ⟨w.heap.size,o,Y⟩=#[I nm,O J st,O J lf,O J ad,AT sv][o]?):=λo=>by
  rw[bn.cell (p:=⟨w.heap.size,o,Y⟩) (by simp only;omega)];exact c2 o
 have cT:Hid _:=bD.out.trans (bn.mono bD.out.size);have mB:w.heap.size<w3.heap.size:=by have:=bn.size;omega
 have VP:=bn.size;clear bn nu c2;go_wp2_with fail;go_region_held3 (λw'=>w'.cell? ⟨w.heap.size,0,Y⟩=Z (I nm)) (first|assumption|go_keep) (first|(go_at_call 179;refine(n9 rs v _ ((HV.out.below cT.out).below (Ia _ _).drew) (by omega)).mono ?_;rintro e w4 ⟨rfl,hown,e9⟩;obtain⟨cq,gO,cG⟩:=ox hown hm;rw[HH.out] at gO;rw[hY.out] at cG;have hcq:cq=p:=(by simp at cG;exact cG.symm);subst hcq;have xK:(J5 223 (.map (Z w3.heap.size)) (I nm) true).run be w4=.ok (Il #[O J p,AT true]) w4:=gO;clear gO cG hown;have fb:Hid (Below w3.heap.size w3 w4):=(Ia w3.heap.size w3).drew.trans e9;have hS:w4.cell? ⟨w.heap.size,0,Y⟩=Z (I nm):=((e9.cell (p:=⟨w.heap.size,0,Y⟩) mB).trans c3);clear e9))
 obtain⟨a3,Fp,Fq⟩:=gI.out.slice;subst Fq;have C4:∀o,w4.cell? ⟨w.heap.size,o,Y⟩=#[I nm,O J st,O J lf,O J ad,AT sv][o]?:=λo=>by
  rw[fb.out.cell (p:=⟨w.heap.size,o,Y⟩) mB];exact C3.out o
 have qY:Hid (bX _ _ _ _):=gI.out.below fb.out;have ia:Hid _:=cT.out.trans (fb.out.mono cT.out.size);have fW:w2.heap.size<=w4.heap.size:=by have:=fb.out.size;omega
 have HV4:Hid (kB w4 v rs):=HV.out.below ia.out;clear gI C3 fb cT c3 xK HV;obtain⟨pa,ca,oR,_,dP⟩:=HV4.out;subst oR;obtain⟨b,off,KA,GG,hr⟩:∃b off,pa=Z ⟨b,off,Y⟩/\b<w4.heap.size/\iX w4 b off rs:=by
  rcases dP with h|h
  .rw[h] at hp;simp at hp
  .exact h
 subst KA;obtain⟨e0,e1,e2,e3,e4,e5⟩:=hr p hp;have hN:=λw=>mX ⟨nm,st,lf,ad,sv⟩ (rs.getD p dr).m w hm hnp;rw[HN0.out,VR] at hN;simp only[beq_self_eq_true,Bool.true_and] at hN;clear dP hr HV4;generalize(rs.getD p dr)=rp at *;obtain⟨⟨yn,ys,yl,ya,yv⟩,ytd⟩:=rp;simp only at e0 e1 e2 e3 e4 e5 hN yV;have VS:=yV.symm;clear yV;subst VS;generalize hN':rs.length=n at *;have HN:Hid _:=hN';clear hN';go_wp2_with fail;have E0:=Iq (C4 0);have E1:=Iq (C4 1);have E2:=Iq (C4 2);have E3:=Iq (C4 3);have E4:=Iq (C4 4);have F0:=Iq e0;have F1:=Iq e1;have F2:=Iq e2;have F3:=Iq e3;have F4:=Iq e4;have cN:∀d os,Calls be 188 #[Ip #[I nm,O J st,O J lf,O J ad,AT sv],Ip #[I nm,O J ys,O J yl,O J ya,AT yv]] (Im (Ix w4 d) os) λe kE=>e=sh (Il #[AT false,O J 0])/\∃p:Regrown,kE=Im (Ix w4 p.d) p.os:=λd os=>
  Calls.regrown_of ((hN _).mono (by rintro e w' ⟨rfl,hb⟩;exact⟨rfl,hb⟩))
 clear e0 e1 e2 e3 e4 e5 hN;refine IT (by kernel_rfl) (by kernel_rfl) ?_;repeat(quiet_step (exact cN _ _))
 refine cA λdq oN gC=>?_;clear cN E0 E1 E2 E3 E4 F0 F1 F2 F3 F4;have nG:Hid (bX w.heap.size (Im (Ix w4 dq) oN) (U a3 n Fp) rs):=(qY.out.below gC.out).base (by omega);have iW:Hid _:=ia.out.trans (gC.out.mono ia.out.size);clear qY gC;go_wp2_with fail;go_ret2;exact⟨_,rfl,nG.out,iW.out⟩
theorem Fu(rs:List bu)(v:Value)(m:Mem)(w:World)(hv:kB w v rs)(hm:m.name.size<=Ii)(h0:cI rs=0)(he:m.e=0)(p:Nat)(hp:p<rs.length)(yV:(rs.getD p dr).m.name=m.name)(VR:ik m (rs.getD p dr).m=true) :
 Calls be 203 #[v,Ip #[I m.name,O J m.state,O J m.aP,O J m.addr,AT m.server]] w λe w'=>∃v',e=sh (Il #[v',O J 0])/\bX w.heap.size w' v' (rs.eraseIdx p++[⟨m,0⟩])/\Below w.heap.size w w':=by
 obtain⟨i0,eP,cE,gn,ga⟩:=Jd Tryz.vG;have HV:Hid (kB w v rs):=hv;have iO:=λ(w:World) (h:kB w v rs)=>fu rs v w h;rw[h0] at iO;have dO:=λw=>ey m w hm;rw[he] at dO;have HH:Hid (Maps.has (Dm (eE rs) rs.length) (kS m.name)=true):=(pC _ _ _).2 ⟨p,hp,by rw[cU];exact yV⟩;have hY:Hid ((Dm (eE rs) rs.length).atKey (kS m.name) (.lit (.int J 0))=.lit (.int J p)):=K6 _ _ _ _ p hp (by rw[cU];exact yV) (λi hi hk=>by rw[cU,<- yV];exact λe=>(gv h0).2.2.2 p i hi hk e.symm);have nW:=(gv h0).1;have HEP:Hid _:=(gv h0).2.1 p hp;have hnp:(rs.getD p dr).m.name.size<=Ii:=by obtain⟨_,_,_,h,_⟩:=hv;exact h p
 have HN0:Hid _:=vH he HEP.out yV.symm;clear h0 he hv HEP;obtain⟨nm,st,lf,ad,sv⟩:=m;simp only at *;have kO:Below w.heap.size w (w.alloc (.cells #[I nm,O J st,O J lf,O J ad,AT sv] 70)):=(Ia _ _).alloc (By _) _;go_enter Tryz.func203,Tryz.ntmps203;go_wp2_with fail;refine(iO _ (HV.out.below kO)).mono ?_;rintro e w1 ⟨rfl,an⟩;have c1:∀o,w1.cell? ⟨w.heap.size,o,Y⟩=#[I nm,O J st,O J lf,O J ad,AT sv][o]?:=λo=>by
  rw[an.cell (p:=⟨w.heap.size,o,Y⟩) (by simp)];exact cC rfl
 have aK:Hid _:=kO.trans (an.mono (by simp));have cP:w.heap.size<w1.heap.size:=by have:=an.size;simp at this;omega
 clear an kO iO;go_wp2_with fail;refine(dO _).mono ?_;rintro e w2 ⟨rfl,aD⟩;have c2:∀o,w2.cell? ⟨w.heap.size,o,Y⟩=#[I nm,O J st,O J lf,O J ad,AT sv][o]?:=λo=>by
  rw[aD.cell (p:=⟨w.heap.size,o,Y⟩) (by simp only;omega)];exact c1 o
 have bD:Hid _:=aK.out.trans (aD.mono aK.out.size);have jD:w.heap.size<w2.heap.size:=by have:=aD.size;omega
 clear aD c1 cP aK dO;go_wp2_with fail;refine(fA rs v _ (HV.out.below bD.out) (by omega)).mono ?_;rintro e w3 ⟨v3,rfl,nu,bn⟩;have gI:Hid (bX _ _ _ _):=nu;have c3:w3.cell? ⟨w.heap.size,0,Y⟩=Z (I nm):=by
  rw[bn.cell (p:=⟨w.heap.size,0,Y⟩) (by simp only;omega)];exact c2 0
 have C3:Hid (∀o,w3.cell? ⟨w.heap.size,o,Y⟩=#[I nm,O J st,O J lf,O J ad,AT sv][o]?):=λo=>by
  rw[bn.cell (p:=⟨w.heap.size,o,Y⟩) (by simp only;omega)];exact c2 o
 have cT:Hid _:=bD.out.trans (bn.mono bD.out.size);have mB:w.heap.size<w3.heap.size:=by have:=bn.size;omega
 have VP:=bn.size;clear bn nu c2;go_wp2_with fail;go_region_held3 (λw'=>w'.cell? ⟨w.heap.size,0,Y⟩=Z (I nm)) (first|assumption|go_keep) (first|(go_at_call 179;refine(n9 rs v _ ((HV.out.below cT.out).below (Ia _ _).drew) (by omega)).mono ?_;rintro e w4 ⟨rfl,hown,e9⟩;obtain⟨cq,gO,cG⟩:=ox hown hm;rw[HH.out] at gO;rw[hY.out] at cG;have hcq:cq=p:=(by simp at cG;exact cG.symm);subst hcq;have xK:(J5 223 (.map (Z w3.heap.size)) (I nm) true).run be w4=.ok (Il #[O J p,AT true]) w4:=gO;clear gO cG hown;have fb:Hid (Below w3.heap.size w3 w4):=(Ia w3.heap.size w3).drew.trans e9;have hS:w4.cell? ⟨w.heap.size,0,Y⟩=Z (I nm):=((e9.cell (p:=⟨w.heap.size,0,Y⟩) mB).trans c3);clear e9))
 obtain⟨a3,Fp,Fq⟩:=gI.out.slice;subst Fq;have C4:∀o,w4.cell? ⟨w.heap.size,o,Y⟩=#[I nm,O J st,O J lf,O J ad,AT sv][o]?:=λo=>by
  rw[fb.out.cell (p:=⟨w.heap.size,o,Y⟩) mB];exact C3.out o
 have qY:Hid (bX _ _ _ _):=gI.out.below fb.out;have ia:Hid _:=cT.out.trans (fb.out.mono cT.out.size);have fW:w2.heap.size<=w4.heap.size:=by have:=fb.out.size;omega
 have HV4:Hid (kB w4 v rs):=HV.out.below ia.out;clear gI C3 fb cT c3 xK HV;obtain⟨pa,ca,oR,_,dP⟩:=HV4.out;subst oR;obtain⟨b,off,KA,GG,hr⟩:∃b off,pa=Z ⟨b,off,Y⟩/\b<w4.heap.size/\iX w4 b off rs:=by
  rcases dP with h|h
  .rw[h] at hp;simp at hp
  .exact h
 subst KA;obtain⟨e0,e1,e2,e3,e4,e5⟩:=hr p hp;have hN:=λw=>mX ⟨nm,st,lf,ad,sv⟩ (rs.getD p dr).m w hm hnp;rw[HN0.out,VR] at hN;simp only[beq_self_eq_true,Bool.true_and] at hN;clear dP hr HV4;generalize(rs.getD p dr)=rp at *;obtain⟨⟨yn,ys,yl,ya,yv⟩,ytd⟩:=rp;simp only at e0 e1 e2 e3 e4 e5 hN yV;have VS:=yV.symm;clear yV;subst VS;generalize hN':rs.length=n at *;have HN:Hid _:=hN';clear hN';go_wp2_with fail;have E0:=Iq (C4 0);have E1:=Iq (C4 1);have E2:=Iq (C4 2);have E3:=Iq (C4 3);have E4:=Iq (C4 4);have F0:=Iq e0;have F1:=Iq e1;have F2:=Iq e2;have F3:=Iq e3;have F4:=Iq e4;have cN:∀d os,Calls be 188 #[Ip #[I nm,O J st,O J lf,O J ad,AT sv],Ip #[I nm,O J ys,O J yl,O J ya,AT yv]] (Im (Ix w4 d) os) λe kE=>e=sh (Il #[AT true,O J 0])/\∃p:Regrown,kE=Im (Ix w4 p.d) p.os:=λd os=>
  Calls.regrown_of ((hN _).mono (by rintro e w' ⟨rfl,hb⟩;exact⟨rfl,hb⟩))
 clear e0 e1 e2 e3 e4 e5 hN;refine IT (by kernel_rfl) (by kernel_rfl) ?_;repeat(quiet_step (exact cN _ _))
 refine cA λdq oN gC=>?_;clear cN E0 E1 E2 E3 E4 F0 F1 F2 F3 F4;have xX:Hid _:=HN;obtain⟨g,c,VT,hc3⟩:∃g c,a3=Z ⟨g,0,Y⟩/\Fp=c:=by
  rcases qY.out.2 with⟨_,h0⟩|⟨g,c,cur,h,_⟩
  .have:=HN.out;omega
  .simp only[IS] at h
   exact⟨g,c,h.1,h.2.2⟩
 subst VT;subst hc3;have nG:Hid (bX _ _ _ _):=qY.out.below gC.out;have iW:Hid _:=ia.out.trans (gC.out.mono ia.out.size);have C6:∀o,(Im (Ix w4 dq) oN).cell? ⟨w.heap.size,o,Y⟩=#[I nm,O J st,O J lf,O J ad,AT sv][o]?:=λo=>by
  rw[gC.out.cell (p:=⟨w.heap.size,o,Y⟩) (by simp only;omega)];exact C4 o
 have sG:w2.heap.size<=(Im (Ix w4 dq) oN).heap.size:=by have:=gC.out.size;omega
 clear qY gC C4;generalize Im (Ix w4 dq) oN=w6 at *;go_wp2_with fail;refine(Bv rs n p g Fp w2.heap.size _ HN.out nG.out hp (by omega)).mono ?_;rintro e w7 ⟨rfl,ho7,rF⟩;have C7:∀o,w7.cell? ⟨w.heap.size,o,Y⟩=#[I nm,O J st,O J lf,O J ad,AT sv][o]?:=λo=>by
  rw[rF.cell (p:=⟨w.heap.size,o,Y⟩) (by simp only;omega)];exact C6 o
 have rN:Hid _:=iW.out.trans (rF.mono (by omega));have Ae:w2.heap.size<=w7.heap.size:=by have:=rF.size;omega
 have HLE:Hid ((rs.eraseIdx p).length=n-1):=(show(rs.eraseIdx p).length=n-1 by rw[List.length_eraseIdx,if_pos (by rw[HN.out];exact hp),HN.out]);have HO8:Hid (∀ob,(w7.alloc ob).ownsRow w2.heap.size 95 6 (U (Z ⟨g,0,Y⟩) (n-1) Fp) (n-1) (ez (rs.eraseIdx p))):=λob=>by
  have h:=bX.below (ms:=rs.eraseIdx p) ho7 ((Ia _ _).alloc (By _) ob);have h2:(w7.alloc ob).ownsRow w2.heap.size 95 6 (U (Z ⟨g,0,Y⟩) (n-1) Fp) (rs.eraseIdx p).length (ez (rs.eraseIdx p)):=h;rw[HLE.out] at h2;exact h2
 have CS:Hid (∀k,(U (Z ⟨g,0,Y⟩) (n-1) Fp).ownBlock=Z k->w.heap.size<=k):=λk hk=>by have:=(bX.lt (ms:=rs.eraseIdx p) ho7 k hk).1;omega
 have HSN:Hid (∀(w':World) (v':Value),w'.ownsRow w2.heap.size 95 6 v' (n-1+1) (ez (rs.eraseIdx p)++(bu.mk ⟨nm,st,lf,ad,sv⟩ 0).cs)->bX w.heap.size w' v' (rs.eraseIdx p++[⟨⟨nm,st,lf,ad,sv⟩,0⟩])):=λw' v' h=>(vF (by rw[HLE.out];exact h)).base (by omega);have alU:n-1<=19:=by omega
 clear rF ho7 C6 iW nG HLE;generalize hn1:n-1=n1 at *;clear hn1;go_wp2_with (at_builtin;refine Ja _ rfl _ _ 23 rfl w2.heap.size 95 i0 _ 6 56 Om eP cE gn ga rfl (by omega) _ n1 (ez (rs.eraseIdx p)) rfl ?hown ⟨w7.heap.size,0,Y⟩ 1 1 (bu.mk ⟨nm,st,lf,ad,sv⟩ 0).cs rfl rfl ?hnews (wU _) ?h63 ?hbytes ?hbase ?_)
 case hown=>exact HO8.out _
 case hnews=>(intro j u hj;rw[Je];exact(cC (by simp)).trans (by simpa[bu.cs] using hj))
 case h63=>(unfold Ii;omega)
 case hbytes=>omega
 case hbase=>(simp;omega)
 intro v' w8 r1 r2 r3;have R1:Hid (bX _ _ _ _):=HSN.out w8 v' r1;have R2:Hid _:=(rN.out.alloc rN.out.size _).grown r2 (by have:=rN.out.size;simp;omega) (λk hk=>CS.out k hk);clear r1 r2 r3;go_wp2_with fail;go_ret2;exact⟨v',rfl,R1.out,R2.out⟩
end Go.Proofs.YtfidjlcdlakceaaGreatDoor
