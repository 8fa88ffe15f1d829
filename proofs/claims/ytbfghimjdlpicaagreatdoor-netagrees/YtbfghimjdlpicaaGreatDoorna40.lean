import Derived.Test.YtbfghimjdlpicaaGreatDoorna39
import Derived.Test.YtbfghimjdlpicaaGreatDoorna34
open Option renaming some→AI
open List renaming getD→Ir,mem_cons→IN,getElem_of_mem→IT,getElem?_eq_getElem→Ic,pairwise_iff_getElem→Jb,map_set→QZ,mem_or_eq_of_mem_set→Jq,getElem_mem→IK,pairwise_map→QN,mem_map_of_mem→J0,mem_map→JV,length_append→Ii,length_set→IS,mem_append→Jk,mem_singleton→IY,length_eraseIdx_le→Ur,mem_of_mem_eraseIdx→Jr,mem_cons_of_mem→Jl,mem_cons_self→Jg,length_map→JJ,length_cons→Iy
open Bool renaming and_eq_true→IG
open Classical renaming byContradiction→Js
open Option.some renaming inj→JI
namespace Go.Proofs.YtbfghimjdlpicaaGreatDoor
open Go.RowKit
theorem lO(a b:Mem):dn a b=true↔b.aI<a.aI\/(b.aI=a.aI/\(b.state<a.state\/(b.state=a.state/\(b.addr<a.addr\/(b.addr=a.addr/\(b.server=false/\a.server=true)))))):=by
 unfold dn wY;by_cases h1:a.aI=b.aI
 .rw[if_pos h1]
  by_cases h2:a.state=b.state
  .rw[if_pos h2]
   by_cases h3:a.addr=b.addr
   .rw[if_pos h3]
    cases ha:a.server<;>cases hb:b.server<;>simp<;>omega
   .rw[if_neg h3,decide_eq_true_eq]
    constructor
    .intro h;exact .inr ⟨h1.symm,.inr ⟨h2.symm,.inl h⟩⟩
    .rintro(h|⟨_,h|⟨_,h|⟨h,_⟩⟩⟩)<;>omega
  .rw[if_neg h2,decide_eq_true_eq]
   constructor
   .intro h;exact .inr ⟨h1.symm,.inl h⟩
   .rintro(h|⟨_,h|⟨h,_⟩⟩)<;>omega
 .rw[if_neg h1,decide_eq_true_eq]
  constructor
  .intro h;exact .inl h
  .rintro(h|⟨h,_⟩)<;>omega
theorem Eg{a b:Mem}(h:dn a b=true):dn b a=false:=by
 rw[lO] at h;rcases hb:dn b a with _|_
 .rfl
 .rw[lO] at hb
  rcases h with h|⟨h1,h|⟨h2,h|⟨h3,h4,h5⟩⟩⟩<;>rcases hb with g|⟨g1,g|⟨g2,g|⟨g3,g4,g5⟩⟩⟩<;>first|omega|(rw[h4] at g5;cases g5)
theorem pj{a b c:Mem}(h1:dn a b=false)(h2:dn b c=false):dn a c=false:=by
 rcases h3:dn a c with _|_
 .rfl
 .exfalso
  have g1:¬ dn a b=true:=by rw[h1];simp
  have g2:¬ dn b c=true:=by rw[h2];simp
  rw[lO] at h3 g1 g2;by_cases l1:b.aI<a.aI
  .exact g1 (.inl l1)
  by_cases l2:c.aI<b.aI
  .exact g2 (.inl l2)
  rcases h3 with h|⟨e1,h⟩
  .omega
  have e2:b.aI=a.aI:=by omega
  have e3:c.aI=b.aI:=by omega
  by_cases s1:b.state<a.state
  .exact g1 (.inr ⟨e2,.inl s1⟩)
  by_cases s2:c.state<b.state
  .exact g2 (.inr ⟨e3,.inl s2⟩)
  rcases h with h|⟨f1,h⟩
  .omega
  have f2:b.state=a.state:=by omega
  have f3:c.state=b.state:=by omega
  by_cases a1:b.addr<a.addr
  .exact g1 (.inr ⟨e2,.inr ⟨f2,.inl a1⟩⟩)
  by_cases a2:c.addr<b.addr
  .exact g2 (.inr ⟨e3,.inr ⟨f3,.inl a2⟩⟩)
  rcases h with h|⟨k1,k4,k5⟩
  .omega
  have k2:b.addr=a.addr:=by omega
  have k3:c.addr=b.addr:=by omega
  rcases hb:b.server with _|_
  .exact g1 (.inr ⟨e2,.inr ⟨f2,.inr ⟨k2,hb,k5⟩⟩⟩)
  .exact g2 (.inr ⟨e3,.inr ⟨f3,.inr ⟨k3,k4,hb⟩⟩⟩)
def Le(ms ms':List Mem):Prop:=∀t k,bX ms t=AI k->∃k',bX ms' t=AI k'/\dn k k'=false
theorem Le.refl(ms:List Mem):Le ms ms:=λ_ k h=>⟨k,h,eL k⟩
theorem Le.trans{a b c:List Mem}(h:Le a b)(k:Le b c):Le a c:=λt x hx=>by
 obtain⟨y,hy,h1⟩:=h t x hx;obtain⟨z,hz,h2⟩:=k t y hy;exact⟨z,hz,pj h1 h2⟩
theorem Tk{ms:List Mem}(hr:aT ms)(m:Mem):Le ms (aN ms m):=λt k hk=>by
 by_cases ht:m.name=t
 .subst ht
  by_cases hh:aN ms m=ms
  .rw[hh];exact⟨k,hk,eL k⟩
  .refine⟨m,mj m ms hh,?_⟩
   have h1:=(kU hr m).2 hh;unfold mX at h1;rw[hk] at h1;exact Eg h1
 .rw[lI m t ht ms];exact⟨k,hk,eL k⟩
theorem vX{x:Mem}{t:ByteArray}(hx:x.name≠t):∀(ms:List Mem) (p:Nat),(ms.getD p dm).name≠t->bX (ms.set p x) t=bX ms t
 |[],_,_=>rfl
 |y::r,0,h=>by
  have h:y.name≠t:=by simpa using h
  show bX (x::r) t=bX (y::r) t;rw[eN,eN,if_neg hx,if_neg h]
 |y::r,p+1,h=>by
  have h:(r.getD p dm).name≠t:=by simpa using h
  show bX (y::r.set p x) t=bX (y::r) t;rw[eN,eN,vX hx r p h]
theorem Eh(k:Mem):dn k (cJ k)=false:=by
 rcases h:dn k (cJ k) with _|_
 .rfl
 .rw[lO] at h
  have e:(cJ k).aI=k.aI+1:=rfl;rw[e] at h;rcases h with h|⟨h,_⟩<;>omega
theorem vY{ms ms':List Mem}{r:bU}(h:Le ms ms')(ha:fu ms r=false):fu ms' r=false:=by
 unfold fu at ha ⊢;rcases hf:bX ms r.m.name with _|k
 .rw[hf] at ha;cases ha
 .rw[hf] at ha
  obtain⟨k',h1,h2⟩:=h _ _ hf;rw[h1];exact pj ha h2
theorem vZ{ms:List Mem}{m:Mem}{i:Int}(h:bX ms m.name=AI m):fu ms ⟨m,i⟩=false:=by
 unfold fu;show(match bX ms m.name with|none=>true|some k=>dn m k)=false;rw[h];exact eL m
theorem Pb{n:Nd}(h:bp n.ms=0)(m:Mem):Le n.ms (eH n m).ms:=by
 have hl:=Tk (aj h).2.1 m;unfold eH;split<;>exact hl
theorem Pc{n:Nd}(h:bp n.ms=0):Le n.ms (sw n).ms:=by
 unfold sw;by_cases hR:ia n.ms (jf n) (mY n)=true
 .rw[if_pos hR]
  obtain⟨_,cA,hL,hM,_,hn,hp⟩:=rG h hR;intro t k hk;show ∃k',bX (nK n) t=AI k'/\dn k k'=false;rw[hL];by_cases ht:n.name=t
  .subst ht
   have h1:=iy cA;rw[h1] at hk;injection hk with hk;refine⟨cJ k,?_,Eh k⟩;rw[iy (CZ cA (x:=cJ (n.ms.getD (jf n) dm)) hn),<- hk];simp[Ir,hp]
  .rw[vX (x:=cJ (n.ms.getD (jf n) dm)) (λe=>ht (hn.symm.trans e)) n.ms (jf n) (λe=>ht (hn.symm.trans e))]
   exact⟨k,hk,eL k⟩
 .rw[if_neg hR]
  have:nK n=n.ms:=by unfold nK rF;rw[if_neg hR]
  show Le n.ms (nK n);rw[this];exact Le.refl _
theorem Pd{n:Nd}{m:Mem}(h:Sp n)(hm:m.e=0)(h0:jZ n m=0):Le n.ms (jc n m).ms:=by
 unfold jc;have h1:=Pb h.ms m;split
 .exact h1.trans (Pc (qC h.ms h.rs hm h0).1)
 .exact h1
theorem Nd.pN.pe{n:Nd}(h:n.pN):n.pE=0:=by
 unfold Nd.pE;rw[h.name,h.av,if_pos (by rfl),if_pos h.ms,if_pos h.rs,if_pos h.sv,if_pos h.gw,if_pos h.p,h.wh]
theorem Pe{n n':Nd}(h:n.pN)(hs:Sp n')(hr:Rest n n'):n'.pN:=
 ⟨hs.name,by rw[hr.av];exact h.av,hs.ms,hs.rs,by rw[hr.sv];exact h.sv,by rw[hr.gw];exact h.gw,by rw[hr.p];exact h.p,by rw[hr.wh];exact h.wh⟩
theorem FL{n:Nd}{m:Mem}(he:n.e=0)(hm:m.e=0)(h0:lR n m=0):(jc n m).e=0:=by
 have hp:=Nd.parts (Nd.aD he).1;have xj:Sp n:=⟨hp.ms,hp.rs,hp.name⟩;obtain⟨me,Bn,s2,s3,hah⟩:=Nd.gH (Nd.aD he).2;have hS:=yb xj hm h0;refine Nd.XQ (Pe hp hS (dA n m)).pe ?_;have hr:=(aj hp.ms).2.1;have h1:jZ n m=0:=by
  unfold lR at h0;split at h0
  .rename_i h;exact h
  .rename_i h;exact absurd h0 h
 have gE:(eH n m).ms=aN n.ms m:=by unfold eH;split<;>rfl
 have hle:=Pb hp.ms m;have XR:∀r∈(eH n m).rs,fu (eH n m).ms r=false:=by
  intro r ku;rw[gE];rw[gE] at hle;by_cases hc:mX n.ms m=true
  .have pW:(eH n m).rs=hZ n.rs m:=by unfold eH;rw[if_pos hc]
   rw[pW] at ku;rcases rE ku with h|rfl
   .exact vY hle (hah r h)
   .exact vZ (mj m n.ms ((kU hr m).1 hc))
  .have pW:(eH n m).rs=n.rs:=by unfold eH;rw[if_neg hc]
   rw[pW] at ku;exact vY hle (hah r ku)
 by_cases hn:m.name=n.name
 .have hN:jc n m=sw (eH n m):=by unfold jc;rw[if_pos hn]
  have h2:Ay (eH n m)=0:=by
   unfold lR at h0;rw[if_pos h1,if_pos hn] at h0;exact h0
  have Tl:=qC hp.ms hp.rs hm h1;have cY:(eH n m).name=n.name:=ov n m;rw[hN];obtain⟨k1,kt,_⟩:=hle _ _ Bn;rw[<- cY] at kt;generalize eH n m=n1 at *;have jE:=Pc Tl.1;have cA:=sI (aj Tl.1).2.1 n1.name;by_cases hR:ia n1.ms (jf n1) (mY n1)=true
  .obtain⟨_,ajD,hL,hM,_,XS,qW⟩:=rG Tl.1 hR
   have hN2:sw n1={ n1 with ms:=nK n1,rs:=hZ n1.rs (zc n1) }:=by unfold sw;rw[if_pos hR]
   rw[hN2] at jE ⊢;have hf:bX (nK n1) n1.name=AI (zc n1):=by
    rw[hL,iy (CZ ajD (x:=cJ (n1.ms.getD (jf n1) dm)) XS),hM];simp[Ir,qW]
   have hmn:(zc n1).name=n1.name:=by rw[hM];exact XS
   have pK:(zc n1).state=1:=by rw[hM];rfl
   refine Nd.FM (m:=zc n1) hf (by rw[pK];decide) (by rw[pK];decide) (λr ku=>?_);rcases rE ku with h|rfl
   .exact vY jE (XR r h)
   .exact vZ (by rw[hmn];exact hf)
  .have hN2:sw n1={ n1 with ms:=nK n1 }:=by unfold sw;rw[if_neg hR]
   have hL:nK n1=n1.ms:=by unfold nK rF;rw[if_neg hR]
   rw[hN2,hL];have hF:mY n1=true:=by
    rcases hF:mY n1 with _|_
    .have hF2:RY n1.ms n1.name=false:=hF
     rw[hF2] at cA;have:=ts (aj Tl.1).2.1 cA;rw[kt] at this;cases this
    .rfl
   have hF2:RY n1.ms n1.name=true:=hF;rw[hF2] at cA;have h5:=iy cA;rw[kt] at h5;injection h5 with h5;have hE:jL n1.ms (jf n1) (mY n1)=0:=by
    unfold Ay at h2;split at h2
    .rename_i h;exact h
    .rename_i h;exact absurd h2 h
   have rO:¬ (k1.state=2\/k1.state=3):=by
    intro hb;have aL:(decide ((n1.ms.getD (jf n1) dm).state=2)||decide ((n1.ms.getD (jf n1) dm).state=3))=true:=by
     have e:n1.ms.getD (jf n1) dm=k1:=h5.symm;rw[e];rcases hb with hb|hb<;>simp[hb]
    unfold ia at hR;unfold jL at hE;rw[hF,aL] at hR hE;rcases hl:((n1.ms.getD (jf n1) dm).aI==1000000) with _|_
    .rw[hl] at hR;exact hR rfl
    .rw[hl] at hE;cases hE
   exact Nd.FM (m:=k1) kt (λe=>rO (.inl e)) (λe=>rO (.inr e)) XR
 .have hN:jc n m=eH n m:=by unfold jc;rw[if_neg hn]
  rw[hN];refine Nd.FM (m:=me) ?_ s2 s3 XR;rw[gE,ov,lI m n.name hn n.ms];exact Bn
theorem VK:∀(l:List Mem) (n:Nd),n.e=0->(∀m∈l,m.e=0)->nj n l=0->(tv n l).e=0
 |[],_,h,_,_=>h
 |x::r,n,h,hl,h0=>by
  rw[nj] at h0;split at h0
  .rename_i h1
   exact VK r (jc n x) (FL h (hl x (by simp)) h1) (λm hm=>hl m (by simp[hm])) h0
  .rename_i h1;exact absurd h0 h1
theorem ux{n:Nd}{m:Mem}(h:lR n m=0):jZ n m=0:=by
 unfold lR at h;split at h
 .rename_i h1;exact h1
 .rename_i h1;exact absurd h h1
theorem FN:∀(l:List Mem) (n:Nd),Sp n->(∀m∈l,m.e=0)->nj n l=0->Le n.ms (tv n l).ms
 |[],n,_,_,_=>Le.refl _
 |x::r,n,h,hl,h0=>by
  rw[nj] at h0;split at h0
  .rename_i h1
   exact(Pd h (hl x (by simp)) (ux h1)).trans (FN r (jc n x) (yb h (hl x (by simp)) h1) (λm hm=>hl m (by simp[hm])) h0)
  .rename_i h1;exact absurd h0 h1
section
variable {α:Type} (o:α→α→Int) (nw:α→α→Bool) (d:α)
theorem zY(hk:RL.Keyed o):∀{ms:List α},RL.aT o ms->∀s∈ms,RL.get o ms s=AI s
 |[],_,s,h=>by cases h
 |x::r,hr,s,h=>by
  rcases IN.1 h with rfl|h
  .exact RL.cO o s r (hk.refl s)
  .have h1:=RL.oV o hk hr s h
   rw[RL.dM o x r (λe=>h1 (hk.symm e))];exact zY hk (List.pairwise_cons.1 hr).2 s h
theorem Pf(hk:RL.Keyed o){ms:List α}(hr:RL.aT o ms){s r:α}(h:RL.get o ms s=AI r):∃p,RL.At o d ms s p true/\ms.getD p d=r:=by
 obtain⟨p,hp,he⟩:=IT (RL.get_mem o h);have hg:ms.getD p d=r:=by rw[RL.gD d hp,he]
 exact⟨p,RL.EH o d hk hr hp (by rw[hg];exact RL.iJ o h),hg⟩
theorem Tm(hn:RL.eQ o nw){a b:α}(h:nw a b=true):nw b a=false:=by
 rcases hb:nw b a with _|_
 .rfl
 .have:=hn.trans a b a h hb
  rw[hn.irrefl] at this;cases this
def LeX(a b:List α):Prop:=∀s∈a,∃p,RL.At o d b s p true/\nw s (b.getD p d)=false
theorem jQ(hk:RL.Keyed o)(hn:RL.eQ o nw){a:List α}(ha:RL.aT o a):LeX o nw d a a:=λs hs=>by
 obtain⟨p,h1,h2⟩:=Pf o d hk ha (zY o hk ha s hs);exact⟨p,h1,by rw[h2];exact hn.irrefl s⟩
theorem sf(hk:RL.Keyed o)(hn:RL.eQ o nw){a b:List α}(ha:RL.aT o a)(hb:RL.aT o b):LeX o nw d a (RL.join o nw a b):=λs hs=>by
 have hg:=RL.get_join o nw hk b a ha hb s;rw[zY o hk ha s hs] at hg;have hr:=RL.cT o nw hk b a ha;rcases hy:RL.get o b s with _|y
 .rw[hy] at hg
  obtain⟨p,h1,h2⟩:=Pf o d hk hr (hg.trans (show RL.comb nw (AI s) none=AI s from rfl));exact⟨p,h1,by rw[h2];exact hn.irrefl s⟩
 .rw[hy] at hg
  obtain⟨p,h1,h2⟩:=Pf o d hk hr (hg.trans (show RL.comb nw (AI s) (AI y)=AI (RL.mx nw s y) from rfl));refine⟨p,h1,?_⟩;rw[h2];unfold RL.mx;split
  .rename_i h;exact Tm o nw hn h
  .exact hn.irrefl s
end
theorem gT{ms:List Mem}(hr:aT ms){m:Mem}(h:m∈ms):bX ms m.name=AI m:=by
 obtain⟨k,hk,rfl⟩:=IT h;have e:∀j (h:j<ms.length),ms.getD j dm=ms[j]:=λj h=>by simp[Ir,Ic h]
 have h2:=oX (ms:=ms) (t:=ms[k].name) hk (λj hj hn=>by
  have hp:=Jb.1 hr j k (by omega) hk hj;rw[e j (by omega)] at hn;rw[hn,ep] at hp;cases hp) (by rw[e k hk])
 rw[e k hk] at h2;exact h2
structure gz(a b:Nd):Prop where
 ms:∀m∈a.ms,∃k,bX b.ms m.name=AI k/\dn m k=false
 sv:LeX Sv.ord Sv.bF Sv.dm a.sv b.sv
 gw:LeX Gw.ord Gw.bF Gw.dm a.gw b.gw
theorem sg{a b:Nd}(h:a.pN)(hl:Le a.ms b.ms)(hs:b.sv=a.sv)(hg:b.gw=a.gw):gz a b:=by
 refine⟨λm hm=>hl _ _ (gT (aj h.ms).2.1 hm),?_,?_⟩
 .rw[hs];exact jQ _ _ _ Sv.keyed Sv.cR (Sv.aj h.sv).2.1
 .rw[hg];exact jQ _ _ _ Gw.keyed Gw.cR (Gw.aj h.gw).2.1
theorem mC{n:Nd}{p:Pk}(h0:nr n p=0):p.e=0/\nj n p.ms=0/\Sv.aJ n.sv p.sv=0/\Gw.aJ n.gw p.gw=0:=by
 unfold nr at h0;split at h0
 .rename_i h1
  split at h0
  .rename_i h2
   split at h0
   .rename_i h3;exact⟨h1,h2,h3,h0⟩
   .rename_i h3;exact absurd h0 h3
  .rename_i h2;exact absurd h0 h2
 .rename_i h1;exact absurd h0 h1
theorem Pg{wh:List Wh.bT}{x y:Wh.bT}(h:y∈xi wh x):y∈wh\/y=x:=by
 unfold xi at h;split at h
 .exact .inl h
 .rcases Wh.di wh x y h with h|h
  .exact .inr h
  .exact .inl h
theorem FO:∀(l wh:List Wh.bT) (y:Wh.bT),y∈Df wh l->y∈wh\/y∈l
 |[],_,y,h=>.inl h
 |x::r,wh,y,h=>by
  rcases FO r (xi wh x) y h with h|h
  .rcases Pg h with h|rfl
   .exact .inl h
   .exact .inr (by simp)
  .exact .inr (by simp[h])
theorem adP{n:Nd}{p:Pk}(he:n.e=0)(hk:∀m∈n.wh,m.ok)(ji:∀m∈p.wh,m.ok)(h0:nr n p=0):(ox n p).e=0:=by
 obtain⟨h1,h2,h3,h4⟩:=mC h0;have hp:=Nd.parts (Nd.aD he).1;obtain⟨pm,_,pw,qY,qZ⟩:=pO h1;have hN:=VK p.ms n he pm h2;have hq:=Nd.parts (Nd.aD hN).1;rw[Sv.gj hp.sv qY] at h3;rw[Gw.gj hp.gw qZ] at h4;have l3:(Sv.aB n.sv p.sv).length<=40:=by
  split at h3
  .cases h3
  .omega
 have l4:(Gw.aB n.gw p.gw).length<=6:=by
  split at h4
  .cases h4
  .omega
 have hf:=Bk (Wh.vM hp.wh hk) ji;refine Nd.XQ (Nd.pN.pe ⟨hq.name,hq.av,hq.ms,hq.rs,?_,?_,hq.p,?_⟩) (Nd.aD hN).2
 .refine Sv.kT l3 (Sv.dz p.sv n.sv (Sv.aj hp.sv).2.1) (λm hm=>?_)
  rcases Sv.dJ p.sv n.sv m hm with h|h
  .exact Sv.bn _ (Sv.aj hp.sv).2.2 m h
  .exact Sv.bn _ (Sv.aj qY).2.2 m h
 .refine Gw.kT l4 (Gw.dz p.gw n.gw (Gw.aj hp.gw).2.1) (λm hm=>?_)
  rcases Gw.dJ p.gw n.gw m hm with h|h
  .exact Gw.bn _ (Gw.aj hp.gw).2.2 m h
  .exact Gw.bn _ (Gw.aj qZ).2.2 m h
 .refine Wh.kT hf.len hf.GY (λm hm=>?_)
  rcases FO p.wh n.wh m hm with h|h
  .exact Wh.bn _ (Wh.aj hp.wh).2.2 m h
  .exact Wh.bn _ (Wh.aj pw).2.2 m h
theorem zZ{n:Nd}{p:Pk}(he:n.e=0)(h0:nr n p=0):gz n (ox n p):=by
 obtain⟨h1,h2,h3,h4⟩:=mC h0;have hp:=Nd.parts (Nd.aD he).1;obtain⟨pm,_,pw,qY,qZ⟩:=pO h1;refine⟨λm hm=>FN p.ms n ⟨hp.ms,hp.rs,hp.name⟩ pm h2 _ _ (gT (aj hp.ms).2.1 hm),?_,?_⟩
 .exact sf _ _ _ Sv.keyed Sv.cR (Sv.aj hp.sv).2.1 (Sv.aj qY).2.1
 .exact sf _ _ _ Gw.keyed Gw.cR (Gw.aj hp.gw).2.1 (Gw.aj qZ).2.1
theorem FP{n:Nd}{t:ByteArray}{a b:Int}(he:n.e=0)(hb:within b 1 4=true)(h0:tT n t a b=0):(Bm n t b).e=0/\gz n (Bm n t b):=by
 have hp:=Nd.parts (Nd.aD he).1;unfold tT at h0;split at h0
 .split at h0
  .split at h0
   .cases h0
   .split at h0
    .rename_i hs _ _
     obtain⟨g1,g2⟩:=iQ hs;have hx:=(lT _).1 (jX hp.ms _ g1);have hm:=(lT { eR n.ms t with state:=b }).2 ⟨hx.1,hb,hx.2.2.1,hx.2.2.2⟩;have hr:=dA n { eR n.ms t with state:=b };exact⟨FL he hm h0,sg hp (Pd ⟨hp.ms,hp.rs,hp.name⟩ hm (ux h0)) hr.sv hr.gw⟩
    .cases h0
  .cases h0
 .cases h0
theorem FQ{n:Nd}(he:n.e=0)(h0:FI n=0):(LR n).e=0/\gz n (LR n):=by
 have hp:=Nd.parts (Nd.aD he).1;obtain⟨me,Bn,_⟩:=Nd.gH (Nd.aD he).2;unfold FI at h0;split at h0
 .cases h0
 .split at h0
  .cases h0
  .rename_i _ hl
   obtain⟨g1,g2⟩:=iQ (ms:=n.ms) (t:=n.name) (by rw[Bn];rfl);have hx:=(lT _).1 (jX hp.ms _ g1);have h5:=hx.2.2.1;simp only[within,IG,decide_eq_true_eq] at h5;have hm:(Tb n).e=0:=(lT _).2 ⟨hx.1,(by decide:within 4 1 4=true),by
    simp only[within,IG,decide_eq_true_eq];show 1<=(eR n.ms n.name).aI+1/\(eR n.ms n.name).aI+1<=1000000;omega,hx.2.2.2⟩
   have hr:=dA n (Tb n);exact⟨FL he hm h0,sg hp (Pd ⟨hp.ms,hp.rs,hp.name⟩ hm (ux h0)) hr.sv hr.gw⟩
theorem Ph{n:Nd}{m:Mem}(h:Sp n)(hm:m.e=0)(h0:jZ n m=0):∃k,bX (jc n m).ms m.name=AI k/\dn m k=false:=by
 have hr:=(aj h.ms).2.1;have h1:∃k,bX (eH n m).ms m.name=AI k/\dn m k=false:=by
  have gE:(eH n m).ms=aN n.ms m:=by unfold eH;split<;>rfl
  rw[gE];by_cases hh:aN n.ms m=n.ms
  .rw[hh]
   rcases hc:mX n.ms m with _|_
   .unfold mX at hc
    rcases hf:bX n.ms m.name with _|k
    .rw[hf] at hc;cases hc
    .rw[hf] at hc;exact⟨k,rfl,hc⟩
   .exact absurd hh ((kU hr m).1 hc)
  .exact⟨m,mj m n.ms hh,eL m⟩
 unfold jc;split
 .obtain⟨k,h2,h3⟩:=h1
  obtain⟨k2,h4,h5⟩:=Pc (qC h.ms h.rs hm h0).1 _ _ h2;exact⟨k2,h4,pj h3 h5⟩
 .exact h1
theorem BV:∀(l:List Mem) (n:Nd),Sp n->(∀m∈l,m.e=0)->nj n l=0->∀m∈l,∃k,bX (tv n l).ms m.name=AI k/\dn m k=false
 |[],_,_,_,_,m,hm=>by cases hm
 |x::r,n,h,hl,h0,m,hm=>by
  rw[nj] at h0;split at h0
  .rename_i h1
   have hx:=hl x (by simp);have hs:=yb h hx h1;have hr:∀m∈r,m.e=0:=λm hm=>hl m (by simp[hm]);rcases IN.1 hm with rfl|hm
   .obtain⟨k,h2,h3⟩:=Ph h hx (ux h1)
    obtain⟨k2,h4,h5⟩:=FN r (jc n m) hs hr h0 _ _ h2;exact⟨k2,h4,pj h3 h5⟩
   .exact BV r (jc n x) hs hr h0 m hm
  .rename_i h1;exact absurd h0 h1
theorem Aa{n n':Nd}(he:n.e=0)(h1:n'.name=n.name)(h2:n'.av=n.av)(h3:n'.ms=n.ms)(h4:eB n'.rs=0)(ha:∀r∈n'.rs,fu n.ms r=false)(h5:Sv.bp n'.sv=0)(h6:Gw.bp n'.gw=0)(h7:eF n'.p=0)(h8:Wh.bp n'.wh=0):n'.e=0:=by
 have hp:=Nd.parts (Nd.aD he).1;obtain⟨m,m1,m2,m3,_⟩:=Nd.gH (Nd.aD he).2;exact Nd.XQ (Nd.pN.pe ⟨by rw[h1];exact hp.name,by rw[h2];exact hp.av,by rw[h3];exact hp.ms,h4,h5,h6,h7,h8⟩) (Nd.FM (by rw[h3,h1];exact m1) m2 m3 (λr hr=>by rw[h3];exact ha r hr))
theorem KH{n:Nd}(he:n.e=0):eB n.rs=0/\∀r∈n.rs,fu n.ms r=false:=by
 obtain⟨m,_,_,_,m4⟩:=Nd.gH (Nd.aD he).2;exact⟨(Nd.parts (Nd.aD he).1).rs,m4⟩
theorem sj{a b:Nd}(ha:a.e=0)(h:b.ms=a.ms)(hs:LeX Sv.ord Sv.bF Sv.dm a.sv b.sv)(hg:LeX Gw.ord Gw.bF Gw.dm a.gw b.gw):gz a b:=
 ⟨λm hm=>by rw[h];exact⟨m,gT (aj (Nd.parts (Nd.aD ha).1).ms).2.1 hm,eL m⟩,hs,hg⟩
theorem Pj{ms:List Sv.aV}(hr:Sv.aT ms){t x:Sv.aV}{p:Nat}{f:Bool}(cA:Sv.At ms t p f)(hx:x∈ms)(h:Sv.ord x t=0):f=true/\ms.getD p Sv.dm=x:=by
 obtain⟨k,hk,rfl⟩:=IT hx;have e:=RL.gD Sv.dm hk;obtain⟨rfl,rfl⟩:=Sv.eZ cA (RL.EH Sv.ord Sv.dm Sv.keyed hr hk (by rw[e];exact h));exact⟨rfl,e⟩
def XT(ms:List Sv.aV)(nm:ByteArray)(d:Sv.aV):Prop:=d.node=nm/\∀x∈ms,Sv.ord x d=0->x.version<d.version
def Ab(n n':Nd):Prop:=
 (∃t a b,within b 1 4=true/\b≠4/\tT n t a b=0/\n'=Bm n t b)\/(FI n=0/\n'=LR n)\/(∃t p r,Ec n t p r=0/\n'=LS n t p r) \/
 (∃d,XT n.sv n.name d/\Sv.aJ n.sv [d]=0/\n'={ n with sv:=Sv.aB n.sv [d] })\/(∃d,d.av=n.av/\Gw.aJ n.gw [d]=0/\n'={ n with gw:=Gw.aB n.gw [d] })
structure qA(n n':Nd):Prop where
 e:n'.e=0
 nm:n'.name=n.name
 le:gz n n'
theorem Tn{wh:List Wh.bT}{x:Wh.bT}(h:Wh.bp wh=0)(hx:x.e=0)(hl:(Wh.aN wh x).length<=20):Wh.bp (Wh.aN wh x)=0:=by
 have hz:=Wh.aj h;refine Wh.kT hl (Wh.fY wh x hz.2.1) (λm hm=>?_);rcases Wh.di wh x m hm with h|h
 .rw[h];exact hx
 .exact Wh.bn _ hz.2.2 m h
theorem adQ{t:ByteArray}{p:Pl}(h1:bl t=true)(h2:eF p=0):(N7 t p).e=0:=(if_pos h1).trans h2
theorem Ac{n n':Nd}(he:n.e=0)(h:Ab n n'):qA n n':=by
 have hp:=Nd.parts (Nd.aD he).1;obtain⟨ku,mI⟩:=KH he;have lS:=jQ _ _ Sv.dm Sv.keyed Sv.cR (Sv.aj hp.sv).2.1;have lG:=jQ _ _ Gw.dm Gw.keyed Gw.cR (Gw.aj hp.gw).2.1;rcases h with⟨t,a,b,hb,_,h0,rfl⟩|⟨h0,rfl⟩|⟨t,p,r,h0,rfl⟩|⟨d,_,h0,rfl⟩|⟨d,_,h0,rfl⟩
 .exact⟨(FP he hb h0).1,(dA _ _).name,(FP he hb h0).2⟩
 .exact⟨(FQ he h0).1,(dA _ _).name,(FQ he h0).2⟩
 .have h1:bl t=true/\eF p=0/\(Wh.aN n.wh (N7 t p)).length<=20:=by
   unfold Ec at h0;split at h0
   .split at h0
    .split at h0
     .cases h0
     .split at h0
      .rename_i a1 a2 _ _
       refine⟨a1,a2,?_⟩;unfold Vx at h0;split at h0
       .cases h0
       .omega
      .cases h0
    .cases h0
   .cases h0
  exact⟨Aa he rfl rfl rfl ku mI hp.sv hp.gw ((o9 _).2 (XU _)) (Tn hp.wh (adQ h1.1 h1.2.1) h1.2.2),rfl,sj he rfl lS lG⟩
 .have hk:=(Sv.kY h0)
  exact⟨Aa he rfl rfl rfl ku mI (Sv.oA h0) hp.gw hp.p hp.wh,rfl,sj he rfl (sf _ _ _ Sv.keyed Sv.cR (Sv.aj hp.sv).2.1 (Sv.aj hk.2.1).2.1) lG⟩
 .have hk:=(Gw.kY h0)
  exact⟨Aa he rfl rfl rfl ku mI hp.sv (Gw.oA h0) hp.p hp.wh,rfl,sj he rfl lS (sf _ _ _ Gw.keyed Gw.cR (Gw.aj hp.gw).2.1 (Gw.aj hk.2.1).2.1)⟩
theorem BW(l:List bU)(i:Nat):iv (ft l i)=iv l:=by
 unfold iv ft;rw[QZ];by_cases hi:i<l.length
 .have:(l.getD i dr).m=(l.map (·.m))[i]'(by simpa using hi):=by simp[Ir,Ic hi]
  show(l.map (·.m)).set i (l.getD i dr).m=_;rw[this,List.set_getElem_self]
 .rw[List.set_eq_of_length_le (by simpa using hi)]
theorem wa:∀(is:List Nat) (l:List bU),iv (is.foldl ft l)=iv l
 |[],_=>rfl
 |i::r,l=>by rw[List.foldl_cons,wa r,BW]
theorem yB:∀(is:List Nat) (l:List bU),(∀r∈l,0<=r.told)->∀r∈is.foldl ft l,0<=r.told
 |[],_,h,r,hr=>h r hr
 |i::is,l,h,r,hr=>by
  refine yB is (ft l i) (λx hx=>?_) r hr;rcases Jq hx with h1|rfl
  .exact h x h1
  .show 0<=(l.getD i dr).told+1
   by_cases hi:i<l.length
   .have:=h (l.getD i dr) (by rw[Ir,Ic hi];exact IK hi)
    omega
   .rw[Ir,List.getElem?_eq_none (by omega)];decide
theorem ai{α:Type}{l:List α}{i:Nat}(h:i<l.length)(d:α):l.getD i d∈l:=by rw[Ir,Ic h];exact IK h
theorem oI{rs:List bU}:dY rs↔(iv rs).Pairwise (λa b=>a.name≠b.name):=by rw[ot,iv,QN]
theorem KI{rs:List bU}{times:Int}{told:List Mem}{rest:List bU}(h:sX rs times told rest)(h0:eB rs=0)(ht:times<=100):eB rest=0/\∀r∈rest,∃x∈rs,x.m=r.m:=by
 obtain⟨z1,z2,z3,z4⟩:=fI h0;rcases h with⟨rfl,_,rfl⟩|⟨_,ord,ho,_,rfl⟩
 .exact⟨h0,λr hr=>by cases hr⟩
 .have hm:=wa (ord.take (min 5 rs.length)) rs
  have XV:(iv ((bump rs ord (min 5 rs.length)).filter (eM times))).Sublist (iv rs):=by
   rw[<- hm];exact List.Sublist.map _ List.filter_sublist
  have o5:∀r∈(bump rs ord (min 5 rs.length)).filter (eM times),∃x∈rs,x.m=r.m:=λr hr=>by
   have h1:=XV.subset (J0 hr);obtain⟨x,hx,e⟩:=JV.1 h1;exact⟨x,hx,e⟩
  refine⟨yZ ?_ (λj hj=>?_) (λj hj=>?_) (oI.2 ((oI.1 z4).sublist XV)),o5⟩
  .have:=XV.length_le
   rw[kB,kB] at this;omega
  .obtain⟨x,hx,e⟩:=o5 _ (ai hj dr)
   rw[<- e];obtain⟨k,hk,rfl⟩:=IT hx;have:=z2 k hk
   rwa [Ir,Ic hk] at this
  .have hr:=List.mem_filter.1 (ai hj dr)
   have h1:=yB (ord.take (min 5 rs.length)) rs (λr hr=>by
    obtain⟨k,hk,rfl⟩:=IT hr;have:=z3 k hk;rw[Ir,Ic hk] at this;exact(within_iff.1 this).1) _ hr.1
   have h2:=of_decide_eq_true hr.2;exact within_iff.2 ⟨h1,by omega⟩
theorem adR{n:Nd}(h:bp n.ms=0):tmN n<=100:=by
 have aO:∀m,m<21->Lib.bitLen m<=5:=by decide
 have h1:=aO (fh n.ms).length (by have:=BI (aj h).1;omega);unfold tmN;omega
theorem mD{n:Nd}{l:List Mem}{rest:List bU}(he:n.e=0)(h:j8 n l rest):qA n { n with rs:=rest }/\(rZ n.name l).e=0:=by
 have hp:=Nd.parts (Nd.aD he).1;obtain⟨ku,mI⟩:=KH he;obtain⟨z1,z2,z3,z4⟩:=fI ku;obtain⟨told,ht,LU,_⟩:=h;obtain⟨t1,t2⟩:=KI ht ku (adR hp.ms);have lS:=jQ _ _ Sv.dm Sv.keyed Sv.cR (Sv.aj hp.sv).2.1;have lG:=jQ _ _ Gw.dm Gw.keyed Gw.cR (Gw.aj hp.gw).2.1;have hl5:l.length<=5:=by rw[LU.length_eq];exact vP ht
 have hle:∀m∈l,m.e=0:=λm hm=>by
  have h1:=LU.mem_iff.1 hm;rcases ht with⟨_,rfl,_⟩|⟨_,ord,ho,rfl,_⟩
  .cases h1
  .obtain⟨r,hr,rfl⟩:=mA ho h1
   obtain⟨k,hk,rfl⟩:=IT hr;have:=z2 k hk
   rwa [Ir,Ic hk] at this
 have sy:n9 l:=by
  have h1:=(LU.pairwise_iff (λh e=>h e.symm)).2 (zM ht z4);intro i j jS hj;have:=Jb.1 h1 i j (by omega) hj jS
  rwa [Ir,Ir,Ic hj,Ic (by omega:i<l.length)]
 refine⟨⟨Aa he rfl rfl rfl t1 (λr hr=>?_) hp.sv hp.gw hp.p hp.wh,rfl,sj he rfl lS lG⟩,?_⟩
 .obtain⟨x,hx,e⟩:=t2 r hr
  have:=mI x hx;unfold fu at this ⊢;rw[<- e];exact this
 .have h1:(rZ n.name l).mE=0:=by
   show(if(false:Bool)=true then bp l else mS l)=0;rw[if_neg (by simp)];exact EN hl5 (λ_ hj=>hle _ (ai hj dm)) sy
  unfold Pk.e;rw[if_pos (by show(bl n.name&&(false||Pk.alone (rZ n.name l)))=true;rw[hp.name];rfl),if_pos h1];rfl
theorem kA{n:Nd}(he:n.e=0):(bJ n).e=0:=by
 have hp:=Nd.parts (Nd.aD he).1;have h1:(bJ n).mE=0:=hp.ms;unfold Pk.e;rw[if_pos (by show(bl n.name&&(true||_))=true;rw[hp.name];rfl),if_pos h1,if_pos (show Sv.bp (bJ n).sv=0 from hp.sv),if_pos (show Gw.bp (bJ n).gw=0 from hp.gw)];exact hp.wh
theorem iD{p:Pk}(h:p.e=0):sx p.T.data.toList=AI p:=by
 have:p.T.data.toList=p.B:=by unfold Pk.T;rw[if_pos h]
 rw[this];exact lh.2 ⟨rfl,h⟩
theorem BX{p:Pk}(h:p.e=0):p.T.size<=16777216:=by
 have hw:=qK h;have e:p.T.size=p.L.length:=by
  rw[p.aca];unfold Pk.T;rw[if_pos h];simp[Lib.byteCells,ByteArray.size]
 have h1:=ej p.ms hw.ms.2;have h2:=Sv.ej p.sv hw.sv.2;have h3:=Gw.ej p.gw hw.gw.2;have h4:=Wh.ej p.wh hw.wh.2;have b1:=hw.ms.1;have b2:=hw.sv.1;have b3:=hw.gw.1;have b4:=hw.wh.1;have b5:=hw.du;have n1:=dZ (dB (n:=p.ms.length) (by omega));have n2:=dZ (dB (n:=p.sv.length) (by omega));have n3:=dZ (dB (n:=p.gw.length) (by omega));have n4:=dZ (dB (n:=p.wh.length) (by omega));have t1:=eb (s:=p.du) (by omega);have f1:=jN p.whole;rw[e];unfold Pk.L;simp only[Ii];omega
def AE(t t':Nt):Prop:=
 (∃j n',j<t.ns.length/\Ab (t.ns.getD j aM) n'/\t'=⟨t.ns.set j n',t.ls⟩) \/
 (∃j k l rest,j<t.ns.length/\k<t.ns.length/\t.ls.length<20/\j8 (t.ns.getD j aM) l rest/\t'=⟨t.ns.set j { t.ns.getD j aM with rs:=rest },t.ls++[⟨((k:Nat):Int),(rZ (t.ns.getD j aM).name l).T⟩]⟩) \/
 (∃j k,j<t.ns.length/\k<t.ns.length/\t.ls.length<20/\t'=⟨t.ns,t.ls++[⟨((k:Nat):Int),(bJ (t.ns.getD j aM)).T⟩]⟩) \/
 (∃j k p,j<t.ls.length/\k<t.ns.length/\sx (t.ls.getD j Lt.dm).text.data.toList=AI p/\nr (t.ns.getD k aM) p=0/\t'=⟨t.ns.set k (ox (t.ns.getD k aM) p),t.ls.eraseIdx j⟩) \/
 (∃j,t'=⟨t.ns,t.ls.eraseIdx j⟩)\/(∃j,j<t.ls.length/\t.ls.length<20/\t'=⟨t.ns,t.ls++[t.ls.getD j Lt.dm]⟩)
structure bE(t:Nt):Prop where
 e:t.e=0
 sh:∀l∈t.ls,l.text.size<=16777216
theorem bE.short{t:Nt}(h:bE t):t.Bz:=λ_=>h.sh
theorem BZ{t:Nt}(h1:t.ns.length<=6)(h2:t.ls.length<=20)(h3:∀n∈t.ns,n.e=0)(h4:iW t.ns)(h5:∀l∈t.ls,xu t.ns.length l=0/\l.text.size<=16777216):bE t:=by
 refine⟨?_,λl hl=>(h5 l hl).2⟩;rw[Nt.sW (by omega) (FE (λj hj=>h3 _ (ai hj aM)) h4)];exact pc _ Lt.dm _ (λj hj=>(h5 _ (ai hj Lt.dm)).1)
theorem oJ{α:Type}(l:List α)(j i:Nat)(x d:α)(hj:j<l.length):(l.set j x).getD i d=if i=j then x else l.getD i d:=by
 by_cases h:i=j
 .subst h;rw[if_pos rfl,Ir,List.getElem?_set_self hj];rfl
 .rw[if_neg h,Ir,List.getElem?_set_ne (Ne.symm h),Ir]
theorem KJ{ns:List Nd}{j:Nat}{n':Nd}(h:iW ns)(hj:j<ns.length)(hn:n'.name=(ns.getD j aM).name):iW (ns.set j n'):=by
 have e:∀i,((ns.set j n').getD i aM).name=(ns.getD i aM).name:=λi=>by
  rw[oJ _ _ _ _ _ hj];split
  .rename_i h;rw[h];exact hn
  .rfl
 intro a b xl hb;rw[e,e];exact h a b xl (by rwa [IS] at hb)
structure wi(t t':Nt):Prop where
 right:bE t'
 len:t'.ns.length=t.ns.length
 le:∀i,i<t.ns.length->gz (t.ns.getD i aM) (t'.ns.getD i aM)/\(t'.ns.getD i aM).name=(t.ns.getD i aM).name
theorem FR{n:Nd}(he:n.e=0):gz n n:=
 have hp:=Nd.parts (Nd.aD he).1
 sj he rfl (jQ _ _ Sv.dm Sv.keyed Sv.cR (Sv.aj hp.sv).2.1) (jQ _ _ Gw.dm Gw.keyed Gw.cR (Gw.aj hp.gw).2.1)
theorem wj{t:Nt}(h:bE t){j:Nat}(hj:j<t.ns.length){n':Nd}(hf:qA (t.ns.getD j aM) n'){ls:List Lt.fy}(hl:ls.length<=20)(h5:∀l∈ls,l∈t.ls\/(xu t.ns.length l=0/\l.text.size<=16777216)):wi t ⟨t.ns.set j n',ls⟩:=by
 obtain⟨z1,z2,z3,z4,z5⟩:=Nt.aD h.e;refine⟨BZ (by show(t.ns.set j n').length<=6;rw[IS];exact z1) hl (λn hn=>?_) (KJ z4 hj hf.nm) (λl hl=>?_),IS,λi hi=>?_⟩
 .rcases Jq hn with h1|rfl
  .exact z3 n h1
  .exact hf.e
 .show xu (t.ns.set j n').length l=0/\_
  rw[IS];rcases h5 l hl with h1|h1
  .exact⟨z5 l h1,h.sh l h1⟩
  .exact h1
 .show gz _ ((t.ns.set j n').getD i aM)/\((t.ns.set j n').getD i aM).name=_
  rw[oJ _ _ _ _ _ hj];split
  .rename_i e;subst e;exact⟨hf.le,hf.nm⟩
  .exact⟨FR (z3 _ (ai hi aM)),rfl⟩
theorem sZ{t:Nt}(h:bE t){ls:List Lt.fy}(hl:ls.length<=20)(h5:∀l∈ls,l∈t.ls\/(xu t.ns.length l=0/\l.text.size<=16777216)):wi t ⟨t.ns,ls⟩:=by
 obtain⟨z1,z2,z3,z4,z5⟩:=Nt.aD h.e;refine⟨BZ z1 hl z3 z4 (λl hl=>?_),rfl,λi hi=>⟨FR (z3 _ (ai hi aM)),rfl⟩⟩;rcases h5 l hl with h1|h1
 .exact⟨z5 l h1,h.sh l h1⟩
 .exact h1
theorem yC{p:Pk}(h:p.e=0){k n:Nat}(hk:k<n):xu n ⟨((k:Nat):Int),p.T⟩=0/\(⟨((k:Nat):Int),p.T⟩:Lt.fy).text.size<=16777216:=by
 refine⟨?_,BX h⟩;unfold xu;simp only[iD h,lq hk];rfl
theorem mF{t t':Nt}(h:bE t)(hk:∀n∈t.ns,iE n)(hn:AE t t'):wi t t':=by
 obtain⟨z1,z2,z3,z4,z5⟩:=Nt.aD h.e;have sy:∀(ls:List Lt.fy) (x:Lt.fy),xu t.ns.length x=0/\x.text.size<=16777216->∀l∈t.ls++[x],l∈t.ls\/(xu t.ns.length l=0/\l.text.size<=16777216):=λ_ x hx l hl=>by
  rcases Jk.1 hl with h1|h1
  .exact .inl h1
  .rw[IY.1 h1];exact .inr hx
 rcases hn with⟨j,n',hj,hb,rfl⟩|⟨j,k,l,rest,hj,eJ,h20,ht,rfl⟩|⟨j,k,hj,eJ,h20,rfl⟩|⟨j,k,p,hj,eJ,BR,hh,rfl⟩|⟨j,rfl⟩|⟨j,hj,h20,rfl⟩
 .exact wj h hj (Ac (z3 _ (ai hj aM)) hb) z2 (λl hl=>.inl hl)
 .have hf:=mD (z3 _ (ai hj aM)) ht
  exact wj h hj hf.1 (by rw[Ii];simp;omega) (sy t.ls _ (yC hf.2 eJ))
 .exact sZ h (by rw[Ii];simp;omega) (sy t.ls _ (yC (kA (z3 _ (ai hj aM))) eJ))
 .have he:=z3 _ (ai eJ aM)
  have hw:=qK (lh.1 BR).2;refine wj h eJ ⟨adP he (hk _ (ai eJ aM)).wh (λm hm=>?_) hh,(np _ _).name,zZ he hh⟩ (Nat.le_trans (Ur ..) z2) (λl hl=>.inl (Jr hl));have:=(hw.wh.2 m hm).1;show _<=maxLen;unfold maxLen;omega
 .exact sZ h (Nat.le_trans (Ur ..) z2) (λl hl=>.inl (Jr hl))
 .exact sZ h (by rw[Ii];simp;omega) (sy t.ls _ ⟨z5 _ (ai hj Lt.dm),h.sh _ (ai hj Lt.dm)⟩)
structure Told(o:Nd)(ms:List Mem)(sv:List Sv.aV):Prop where
 ms:∀m∈ms,m.name=o.name->m.aI<=(eR o.ms o.name).aI
 sv:∀s∈sv,s.node=o.name->∃x∈o.sv,Sv.ord x s=0/\(s.version<x.version\/s=x)
structure pT(t:Nt):Prop where
 ns:∀o∈t.ns,∀x∈t.ns,Told o x.ms x.sv
 ls:∀o∈t.ns,∀l∈t.ls,∀p,sx l.text.data.toList=AI p->Told o p.ms p.sv
theorem oK(o:Nd):Told o [] []:=⟨λm hm=>(by cases hm),λs hs=>(by cases hs)⟩
theorem B0{a b:Sv.aV}(h:Sv.ord a b=0):a.node=b.node:=(bL _ _).1 (RL.fF h).1
theorem FT{ms:List Sv.aV}(hr:Sv.aT ms){x y:Sv.aV}(hx:x∈ms)(hy:y∈ms)(h:Sv.ord y x=0):y=x:=by
 obtain⟨p,f,cA⟩:=Sv.jT ms hr x;exact(Pj hr cA hy h).2.symm.trans (Pj hr cA hx (Sv.keyed.refl x)).2
theorem yD{o:Nd}(he:o.e=0):Told o o.ms o.sv:=by
 refine⟨λm hm e=>?_,λs hs _=>⟨s,hs,Sv.keyed.refl s,.inr rfl⟩⟩;rw[<- e,ff (gT (aj (Nd.parts (Nd.aD he).1).ms).2.1 hm)];exact Int.le_refl _
theorem po{a b:Mem}(h:dn a b=false):a.aI<=b.aI:=by
 unfold dn wY at h;split at h
 .omega
 .have:=of_decide_eq_false h;omega
theorem Ad{a b:Sv.aV}(h:Sv.bF a b=false):a.version<=b.version:=by
 apply Js;intro hv;have h1:0<Sv.zJ a b:=by
  unfold Sv.zJ RL.lex;rw[if_neg (by show ¬ a.version-b.version=0;omega)];show 0<a.version-b.version;omega
 unfold Sv.bF at h;exact absurd h1 (of_decide_eq_false h)
theorem FU{n n':Nd}(he:n.e=0)(h:gz n n'):(eR n.ms n.name).aI<=(eR n'.ms n.name).aI:=by
 obtain⟨m,hm,_⟩:=Nd.gH (Nd.aD he).2;obtain⟨h1,h2⟩:=dH hm;obtain⟨k,hk,hn⟩:=h.ms m h1;rw[h2] at hk;rw[ff hm,ff hk];exact po hn
theorem wo{ns:List Nd}{j:Nat}{n' x:Nd}(hx:x∈ns.set j n'):x=n'\/∃i,i≠j/\i<ns.length/\x=ns.getD i aM:=by
 obtain⟨i,hi,rfl⟩:=IT hx;rw[IS] at hi;by_cases h:i=j
 .subst h;exact .inl (List.getElem_set_self _)
 .exact .inr ⟨i,h,hi,by rw[List.getElem_set_ne (Ne.symm h),Ir,Ic hi];rfl⟩
theorem oL{ns:List Nd}(h:iW ns){i j:Nat}(jS:i≠j)(hi:i<ns.length)(hj:j<ns.length):(ns.getD i aM).name≠(ns.getD j aM).name:=by
 rcases Nat.lt_or_gt_of_ne jS with h1|h1
 .exact h i j h1 hj
 .exact λe=>h j i h1 hi e.symm
theorem jC{t:Nt}(hr:bE t)(h:pT t){j:Nat}(hj:j<t.ns.length){n':Nd}{ls:List Lt.fy}(hg:wi t ⟨t.ns.set j n',ls⟩)(pm:List Mem)(b:List Sv.aV)(hs:n'.sv=Sv.aB (t.ns.getD j aM).sv b)(hm:∀x∈n'.ms,x.name≠(t.ns.getD j aM).name->∃m,(m∈pm\/m∈(t.ns.getD j aM).ms)/\m.name=x.name/\x.aI=m.aI)(hb:∀d∈b,d.node=(t.ns.getD j aM).name->∀x∈(t.ns.getD j aM).sv,Sv.ord x d=0->x.version<d.version\/d.version<x.version\/d=x)(hP:∀o∈t.ns,o.name≠(t.ns.getD j aM).name->Told o pm b)(hl:∀o∈t.ns,∀l∈ls,∀p,sx l.text.data.toList=AI p->Told o p.ms p.sv):pT ⟨t.ns.set j n',ls⟩:=by
 obtain⟨_,_,z3,sy,_⟩:=Nt.aD hr.e;have Kw:=ai hj aM;obtain⟨EP,cY⟩:=hg.le j hj;have e:(⟨t.ns.set j n',ls⟩:Nt).ns.getD j aM=n':=by
  show(t.ns.set j n').getD j aM=n';rw[oJ _ _ _ _ _ hj,if_pos rfl]
 rw[e] at EP cY;have he:n'.e=0:=by
  rw[<- e];exact(Nt.aD hg.right.e).2.2.1 _ (ai (by rw[hg.len];exact hj) aM)
 have adS:=h.ns _ Kw;have aP:∀i,i≠j->i<t.ns.length->(t.ns.getD i aM).name≠(t.ns.getD j aM).name:=λi h1 h2=>oL sy h1 h2 hj;have Bh:=z3 _ Kw;generalize t.ns.getD j aM=n at *;have Pm:=(Sv.aj (Nd.parts (Nd.aD Bh).1).sv).2.1;have grow:∀{ms:List Mem} {sv:List Sv.aV},Told n ms sv->Told n' ms sv:=λ{ms sv} h=>by
  refine⟨λm hm e=>?_,λs jb e=>?_⟩
  .rw[cY] at e ⊢
   exact Int.le_trans (h.ms m hm e) (FU Bh EP)
  .rw[cY] at e
   obtain⟨x,hx,e1,h1⟩:=h.sv s jb e;obtain⟨p,cA,yO⟩:=EP.sv x hx;obtain⟨hp,ho⟩:=cA.is.1 rfl;have hy:=ai hp Sv.dm;generalize n'.sv.getD p Sv.dm=y at *;have h2:x.version<y.version\/x=y:=by
    rw[hs] at hy;rcases Sv.dJ _ _ _ hy with h3|h3
    .exact .inr (FT Pm hx h3 ho).symm
    .rcases hb y h3 ((B0 ho).trans ((B0 e1).trans e)) x hx (Sv.keyed.symm ho) with h4|h4|rfl
     .exact .inl h4
     .have:=Ad yO;omega
     .exact .inr rfl
   refine⟨y,hy,Sv.keyed.AH ho e1,?_⟩;rcases h1 with h1|rfl
   .left
    rcases h2 with h2|rfl
    .omega
    .exact h1
   .exact h2
 have other:∀o∈t.ns,o.name≠n.name->Told o n'.ms n'.sv:=λo ho aP=>by
  have h1:=h.ns o ho n Kw;have h2:=hP o ho aP;refine⟨λx hx ex=>?_,λs jb es=>?_⟩
  .obtain⟨m,CC,em,el⟩:=hm x hx (by rw[ex];exact aP)
   rw[el];rcases CC with h3|h3
   .exact h2.ms m h3 (em.trans ex)
   .exact h1.ms m h3 (em.trans ex)
  .rw[hs] at jb
   rcases Sv.dJ _ _ _ jb with h3|h3
   .exact h1.sv s h3 es
   .exact h2.sv s h3 es
 have cA:∀o∈t.ns.set j n',o=n'\/o∈t.ns/\o.name≠n.name:=λo ho=>by
  rcases wo ho with h1|⟨i,hi,hil,rfl⟩
  .exact .inl h1
  .exact .inr ⟨ai hil aM,aP i hi hil⟩
 refine⟨λo XW x hx=>?_,λo XW l Rn p hp=>?_⟩
 .rcases cA o XW with rfl|⟨h1,h2⟩<;>rcases cA x hx with rfl|⟨h3,h4⟩
  .exact yD he
  .exact grow (adS x h3)
  .exact other o h1 h2
  .exact h.ns o h1 x h3
 .rcases cA o XW with rfl|⟨h1,h2⟩
  .exact grow (hl n Kw l Rn p hp)
  .exact hl o h1 l Rn p hp
theorem wu{n:Nd}{m x:Mem}(hx:x∈(jc n m).ms)(hn:x.name≠n.name):x=m\/x∈n.ms:=by
 have h1:(eH n m).ms=aN n.ms m:=by unfold eH;split<;>rfl
 have cY:=(kX n m).name;unfold jc at hx;split at hx
 .have h2:(sw (eH n m)).ms=nK (eH n m):=by unfold sw;split<;>rfl
  rw[h2] at hx;unfold nK rF at hx;split at hx
  .rename_i hR
   rcases Jq hx with h|rfl
   .rw[h1] at h;exact di _ _ _ h
   .have hF:mY (eH n m)=true:=by
     unfold ia at hR;rw[IG,IG] at hR;exact hR.1.1
    unfold mY RY at hF;rw[IG,decide_eq_true_eq,decide_eq_true_eq] at hF;exact absurd (((bL _ _).1 hF.2).trans cY) hn
  .rw[h1] at hx;exact di _ _ _ hx
 .rw[h1] at hx;exact di _ _ _ hx
theorem s9:∀(l:List Mem) (n:Nd) (x:Mem),x∈(tv n l).ms->x.name≠n.name->x∈l\/x∈n.ms
 |[],_,_,h,_=>.inr h
 |m::r,n,x,h,hn=>by
  have e:=(dA n m).name;rcases s9 r (jc n m) x h (by rw[e];exact hn) with h|h
  .exact .inl (Jl _ h)
  .rcases wu h hn with rfl|h
   .exact .inl (Jg ..)
   .exact .inr h
theorem yE{n o:Nd}{l:List Mem}{rest:List bU}(he:n.e=0)(ht:j8 n l rest)(h:Told o n.ms n.sv):Told o l []:=by
 refine⟨λm hm e=>?_,λs hs=>by cases hs⟩;obtain⟨told,CO,LU,_⟩:=ht;have h1:=LU.mem_iff.1 hm;rcases CO with⟨_,rfl,_⟩|⟨_,ord,ho,rfl,_⟩
 .cases h1
 .obtain⟨r,hr,rfl⟩:=mA ho h1
  have h2:=(KH he).2 r hr;unfold fu at h2;split at h2
  .cases h2
  .rename_i k hk
   obtain⟨k1,k2⟩:=dH hk;exact Int.le_trans (po h2) (h.ms k k1 (k2.trans e))
theorem KK{t t':Nt}(hr:bE t)(hg:wi t t')(h:pT t)(hn:AE t t'):pT t':=by
 obtain⟨z1,z2,z3,z4,z5⟩:=Nt.aD hr.e;have same:∀(l:List Mem) (n:Nd),∀x∈n.ms,x.name≠n.name->∃m,(m∈l\/m∈n.ms)/\m.name=x.name/\x.aI=m.aI:=λl n x hx _=>⟨x,.inr hx,rfl,rfl⟩;have add:∀{x:Lt.fy} {p:Pk},p.e=0->x.text=p.T->(∀o∈t.ns,Told o p.ms p.sv)->∀o∈t.ns,∀l∈t.ls++[x],∀q,sx l.text.data.toList=AI q->Told o q.ms q.sv:=λ{x p} hp hx hT o ho l hl q hq=>by
  rcases Jk.1 hl with h1|h1
  .exact h.ls o ho l h1 q hq
  .rw[IY.1 h1,hx,iD hp] at hq
   rw[<- JI hq];exact hT o ho
 have nil:∀{P:Sv.aV->Prop},∀d∈([]:List Sv.aV),P d:=λd hd=>by cases hd
 rcases hn with⟨j,n',hj,hb,rfl⟩|⟨j,k,l,rest,hj,eJ,h20,ht,rfl⟩|⟨j,k,hj,eJ,h20,rfl⟩|⟨j,k,p,hj,eJ,BR,hh,rfl⟩|⟨j,rfl⟩|⟨j,hj,h20,rfl⟩
 .have he:=z3 _ (ai hj aM)
  rcases hb with⟨a,b,c,hb,_,h0,rfl⟩|⟨h0,rfl⟩|⟨a,p,r,h0,rfl⟩|⟨d,h1,h0,rfl⟩|⟨d,_,h0,rfl⟩
  .refine jC hr h hj hg [] [] ((dA _ _).sv) (λx hx aP=>?_) nil (λo _ _=>oK o) h.ls
   rcases wu hx aP with rfl|h1
   .refine⟨eR (t.ns.getD j aM).ms a,.inr (iQ ?_).1,rfl,rfl⟩
    unfold tT at h0;split at h0
    .split at h0
     .assumption
     .cases h0
    .cases h0
   .exact⟨x,.inr h1,rfl,rfl⟩
  .refine jC hr h hj hg [] [] ((dA _ _).sv) (λx hx aP=>?_) nil (λo _ _=>oK o) h.ls
   rcases wu hx aP with rfl|h1
   .obtain⟨m,hm,_⟩:=Nd.gH (Nd.aD he).2
    exact absurd (iQ (by rw[hm];rfl)).2 aP
   .exact⟨x,.inr h1,rfl,rfl⟩
  .exact jC hr h hj hg [] [] rfl (same [] _) nil (λo _ _=>oK o) h.ls
  .refine jC hr h hj hg [] [d] rfl (same [] _) (λx hx hxn y hy e=>?_) (λo _ aP=>⟨λm hm=>(by cases hm),λs hs e=>?_⟩) h.ls
   .rw[IY.1 hx] at e ⊢
    exact .inl (h1.2 y hy e)
   .rw[IY.1 hs,h1.1] at e
    exact absurd e.symm aP
  .exact jC hr h hj hg [] [] rfl (same [] _) nil (λo _ _=>oK o) h.ls
 .have he:=z3 _ (ai hj aM)
  exact jC hr h hj hg [] [] rfl (same [] _) nil (λo _ _=>oK o) (add (mD he ht).2 rfl (λo ho=>yE he ht (h.ns o ho _ (ai hj aM))))
 .exact⟨h.ns,add (kA (z3 _ (ai hj aM))) rfl (λo ho=>h.ns o ho _ (ai hj aM))⟩
 .have hT:∀o∈t.ns,Told o p.ms p.sv:=λo ho=>h.ls o ho _ (ai hj Lt.dm) p BR
  have Bg:=ai eJ aM;refine jC hr h eJ hg p.ms p.sv rfl (λx hx aP=>?_) (λd hd hdn x hx e=>?_) (λo ho _=>hT o ho) (λo ho l hl=>h.ls o ho l (Jr hl))
  .rcases s9 p.ms _ x hx aP with h1|h1
   .exact⟨x,.inl h1,rfl,rfl⟩
   .exact⟨x,.inr h1,rfl,rfl⟩
  .obtain⟨y,hy,e1,h1⟩:=(hT _ Bg).sv d hd hdn
   have:=FT (Sv.aj (Nd.parts (Nd.aD (z3 _ Bg)).1).sv).2.1 hx hy (Sv.keyed.AH e1 (Sv.keyed.symm e));subst this;exact .inr h1
 .exact⟨h.ns,λo ho l hl=>h.ls o ho l (Jr hl)⟩
 .refine⟨h.ns,λo ho l hl=>h.ls o ho l ?_⟩
  rcases Jk.1 hl with h1|h1
  .exact h1
  .rw[IY.1 h1];exact ai hj Lt.dm
theorem yF{n:Nd}(he:n.e=0){r:bU}(hr:r∈n.rs):∃k∈n.ms,k.name=r.m.name:=by
 have h2:=(KH he).2 r hr;unfold fu at h2;split at h2
 .cases h2
 .rename_i k hk
  exact⟨k,dH hk⟩
theorem few{ms:List Mem}{S:List ByteArray}(hr:aT ms)(h:∀m∈ms,m.name∈S):ms.length<=S.length:=by
 have hn:(ms.map (·.name)).Nodup:=by
  rw[List.Nodup,QN];exact hr.imp (λ{a b} h e=>by rw[e,ep] at h;cases h)
 have:=hn.length_le_of_subset (l₂:=S) (λx hx=>by
  obtain⟨m,hm,rfl⟩:=JV.1 hx;exact h m hm)
 rwa [JJ] at this
theorem ajH{n:Nd}{S:List ByteArray}(he:n.e=0)(h:∀m∈n.ms,m.name∈S):n.rs.length<=S.length:=by
 have hd:=oI.1 (fI (KH he).1).2.2.2;have hn:((iv n.rs).map (·.name)).Nodup:=by
  rw[List.Nodup,QN];exact hd
 have:=hn.length_le_of_subset (l₂:=S) (λx hx=>by
  obtain⟨m,hm,rfl⟩:=JV.1 hx;obtain⟨r,hr,rfl⟩:=JV.1 hm;obtain⟨k,hk,e⟩:=yF he hr;rw[<- e];exact h k hk)
 rwa [JJ,kB] at this
theorem uy{n:Nd}{m x:Mem}(hx:x∈(jc n m).ms):x=m\/x∈n.ms\/∃y,(y=m\/y∈n.ms)/\y.name=n.name/\x=cJ y:=by
 have h1:(eH n m).ms=aN n.ms m:=by unfold eH;split<;>rfl
 have cY:=(kX n m).name;have out:∀{x},x∈(eH n m).ms->x=m\/x∈n.ms:=λ{x} h=>by rw[h1] at h;exact di _ _ _ h
 have t_o:∀{x},x∈(eH n m).ms->x=m\/x∈n.ms\/∃y,(y=m\/y∈n.ms)/\y.name=n.name/\x=cJ y:=λ{x} h=>(out h).imp id .inl;unfold jc at hx;split at hx
 .have h2:(sw (eH n m)).ms=nK (eH n m):=by unfold sw;split<;>rfl
  rw[h2] at hx;unfold nK rF at hx;split at hx
  .rename_i hR
   rcases Jq hx with h|rfl
   .exact t_o h
   .have hF:mY (eH n m)=true:=by
     unfold ia at hR;rw[IG,IG] at hR;exact hR.1.1
    unfold mY RY at hF;rw[IG,decide_eq_true_eq,decide_eq_true_eq] at hF;exact .inr (.inr ⟨_,out (ai hF.1 dm),((bL _ _).1 hF.2).trans cY,rfl⟩)
  .exact t_o hx
 .exact t_o hx
theorem Ae{n:Nd}{m:Mem}{B:Int}(h:∀x∈n.ms,x.name=n.name->x.aI<=B)(hm:m.name=n.name->m.aI<=B):∀x∈(jc n m).ms,x.name=n.name->x.aI<=B+1:=λx hx e=>by
 rcases uy hx with rfl|h1|⟨y,hy,e1,rfl⟩
 .have:=hm e;omega
 .have:=h x h1 e;omega
 .show y.aI+1<=B+1
  rcases hy with rfl|hy
  .have:=hm e1;omega
  .have:=h y hy e1;omega
theorem Pn:∀(l:List Mem) (n:Nd) (B:Int),(∀x∈n.ms,x.name=n.name->x.aI<=B)->(∀m∈l,m.name=n.name->m.aI<=B)->∀x∈(tv n l).ms,x.name=n.name->x.aI<=B+l.length
 |[],n,B,h,_,x,hx,e=>by have:=h x hx e;simpa using this
 |m::r,n,B,h,hl,x,hx,e=>by
  have en:=(dA n m).name;have:=Pn r (jc n m) (B+1) (λy hy ey=>Ae h (hl m (Jg ..)) y hy (by rw[en] at ey;exact ey)) (λy hy ey=>by
   rw[en] at ey;have:=hl y (Jl _ hy) ey;omega) x hx (by rw[en];exact e)
  rw[Iy];omega
structure Room(S:List ByteArray)(B:Int)(n:Nd):Prop where
 e:n.e=0
 nm:n.name∈S
 ms:∀m∈n.ms,m.name∈S
 own:∀m∈n.ms,m.name=n.name->m.aI<=B
theorem B1(rs:List bU)(m:Mem)(h:rs.length<=10):iN rs m=0/\(hZ rs m).length<=rs.length+1:=by
 have h1:(hZ rs m).length<=rs.length+1:=by
  unfold hZ;split
  .split
   .have:=Ur rs (Ax rs m.name)
    rw[Ii];simp only[Iy,List.length_nil];omega
   .omega
  .rw[Ii]
   simp
 exact⟨by unfold iN;rw[if_neg (by omega)],h1⟩
theorem To{S:List ByteArray}(hS:S.length<=6){B:Int}{n:Nd}{m:Mem}(h:Room S B n)(hm:m.e=0)(hmS:m.name∈S)(Mx:m.name=n.name->m.aI<=B)(hB:B<1000000):lR n m=0/\Room S (B+1) (jc n m):=by
 have hp:=Nd.parts (Nd.aD h.e).1;have hR:=ajH h.e h.ms;have hH:(aN n.ms m).length<=S.length:=few (fY _ _ (aj hp.ms).2.1) (λx hx=>by
  rcases di _ _ _ hx with rfl|h1
  .exact hmS
  .exact h.ms x h1)
 obtain⟨p1,p2⟩:=B1 n.rs m (by omega);have h1:jZ n m=0:=by
  have hj:aJ n.ms [m]=0:=by rw[xV hp.ms hm,if_neg (by omega)]
  unfold jZ;rw[if_pos hj,p1,ite_self]
 have gE:(eH n m).ms=aN n.ms m:=by unfold eH;split<;>rfl
 have pW:(eH n m).rs.length<=7:=by
  unfold eH;split
  .show(hZ n.rs m).length<=7;omega
  .show n.rs.length<=7;omega
 have h2:lR n m=0:=by
  unfold lR;rw[if_pos h1];split
  .unfold Ay
   have hz:jL (eH n m).ms (jf (eH n m)) (mY (eH n m))=0:=by
    unfold jL;rw[if_neg];intro hc;rw[IG,IG,beq_iff_eq] at hc;obtain⟨⟨hF,_⟩,hl⟩:=hc;unfold mY RY at hF;rw[IG,decide_eq_true_eq,decide_eq_true_eq] at hF;have hx:=ai hF.1 dm;have hn:=((bL _ _).1 hF.2).trans (kX n m).name;rw[gE] at hx
    have:((eH n m).ms.getD (jf (eH n m)) dm).aI<=B:=by
     rcases di _ _ _ (show(eH n m).ms.getD (jf (eH n m)) dm∈aN n.ms m by rw[<- gE];exact ai hF.1 dm) with h3|h3
     .rw[show((eH n m).ms.getD (jf (eH n m)) dm).aI=m.aI by rw[h3]]
      exact Mx (by rw[<- h3];exact hn)
     .exact h.own _ h3 hn
    omega
   rw[if_pos hz,(B1 (eH n m).rs (zc (eH n m)) (by omega)).1,ite_self]
  .rfl
 have en:=(dA n m).name;refine⟨h2,FL h.e hm h2,by rw[en];exact h.nm,λx hx=>?_,λx hx e=>Ae h.own Mx x hx (by rw[en] at e;exact e)⟩;rcases uy hx with rfl|h3|⟨y,_,e,rfl⟩
 .exact hmS
 .exact h.ms x h3
 .show y.name∈S
  rw[e];exact h.nm
theorem FV{S:List ByteArray}(hS:S.length<=6):∀(l:List Mem) (n:Nd) (B:Int),Room S B n->(∀m∈l,m.e=0/\m.name∈S/\(m.name=n.name->m.aI<=B))->B+l.length<=1000000->nj n l=0
 |[],_,_,_,_,_=>rfl
 |m::r,n,B,h,hl,hB=>by
  rw[Iy] at hB;obtain⟨a1,a2,a3⟩:=hl m (Jg ..);obtain⟨h1,h2⟩:=To hS h a1 a2 a3 (by omega);rw[nj,if_pos h1];refine FV hS r (jc n m) (B+1) h2 (λx hx=>?_) (by omega);obtain⟨b1,b2,b3⟩:=hl x (Jl _ hx);exact⟨b1,b2,λe=>by
   rw[(dA n m).name] at e;have:=b3 e;omega⟩
structure pU(k:Nat)(t:Nt):Prop where
 nW:pT t
 ns:∀x∈t.ns,∀m∈x.ms,m.name∈t.ns.map (·.name)
 ls:∀l∈t.ls,∀p,sx l.text.data.toList=AI p->∀m∈p.ms,m.name∈t.ns.map (·.name)
 own:∀o∈t.ns,∀m∈o.ms,m.name=o.name->m.aI<=1+20*(k:Int)
theorem pU.more{k:Nat}{t:Nt}(h:pU k t):pU (k+1) t:=⟨h.nW,h.ns,h.ls,λo ho m hm e=>by have:=h.own o ho m hm e;omega⟩
theorem KL{ns:List Nd}{j:Nat}{n':Nd}(hj:j<ns.length)(h:n'.name=(ns.getD j aM).name):(ns.set j n').map (·.name)=ns.map (·.name):=by
 rw[QZ,h];have e:(ns.getD j aM).name=(ns.map (·.name))[j]'(by simpa using hj):=by simp[Ir,Ic hj]
 rw[e,List.set_getElem_self]
theorem tf{k:Nat}{t t':Nt}(hr:bE t)(hg:wi t t')(h:pU k t)(hn:AE t t'):pU (k+1) t':=by
 have hT:=KK hr hg h.nW hn;obtain⟨z1,z2,z3,z4,z5⟩:=Nt.aD hr.e;have put:∀{j:Nat} {n':Nd} {ls:List Lt.fy},j<t.ns.length->n'.name=(t.ns.getD j aM).name->pT ⟨t.ns.set j n',ls⟩->(∀x∈n'.ms,x.name∈t.ns.map (·.name))->(∀x∈n'.ms,x.name=(t.ns.getD j aM).name->x.aI<=21+20*(k:Int))->(∀l∈ls,∀p,sx l.text.data.toList=AI p->∀m∈p.ms,m.name∈t.ns.map (·.name))->pU (k+1) ⟨t.ns.set j n',ls⟩:=λ{j n' ls} hj cY hT h1 h2 h3=>by
  have e:=KL hj cY;refine⟨hT,λx hx m hm=>?_,λl hl p hp m hm=>?_,λo ho m hm em=>?_⟩
  .show m.name∈(t.ns.set j n').map _
   rw[e];rcases Jq hx with h4|rfl
   .exact h.ns x h4 m hm
   .exact h1 m hm
  .show m.name∈(t.ns.set j n').map _
   rw[e];exact h3 l hl p hp m hm
  .rcases Jq ho with h4|rfl
   .have:=h.own o h4 m hm em;omega
   .have:=h2 m hm (em.trans cY);omega
 have nm:∀{j},j<t.ns.length->(t.ns.getD j aM).name∈t.ns.map (·.name):=λ{j} hj=>J0 (ai hj aM);have LV:∀{j},j<t.ns.length->∀x∈(t.ns.getD j aM).ms,x.name=(t.ns.getD j aM).name->x.aI<=21+20*(k:Int):=λ{j} hj x hx e=>by
  have:=h.own _ (ai hj aM) x hx e;omega
 have add:∀{x:Lt.fy} {p:Pk},p.e=0->x.text=p.T->(∀m∈p.ms,m.name∈t.ns.map (·.name))->∀l∈t.ls++[x],∀q,sx l.text.data.toList=AI q->∀m∈q.ms,m.name∈t.ns.map (·.name):=λ{x p} hp hx hT l hl q hq=>by
  rcases Jk.1 hl with h1|h1
  .exact h.ls l h1 q hq
  .rw[IY.1 h1,hx,iD hp] at hq
   rw[<- JI hq];exact hT
 have spp:∀{j:Nat} {m:Mem},j<t.ns.length->m.name∈t.ns.map (·.name)->∀x∈(jc (t.ns.getD j aM) m).ms,x.name∈t.ns.map (·.name):=λ{j m} hj hm x hx=>by
  rcases uy hx with rfl|h3|⟨y,_,e,rfl⟩
  .exact hm
  .exact h.ns _ (ai hj aM) x h3
  .show y.name∈_
   rw[e];exact nm hj
 rcases hn with⟨j,n',hj,hb,rfl⟩|⟨j,q,l,rest,hj,eJ,h20,ht,rfl⟩|⟨j,q,hj,eJ,h20,rfl⟩|⟨j,q,p,hj,eJ,BR,hh,rfl⟩|⟨j,rfl⟩|⟨j,hj,h20,rfl⟩
 .have he:=z3 _ (ai hj aM)
  have yP:=h.ns _ (ai hj aM);have hjo:=h.own _ (ai hj aM);rcases hb with⟨a,b,c,hb,_,h0,rfl⟩|⟨h0,rfl⟩|⟨a,p,r,h0,rfl⟩|⟨d,h1,h0,rfl⟩|⟨d,_,h0,rfl⟩
  .have adU:(bX (t.ns.getD j aM).ms a).isSome=true:=by
    unfold tT at h0;split at h0
    .split at h0
     .assumption
     .cases h0
    .cases h0
   obtain⟨m1,m2⟩:=iQ adU;exact put hj (dA _ _).name hT (spp (m:={ eR (t.ns.getD j aM).ms a with state:=c }) hj (show(eR (t.ns.getD j aM).ms a).name∈_ from yP _ m1)) (λx hx e=>by
    have:=Ae (m:={ eR (t.ns.getD j aM).ms a with state:=c }) (B:=1+20*(k:Int)) hjo (λe=>show(eR (t.ns.getD j aM).ms a).aI<=_ from hjo _ m1 e) x hx e;omega) h.ls
  .obtain⟨m,hm,_⟩:=Nd.gH (Nd.aD he).2
   obtain⟨m1,m2⟩:=iQ (t:=(t.ns.getD j aM).name) (by rw[hm];rfl);exact put hj (dA _ _).name hT (spp hj (by show(eR (t.ns.getD j aM).ms (t.ns.getD j aM).name).name∈_;rw[m2];exact nm hj)) (λx hx e=>by
    have:=Ae (B:=2+20*(k:Int)) (λy hy e=>by have:=hjo y hy e;omega) (λ_=>by
     have:=hjo _ m1 m2;show(eR (t.ns.getD j aM).ms (t.ns.getD j aM).name).aI+1<=_;omega) x hx e
    omega) h.ls
  .exact put hj rfl hT yP (LV hj) h.ls
  .exact put hj rfl hT yP (LV hj) h.ls
  .exact put hj rfl hT yP (LV hj) h.ls
 .have he:=z3 _ (ai hj aM)
  refine put hj rfl hT (h.ns (t.ns.getD j aM) (ai hj aM)) (LV hj) (add (mD he ht).2 rfl (λm hm=>?_));obtain⟨told,CO,LU,_⟩:=ht;have h1:=LU.mem_iff.1 hm;rcases CO with⟨_,rfl,_⟩|⟨_,ord,ho,rfl,_⟩
  .cases h1
  .obtain⟨r,hr,rfl⟩:=mA ho h1
   obtain⟨y,hy,e⟩:=yF he hr;rw[<- e];exact h.ns _ (ai hj aM) y hy
 .exact⟨hT,h.ns,add (kA (z3 _ (ai hj aM))) rfl (h.ns _ (ai hj aM)),λo ho m hm e=>by have:=h.own o ho m hm e;omega⟩
 .have Re:=pO (lh.1 BR).2
  have hll:=h.ls _ (ai hj Lt.dm) p BR;have hTT:=h.nW.ls _ (ai eJ aM) _ (ai hj Lt.dm) p BR;have he:=z3 _ (ai eJ aM);refine put eJ (np _ _).name hT (λx hx=>?_) (λx hx e=>?_) (λl hl=>h.ls l (Jr hl))
  .by_cases aP:x.name=(t.ns.getD q aM).name
   .rw[aP];exact nm eJ
   .rcases s9 p.ms _ x hx aP with h1|h1
    .exact hll x h1
    .exact h.ns _ (ai eJ aM) x h1
  .have:=Pn p.ms _ (1+20*(k:Int)) (h.own _ (ai eJ aM)) (λm hm e=>by
    obtain⟨me,Bn,_⟩:=Nd.gH (Nd.aD he).2;have h1:=iQ (t:=(t.ns.getD q aM).name) (by rw[Bn];rfl);exact Int.le_trans (hTT.ms m hm e) (h.own _ (ai eJ aM) _ h1.1 h1.2)) x hx e
   have:=Re.2.1;omega
 .exact⟨hT,h.ns,λl hl=>h.ls l (Jr hl),λo ho m hm e=>by have:=h.own o ho m hm e;omega⟩
 .refine⟨hT,h.ns,λl hl=>h.ls l ?_,λo ho m hm e=>by have:=h.own o ho m hm e;omega⟩
  rcases Jk.1 hl with h1|h1
  .exact h1
  .rw[IY.1 h1];exact ai hj Lt.dm
end Go.Proofs.YtbfghimjdlpicaaGreatDoor
namespace Go.Proofs.YtbfghimjdlpicaaGreatDoor
section
variable {α:Type} {o:α→α→Int} {nw:α→α→Bool}
def Sub(o:α->α->Int)(nw:α->α->Bool)(a b:List α):Prop:=RL.join o nw b a=b
theorem Sub.refl{a:List α}(ha:RL.aT o a)(hk:RL.Keyed o)(hn:RL.eQ o nw):Sub o nw a a:=RL.nZ o nw hk hn ha (b:=[]) List.Pairwise.nil
theorem wv{a b:List α}(hk:RL.Keyed o)(hn:RL.eQ o nw)(ha:RL.aT o a)(hb:RL.aT o b):Sub o nw a (RL.join o nw a b):=RL.nZ o nw hk hn ha hb
theorem tg{a b:List α}(hk:RL.Keyed o)(hn:RL.eQ o nw)(ha:RL.aT o a)(hb:RL.aT o b):Sub o nw b (RL.join o nw a b):=by
 rw[RL.join_comm o nw hk hn ha hb];exact RL.nZ o nw hk hn hb ha
theorem Sub.trans{a b c:List α}(h1:Sub o nw a b)(h2:Sub o nw b c)(hk:RL.Keyed o)(hn:RL.eQ o nw)(ha:RL.aT o a)(hb:RL.aT o b)(hc:RL.aT o c):Sub o nw a c:=by
 have h:=RL.join_assoc o nw hk hn hc hb ha;unfold Sub at h1 h2 ⊢;rw[h1,h2] at h;exact h
theorem oM{a b c:List α}(h1:Sub o nw a c)(h2:Sub o nw b c)(hk:RL.Keyed o)(hn:RL.eQ o nw)(ha:RL.aT o a)(hb:RL.aT o b)(hc:RL.aT o c):Sub o nw (RL.join o nw a b) c:=by
 have h:=RL.join_assoc o nw hk hn hc ha hb;unfold Sub at h1 h2 ⊢;rw[<- h,h1,h2]
theorem Sub.adV{a b:List α}(h1:Sub o nw a b)(h2:Sub o nw b a)(hk:RL.Keyed o)(hn:RL.eQ o nw)(ha:RL.aT o a)(hb:RL.aT o b):a=b:=by
 have h:=RL.join_comm o nw hk hn ha hb;unfold Sub at h1 h2;rw[h1,h2] at h;exact h
theorem pV:∀(b a:List α),a.length<=(RL.join o nw a b).length
 |[],_=>Nat.le_refl _
 |m::r,a=>Nat.le_trans (RL.ri o nw a m).1 (pV r _)
theorem Sub.len{a b:List α}(h:Sub o nw a b)(hk:RL.Keyed o)(hn:RL.eQ o nw)(ha:RL.aT o a)(hb:RL.aT o b):a.length<=b.length:=by
 have h1:=pV (o:=o) (nw:=nw) b a;have h2:=RL.join_comm o nw hk hn ha hb;unfold Sub at h;rw[h2,h] at h1;exact h1
theorem wy(hk:RL.Keyed o)(hn:RL.eQ o nw):∀(l:List (List α)) (acc:List α),RL.aT o acc->(∀x∈l,RL.aT o x)->RL.aT o (l.foldl (RL.join o nw) acc)/\Sub o nw acc (l.foldl (RL.join o nw) acc)/\(∀x∈l,Sub o nw x (l.foldl (RL.join o nw) acc))/\∀c,RL.aT o c->Sub o nw acc c->(∀x∈l,Sub o nw x c)->Sub o nw (l.foldl (RL.join o nw) acc) c
 |[],acc,ha,_=>⟨ha,Sub.refl ha hk hn,λx hx=>(by cases hx),λ_ _ h _=>h⟩
 |y::r,acc,ha,hl=>by
  have hy:=hl y (Jg ..);have hj:=RL.cT o nw hk y acc ha;obtain⟨h1,h2,h3,h4⟩:=wy hk hn r (RL.join o nw acc y) hj (λx hx=>hl x (Jl _ hx));refine⟨h1,(wv hk hn ha hy).trans h2 hk hn ha hj h1,λx hx=>?_,λc hc h5 h6=>h4 c hc (oM h5 (h6 y (Jg ..)) hk hn ha hy hc) (λx hx=>h6 x (Jl _ hx))⟩;rcases IN.1 hx with rfl|hx
  .exact(tg hk hn ha hy).trans h2 hk hn hy hj h1
  .exact h3 x hx
end
end Go.Proofs.YtbfghimjdlpicaaGreatDoor
namespace Go.Proofs.YtbfghimjdlpicaaGreatDoor
open Go.RowKit
theorem KM{a b:Mem}(h1:dn a b=false)(h2:dn b a=false)(hn:a.name=b.name):a=b:=by
 have g1:¬ dn a b=true:=by rw[h1];decide
 have g2:¬ dn b a=true:=by rw[h2];decide
 rw[lO] at g1 g2;obtain⟨n1,s1,l1,a1,v1⟩:=a;obtain⟨n2,s2,l2,a2,v2⟩:=b;simp only at g1 g2 hn;have e1:l1=l2:=by omega
 have e2:s1=s2:=by omega
 have e3:a1=a2:=by omega
 subst e1 e2 e3 hn;cases v1<;>cases v2<;>simp at g1 g2<;>rfl
theorem FW{n:Nd}{m u:Mem}(hc:bp n.ms=0)(hu:bX n.ms n.name=AI u)(h2:u.state≠2)(h3:u.state≠3)(hm:m.name=n.name->dn m u=false):bX (jc n m).ms n.name=AI u:=by
 have hr:=(aj hc).2.1;have gE:(eH n m).ms=aN n.ms m:=by unfold eH;split<;>rfl
 by_cases e:m.name=n.name
 .have hg:mX n.ms m=false:=by unfold mX;rw[e,hu];exact hm e
  rw[Wq hr hg] at gE;have cY:=(kX n m).name;have hR:ia (eH n m).ms (jf (eH n m)) (mY (eH n m))=false:=by
   unfold jf mY;rw[gE,cY];have hf:=CW hr (sI hr n.name);rw[hu] at hf;split at hf
   .injection hf with hf
    unfold ia;rw[<- hf,decide_eq_false h2,decide_eq_false h3];simp
   .cases hf
  have hf:(sw (eH n m)).ms=n.ms:=by
   have:nK (eH n m)=n.ms:=by unfold nK rF;rw[if_neg (by rw[hR];decide),gE]
   unfold sw;rw[if_neg (by rw[hR];decide)];exact this
  unfold jc;rw[if_pos e,hf];exact hu
 .unfold jc
  rw[if_neg e,gE,lI m _ e];exact hu
theorem FX:∀(l:List Mem) (n:Nd) (u:Mem),Sp n->(∀m∈l,m.e=0)->nj n l=0->bX n.ms n.name=AI u->u.state≠2->u.state≠3->(∀m∈l,m.name=n.name->dn m u=false)->bX (tv n l).ms n.name=AI u
 |[],_,_,_,_,_,hu,_,_,_=>hu
 |m::r,n,u,hs,hl,h0,hu,h2,h3,hm=>by
  have h1:lR n m=0/\nj (jc n m) r=0:=by
   rw[nj] at h0;split at h0
   .rename_i h1;exact⟨h1,h0⟩
   .rename_i h1;exact absurd h0 h1
  have en:=(dA n m).name;have hk:=FW hs.ms hu h2 h3 (hm m (Jg ..));have:=FX r (jc n m) u (yb hs (hl m (Jg ..)) h1.1) (λx hx=>hl x (Jl _ hx)) h1.2 (by rw[en];exact hk) h2 h3 (λx hx e=>hm x (Jl _ hx) (by rw[en] at e;exact e));rw[en] at this;exact this
structure LW(a b:Nd):Prop where
 ms:Le a.ms b.ms
 sv:Sub Sv.ord Sv.bF a.sv b.sv
 gw:Sub Gw.ord Gw.bF a.gw b.gw
theorem bZ{n:Nd}(he:n.e=0):aT n.ms/\Sv.aT n.sv/\Gw.aT n.gw:=by
 have hp:=Nd.parts (Nd.aD he).1;exact⟨(aj hp.ms).2.1,(Sv.aj hp.sv).2.1,(Gw.aj hp.gw).2.1⟩
theorem LW.refl{n:Nd}(he:n.e=0):LW n n:=⟨Le.refl _,Sub.refl (bZ he).2.1 Sv.keyed Sv.cR,Sub.refl (bZ he).2.2 Gw.keyed Gw.cR⟩
theorem LW.trans{a b c:Nd}(h1:LW a b)(h2:LW b c)(ha:a.e=0)(hb:b.e=0)(hc:c.e=0):LW a c:=
 ⟨h1.ms.trans h2.ms,h1.sv.trans h2.sv Sv.keyed Sv.cR (bZ ha).2.1 (bZ hb).2.1 (bZ hc).2.1,h1.gw.trans h2.gw Gw.keyed Gw.cR (bZ ha).2.2 (bZ hb).2.2 (bZ hc).2.2⟩
theorem Ei{a b:Nd}(ha:a.e=0)(hb:b.e=0)(h0:nr b (bJ a)=0):LW b (ox b (bJ a))/\LW a (ox b (bJ a)):=by
 obtain⟨h1,h2,h3,h4⟩:=mC h0;have hp:=Nd.parts (Nd.aD hb).1;have hs:Sp b:=⟨hp.ms,hp.rs,hp.name⟩;obtain⟨pm,_⟩:=pO h1;obtain⟨ra,sa,ga⟩:=bZ ha;obtain⟨rb,sb,gb⟩:=bZ hb;refine⟨⟨FN _ b hs pm h2,wv Sv.keyed Sv.cR sb sa,wv Gw.keyed Gw.cR gb ga⟩,⟨λt k hk=>?_,tg Sv.keyed Sv.cR sb sa,tg Gw.keyed Gw.cR gb ga⟩⟩;obtain⟨k1,rfl⟩:=dH hk;exact BV _ b hs pm h2 k k1
def own(t:Nt)(k:Nat):Mem:=eR (t.ns.getD k aM).ms (t.ns.getD k aM).name
theorem lr{t:Nt}(hr:bE t){k:Nat}(hk:k<t.ns.length):bX (t.ns.getD k aM).ms (t.ns.getD k aM).name=AI (own t k)/\(own t k).state≠2/\(own t k).state≠3:=by
 obtain⟨m,hm,h2,h3,_⟩:=Nd.gH (Nd.aD ((Nt.aD hr.e).2.2.1 _ (ai hk aM))).2
 have:own t k=m:=ff hm
 rw[this];exact⟨hm,h2,h3⟩
def Top(t:Nt):Prop:=∀i k,i<t.ns.length->k<t.ns.length->∀m∈(t.ns.getD i aM).ms,m.name=(t.ns.getD k aM).name->dn m (own t k)=false
def rf(t:Nt)(i k:Nat):Nt:=⟨t.ns.set k (ox (t.ns.getD k aM) (bJ (t.ns.getD i aM))),[]⟩
theorem gA(t:Nt){i k:Nat}(hk:k<t.ns.length)(j:Nat):(rf t i k).ns.getD j aM=if j=k then ox (t.ns.getD k aM) (bJ (t.ns.getD i aM)) else t.ns.getD j aM:=oJ _ _ _ _ _ hk
theorem fa(t:Nt)(i k:Nat):(rf t i k).ns.length=t.ns.length:=IS
theorem Tp{t:Nt}(hr:bE t)(hT:Top t){i k:Nat}(hi:i<t.ns.length)(hk:k<t.ns.length)(h0:nr (t.ns.getD k aM) (bJ (t.ns.getD i aM))=0):Top (rf t i k)/\∀j,j<t.ns.length->own (rf t i k) j=own t j:=by
 obtain⟨_,_,z3,z4,_⟩:=Nt.aD hr.e;obtain⟨h1,h2,h3,h4⟩:=mC h0;have hp:=Nd.parts (Nd.aD (z3 _ (ai hk aM))).1;obtain⟨pm,_⟩:=pO h1;obtain⟨o1,o2,o3⟩:=lr hr hk;have VL:bX (ox (t.ns.getD k aM) (bJ (t.ns.getD i aM))).ms (t.ns.getD k aM).name=AI (own t k):=FX _ _ _ ⟨hp.ms,hp.rs,hp.name⟩ pm h2 o1 o2 o3 (λm hm e=>hT i k hi hk m hm e);have cY:(ox (t.ns.getD k aM) (bJ (t.ns.getD i aM))).name=(t.ns.getD k aM).name:=(np _ _).name;have hown:∀j,j<t.ns.length->own (rf t i k) j=own t j:=λj hj=>by
  unfold own;rw[gA t hk];split
  .rename_i e
   subst e;rw[cY,ff VL];rfl
  .rfl
 refine⟨λa b ha hb m hm e=>?_,hown⟩;rw[fa] at ha hb;rw[hown b hb];have hen:((rf t i k).ns.getD b aM).name=(t.ns.getD b aM).name:=by
  rw[gA t hk];split
  .rename_i e;rw[e];exact cY
  .rfl
 rw[hen] at e;rw[gA t hk] at hm;split at hm
 .rename_i ea
  subst ea;by_cases aP:m.name=(t.ns.getD a aM).name
  .have xl:b=a:=by
    apply Js;intro xl;exact oL z4 xl hb hk (e.symm.trans aP)
   subst xl;have hc:=mC h0;have Pm:aT (ox (t.ns.getD b aM) (bJ (t.ns.getD i aM))).ms:=(aj (M0 _ _ ⟨hp.ms,hp.rs,hp.name⟩ pm h2).ms).2.1;have:=gT Pm hm;rw[aP,VL] at this;rw[<- JI this];exact eL _
  .rcases s9 _ _ m hm aP with h5|h5
   .exact hT i b hi hb m h5 e
   .exact hT a b hk hb m h5 e
 .exact hT a b ha hb m hm e
theorem adW{t:Nt}{i k:Nat}(Cw:bE (rf t i k))(hk:k<t.ns.length):(ox (t.ns.getD k aM) (bJ (t.ns.getD i aM))).e=0:=by
 have:=(Nt.aD Cw.e).2.2.1 _ (ai (show k<(rf t i k).ns.length by rw[fa];exact hk) aM)
 rwa [gA t hk,if_pos rfl] at this
theorem jR{t:Nt}{i k:Nat}(hk:k<t.ns.length)(j:Nat):((rf t i k).ns.getD j aM).name=(t.ns.getD j aM).name:=by
 rw[gA t hk];split
 .rename_i e;rw[e];exact(np _ _).name
 .rfl
theorem Po{t:Nt}{i k:Nat}(hr:bE t)(Cw:bE (rf t i k))(hi:i<t.ns.length)(hk:k<t.ns.length)(h0:nr (t.ns.getD k aM) (bJ (t.ns.getD i aM))=0)(b:Nat):dn (own t b) (own (rf t i k) b)=false:=by
 by_cases e:b=k
 .subst e
  obtain⟨z1,_,z3,_,_⟩:=Nt.aD hr.e;have hc:=(Ei (z3 _ (ai hi aM)) (z3 _ (ai hk aM)) h0).1.ms;obtain⟨y,hy,hn⟩:=hc _ _ (lr hr hk).1;have h2:=(lr Cw (k:=b) (by rw[fa];exact hk)).1;rw[jR hk,gA t hk,if_pos rfl,hy] at h2;rw[<- JI h2];exact hn
 .have:own (rf t i k) b=own t b:=by unfold own;rw[gA t hk,if_neg e]
  rw[this];exact eL _
structure Tq(t0:Nt)(A:List Sv.aV)(G:List Gw.bN)(D:Nat->Nat->Prop)(t:Nt):Prop where
 right:bE t
 len:t.ns.length=t0.ns.length
 nm:∀j,(t.ns.getD j aM).name=(t0.ns.getD j aM).name
 XX:∀i k,i<t.ns.length->k<t.ns.length->∀m∈(t.ns.getD i aM).ms,m.name=(t.ns.getD k aM).name->(∃j,j<t.ns.length/\∃u∈(t0.ns.getD j aM).ms,u.name=m.name/\dn m u=false)\/dn m (own t k)=false
 base:∀k,k<t.ns.length->LW (t0.ns.getD k aM) (t.ns.getD k aM)
 cov:∀j k,j<t.ns.length->k<t.ns.length->D j k->LW (t0.ns.getD j aM) (t.ns.getD k aM)
 up:∀k,k<t.ns.length->Sub Sv.ord Sv.bF (t.ns.getD k aM).sv A/\Sub Gw.ord Gw.bF (t.ns.getD k aM).gw G
theorem Tr{t0 t:Nt}{A:List Sv.aV}{G:List Gw.bN}{D:Nat->Nat->Prop}(Ej:bE t0)(hA:Sv.aT A)(hG:Gw.aT G)(h:Tq t0 A G D t){i k:Nat}(hi:i<t.ns.length)(hk:k<t.ns.length)(h0:nr (t.ns.getD k aM) (bJ (t.ns.getD i aM))=0)(Cw:bE (rf t i k)):Tq t0 A G (λa b=>D a b\/(a=i/\b=k)) (rf t i k):=by
 obtain⟨_,_,z3,z4,_⟩:=Nt.aD h.right.e;have y3:=(Nt.aD Ej.e).2.2.1;have ei:=z3 _ (ai hi aM);have ek:=z3 _ (ai hk aM);have ek':=adW Cw hk;obtain⟨c1,c2⟩:=Ei ei ek h0;have e0:∀{j},j<t.ns.length->(t0.ns.getD j aM).e=0:=λ{j} hj=>y3 _ (ai (by rw[<- h.len];exact hj) aM);have Pp:∀{a b:Nat},a<t.ns.length->b<t.ns.length->∀m∈(t.ns.getD a aM).ms,m.name=(t.ns.getD b aM).name->(∃j,j<t.ns.length/\∃u∈(t0.ns.getD j aM).ms,u.name=m.name/\dn m u=false)\/dn m (own (rf t i k) b)=false:=λ{a b} ha hb m hm e=>(h.XX a b ha hb m hm e).imp id (λhn=>pj hn (Po h.right Cw hi hk h0 b));refine⟨Cw,(fa t i k).trans h.len,λj=>(jR hk j).trans (h.nm j),λa b ha hb m hm e=>?_,λb hb=>?_,λa b ha hb hD=>?_,λb hb=>?_⟩
 .rw[fa] at ha hb ⊢
  rw[jR hk] at e;rw[gA t hk] at hm;split at hm
  .rename_i ea
   subst ea;by_cases aP:m.name=(t.ns.getD a aM).name
   .have xl:b=a:=by
     apply Js;intro xl;exact oL z4 xl hb hk (e.symm.trans aP)
    subst xl;right;have h1:=gT (bZ ek').1 hm;have h2:=(lr Cw (k:=b) (by rw[fa];exact hk)).1;rw[jR hk,gA t hk,if_pos rfl,<- aP,h1] at h2;rw[<- JI h2];exact eL _
   .rcases s9 _ _ m hm aP with h5|h5
    .exact Pp hi hb m h5 e
    .exact Pp hk hb m h5 e
  .exact Pp ha hb m hm e
 .rw[fa] at hb
  rw[gA t hk];split
  .rename_i e;subst e
   exact(h.base b hb).trans c1 (e0 hb) ek ek'
  .exact h.base b hb
 .rw[fa] at ha hb
  rw[gA t hk];split
  .rename_i e;subst e
   rcases hD with hD|⟨rfl,_⟩
   .exact(h.cov a b ha hb hD).trans c1 (e0 ha) ek ek'
   .exact(h.base a ha).trans c2 (e0 ha) ei ek'
  .rename_i e
   rcases hD with hD|⟨_,e2⟩
   .exact h.cov a b ha hb hD
   .exact absurd e2 e
 .rw[fa] at hb
  rw[gA t hk];split
  .obtain⟨u1,u2⟩:=h.up k hk
   obtain⟨v1,v2⟩:=h.up i hi;exact⟨oM u1 v1 Sv.keyed Sv.cR (bZ ek).2.1 (bZ ei).2.1 hA,oM u2 v2 Gw.keyed Gw.cR (bZ ek).2.2 (bZ ei).2.2 hG⟩
  .exact h.up b hb
theorem Ts{t0 t:Nt}{A:List Sv.aV}{G:List Gw.bN}{D:Nat->Nat->Prop}(Ej:bE t0)(h:Tq t0 A G D t)(hD:∀j k,j<t.ns.length->k<t.ns.length->D j k):Top t:=λi k hi hk m hm e=>by
 rcases h.XX i k hi hk m hm e with⟨j,hj,u,hu,e2,hn⟩|hn
 .have hc:=(h.cov j k hj hk (hD j k hj hk)).ms
  obtain⟨y,hy,XS⟩:=hc _ _ (gT (bZ ((Nt.aD Ej.e).2.2.1 _ (ai (by rw[<- h.len];exact hj) aM))).1 hu);rw[e2,e,(lr h.right hk).1] at hy;rw[JI hy];exact pj hn XS
 .exact hn
def lu(t:Nt):List Sv.aV:=(t.ns.map (·.sv)).foldl (RL.join Sv.ord Sv.bF) []
def nH(t:Nt):List Gw.bN:=(t.ns.map (·.gw)).foldl (RL.join Gw.ord Gw.bF) []
theorem kJ{t:Nt}(hr:bE t):(Sv.aT (lu t)/\(∀x∈t.ns,Sub Sv.ord Sv.bF x.sv (lu t))/\∀c,Sv.aT c->(∀x∈t.ns,Sub Sv.ord Sv.bF x.sv c)->Sub Sv.ord Sv.bF (lu t) c)/\(Gw.aT (nH t)/\(∀x∈t.ns,Sub Gw.ord Gw.bF x.gw (nH t))/\∀c,Gw.aT c->(∀x∈t.ns,Sub Gw.ord Gw.bF x.gw c)->Sub Gw.ord Gw.bF (nH t) c):=by
 have z3:=(Nt.aD hr.e).2.2.1;obtain⟨a1,_,a3,a4⟩:=wy Sv.keyed Sv.cR (t.ns.map (·.sv)) [] List.Pairwise.nil (λx hx=>by
  obtain⟨n,hn,rfl⟩:=JV.1 hx;exact(bZ (z3 n hn)).2.1)
 obtain⟨b1,_,b3,b4⟩:=wy Gw.keyed Gw.cR (t.ns.map (·.gw)) [] List.Pairwise.nil (λx hx=>by
  obtain⟨n,hn,rfl⟩:=JV.1 hx;exact(bZ (z3 n hn)).2.2)
 refine⟨⟨a1,λx hx=>a3 _ (J0 hx),λc hc h=>a4 c hc rfl (λx hx=>?_)⟩,⟨b1,λx hx=>b3 _ (J0 hx),λc hc h=>b4 c hc rfl (λx hx=>?_)⟩⟩
 .obtain⟨n,hn,rfl⟩:=JV.1 hx;exact h n hn
 .obtain⟨n,hn,rfl⟩:=JV.1 hx;exact h n hn
theorem KN{t0:Nt}(hr:bE t0):Tq t0 (lu t0) (nH t0) (λ_ _=>False) t0:=by
 obtain⟨f1,f2⟩:=kJ hr;have z3:=(Nt.aD hr.e).2.2.1;exact⟨hr,rfl,λ_=>rfl,λi k hi _ m hm _=>.inl ⟨i,hi,m,hm,rfl,eL m⟩,λk hk=>LW.refl (z3 _ (ai hk aM)),λ_ _ _ _ h=>h.elim,λk hk=>⟨f1.2.1 _ (ai hk aM),f2.2.1 _ (ai hk aM)⟩⟩
theorem Tt{t0 t:Nt}{D:Nat->Nat->Prop}(Ej:bE t0)(h:Tq t0 (lu t0) (nH t0) D t)(hD:∀j k,j<t.ns.length->k<t.ns.length->D j k){k:Nat}(hk:k<t.ns.length):(t.ns.getD k aM).sv=lu t0/\(t.ns.getD k aM).gw=nH t0:=by
 obtain⟨f1,f2⟩:=kJ Ej;have ek:=(Nt.aD h.right.e).2.2.1 _ (ai hk aM);have ki:∀x∈t0.ns,LW x (t.ns.getD k aM):=λx hx=>by
  obtain⟨j,hj,rfl⟩:=IT hx;have:=h.cov j k (by rw[h.len];exact hj) hk (hD j k (by rw[h.len];exact hj) hk)
  rwa [RL.gD aM hj] at this
 exact⟨(h.up k hk).1.adV (f1.2.2 _ (bZ ek).2.1 (λx hx=>(ki x hx).sv)) Sv.keyed Sv.cR (bZ ek).2.1 f1.1,(h.up k hk).2.adV (f2.2.2 _ (bZ ek).2.2 (λx hx=>(ki x hx).gw)) Gw.keyed Gw.cR (bZ ek).2.2 f2.1⟩
structure Fin(A:List Sv.aV)(G:List Gw.bN)(D:Nat->Nat->Prop)(t:Nt):Prop where
 right:bE t
 top:Top t
 uz:∀j k,j<t.ns.length->k<t.ns.length->D j k->bX (t.ns.getD k aM).ms (t.ns.getD j aM).name=AI (own t j)
 all:∀k,k<t.ns.length->(t.ns.getD k aM).sv=A/\(t.ns.getD k aM).gw=G
theorem FY{t:Nt}{A:List Sv.aV}{G:List Gw.bN}{D:Nat->Nat->Prop}(h:Fin A G D t){i k:Nat}(hi:i<t.ns.length)(hk:k<t.ns.length)(h0:nr (t.ns.getD k aM) (bJ (t.ns.getD i aM))=0)(Cw:bE (rf t i k)):Fin A G (λa b=>D a b\/(a=i/\b=k)) (rf t i k)/\∀j,j<t.ns.length->own (rf t i k) j=own t j:=by
 obtain⟨hT,hO⟩:=Tp h.right h.top hi hk h0;have z3:=(Nt.aD h.right.e).2.2.1;have ei:=z3 _ (ai hi aM);have ek:=z3 _ (ai hk aM);obtain⟨c1,c2⟩:=Ei ei ek h0;have same:∀{a:Nat},a<t.ns.length->∀{y:Mem},bX (ox (t.ns.getD k aM) (bJ (t.ns.getD i aM))).ms (t.ns.getD a aM).name=AI y->dn (own t a) y=false->y=own t a:=λ{a} ha {y} hy hn=>by
  obtain⟨m1,m2⟩:=dH hy;have:=hT k a (by rw[fa];exact hk) (by rw[fa];exact ha) y (by rw[gA t hk,if_pos rfl];exact m1) (by rw[jR hk];exact m2);rw[hO a ha] at this;exact KM this hn (m2.trans (dH (lr h.right ha).1).2.symm)
 refine⟨⟨Cw,hT,λa b ha hb hD=>?_,λb hb=>?_⟩,hO⟩
 .rw[fa] at ha hb
  rw[jR hk,hO a ha,gA t hk];split
  .rename_i e;subst e
   rcases hD with hD|⟨rfl,_⟩
   .obtain⟨y,hy,hn⟩:=c1.ms _ _ (h.uz a b ha hb hD)
    rw[hy,same ha hy hn]
   .obtain⟨y,hy,hn⟩:=c2.ms _ _ (lr h.right ha).1
    rw[hy,same ha hy hn]
  .rename_i e
   rcases hD with hD|⟨_,e2⟩
   .exact h.uz a b ha hb hD
   .exact absurd e2 e
 .rw[fa] at hb
  rw[gA t hk];split
  .obtain⟨u1,u2⟩:=h.all k hk
   obtain⟨v1,v2⟩:=h.all i hi;refine⟨?_,?_⟩
   .show Sv.aB (t.ns.getD k aM).sv (t.ns.getD i aM).sv=A
    rw[v1,<- u1];exact Sub.refl (bZ ek).2.1 Sv.keyed Sv.cR
   .show Gw.aB (t.ns.getD k aM).gw (t.ns.getD i aM).gw=G
    rw[v2,<- u2];exact Sub.refl (bZ ek).2.2 Gw.keyed Gw.cR
  .exact h.all b hb
theorem Pr{t:Nt}{A:List Sv.aV}{G:List Gw.bN}{D:Nat->Nat->Prop}(h:Fin A G D t)(hD:∀j k,j<t.ns.length->k<t.ns.length->D j k)(hN:∀x∈t.ns,∀m∈x.ms,m.name∈t.ns.map (·.name)){a b:Nat}(ha:a<t.ns.length)(hb:b<t.ns.length):(t.ns.getD a aM).ms=(t.ns.getD b aM).ms:=by
 have z3:=(Nt.aD h.right.e).2.2.1;have sub:∀{a b:Nat},a<t.ns.length->b<t.ns.length->∀m∈(t.ns.getD a aM).ms,m∈(t.ns.getD b aM).ms:=λ{a b} ha hb m hm=>by
  obtain⟨n,hn,e⟩:=JV.1 (hN _ (ai ha aM) m hm);obtain⟨j,hj,rfl⟩:=IT hn;have h1:=h.uz j a hj ha (hD j a hj ha);have h2:=h.uz j b hj hb (hD j b hj hb);rw[RL.gD aM hj,e] at h1 h2;rw[gT (bZ (z3 _ (ai ha aM))).1 hm] at h1;rw[JI h1];exact(dH h2).1
 have nod:∀{a:Nat},a<t.ns.length->(t.ns.getD a aM).ms.Nodup:=λ{a} ha=>(bZ (z3 _ (ai ha aM))).1.imp (λ{x y} h e=>by rw[e,ep] at h;cases h);exact yu (bZ (z3 _ (ai ha aM))).1 (bZ (z3 _ (ai hb aM))).1 ((List.perm_ext_iff_of_nodup (nod ha) (nod hb)).2 λm=>⟨sub ha hb m,sub hb ha m⟩)
theorem Ps{q:Nat}{t:Nt}{i k:Nat}{A:List Sv.aV}{G:List Gw.bN}(hr:bE t)(h:pU q t)(hq:q<=1000)(hi:i<t.ns.length)(hk:k<t.ns.length)(hA:Sv.aT A)(aqK:A.length<=40)(hG:Gw.aT G)(hG6:G.length<=6)(hup:∀k,k<t.ns.length->Sub Sv.ord Sv.bF (t.ns.getD k aM).sv A/\Sub Gw.ord Gw.bF (t.ns.getD k aM).gw G):nr (t.ns.getD k aM) (bJ (t.ns.getD i aM))=0:=by
 obtain⟨z1,_,z3,_,_⟩:=Nt.aD hr.e;have ei:=z3 _ (ai hi aM);have ek:=z3 _ (ai hk aM);have hp:=kA ei;have LU:=pO hp;have pi:=Nd.parts (Nd.aD ei).1;have pk:=Nd.parts (Nd.aD ek).1;have hown:(eR (t.ns.getD k aM).ms (t.ns.getD k aM).name).aI<=1+20*(q:Int):=by
  obtain⟨me,Bn,_⟩:=Nd.gH (Nd.aD ek).2;have h1:=iQ (t:=(t.ns.getD k aM).name) (by rw[Bn];rfl);exact h.own _ (ai hk aM) _ h1.1 h1.2
 have hs:nj (t.ns.getD k aM) (t.ns.getD i aM).ms=0:=by
  refine FV (S:=t.ns.map (·.name)) (by rw[JJ];exact z1) _ _ (1+20*(q:Int)) ⟨ek,J0 (ai hk aM),h.ns _ (ai hk aM),h.own _ (ai hk aM)⟩ (λm hm=>⟨LU.1 m hm,h.ns _ (ai hi aM) m hm,λe=>Int.le_trans ((h.nW.ns _ (ai hk aM) _ (ai hi aM)).ms m hm e) hown⟩) ?_
  have:(t.ns.getD i aM).ms.length<=20:=LU.2.1
  omega
 obtain⟨_,si,gi⟩:=bZ ei;obtain⟨_,sk,gk⟩:=bZ ek;have Lu:Sv.aJ (t.ns.getD k aM).sv (t.ns.getD i aM).sv=0:=by
  have h1:(Sv.aB (t.ns.getD k aM).sv (t.ns.getD i aM).sv).length<=A.length:=(oM (hup k hk).1 (hup i hi).1 Sv.keyed Sv.cR sk si hA).len Sv.keyed Sv.cR (RL.cT _ _ Sv.keyed _ _ sk) hA;rw[Sv.gj pk.sv pi.sv,if_neg (by omega)]
 have wW:Gw.aJ (t.ns.getD k aM).gw (t.ns.getD i aM).gw=0:=by
  have h1:(Gw.aB (t.ns.getD k aM).gw (t.ns.getD i aM).gw).length<=G.length:=(oM (hup k hk).2 (hup i hi).2 Gw.keyed Gw.cR gk gi hG).len Gw.keyed Gw.cR (RL.cT _ _ Gw.keyed _ _ gk) hG;rw[Gw.gj pk.gw pi.gw,if_neg (by omega)]
 unfold nr;rw[if_pos hp,if_pos (show nj (t.ns.getD k aM) (bJ (t.ns.getD i aM)).ms=0 from hs),if_pos (show Sv.aJ (t.ns.getD k aM).sv (bJ (t.ns.getD i aM)).sv=0 from Lu)];exact wW
theorem KO{q:Nat}{t:Nt}{i k:Nat}(hr:bE t)(gP:∀n∈t.ns,iE n)(h:pU q t)(hl:t.ls=[])(hi:i<t.ns.length)(hk:k<t.ns.length)(h0:nr (t.ns.getD k aM) (bJ (t.ns.getD i aM))=0):bE ⟨t.ns,[⟨((k:Nat):Int),(bJ (t.ns.getD i aM)).T⟩]⟩/\bE (rf t i k)/\pU (q+2) (rf t i k):=by
 have z3:=(Nt.aD hr.e).2.2.1;have n1:AE t ⟨t.ns,[⟨((k:Nat):Int),(bJ (t.ns.getD i aM)).T⟩]⟩:=.inr (.inr (.inl ⟨i,k,hi,hk,by rw[hl];decide,by rw[hl];rfl⟩));have g1:=mF hr gP n1;have l1:=tf hr g1 h n1;have n2:AE ⟨t.ns,[⟨((k:Nat):Int),(bJ (t.ns.getD i aM)).T⟩]⟩ (rf t i k):=.inr (.inr (.inr (.inl ⟨0,k,bJ (t.ns.getD i aM),Nat.zero_lt_one,hk,iD (kA (z3 _ (ai hi aM))),h0,rfl⟩)));have g2:=mF g1.right gP n2;exact⟨g1.right,g2.right,tf g1.right g2 l1 n2⟩
theorem pt{m:Mem}(h:m.e=0):1<=m.state/\m.state<=4:=by
 unfold Mem.e uY at h;split at h
 .split at h
  .rename_i h1
   exact within_iff.1 (by simpa using h1)
  .cases h
 .cases h
theorem Tu{n:Nd}{m u:Mem}(hc:bp n.ms=0)(hu:bX n.ms n.name=AI u)(h4:u.state=4)(hm:m.e=0)(hl:m.name=n.name->m.aI<=u.aI):∃v,bX (jc n m).ms n.name=AI v/\v.state=4/\v.aI=u.aI:=by
 have hr:=(aj hc).2.1;by_cases hx:m.name=n.name/\dn m u=true
 .obtain⟨e,hn⟩:=hx
  have h1:=hl e;have h2:=pt hm;have hs:m.state=4/\m.aI=u.aI:=by
   rcases(lO m u).1 hn with h|⟨h,h|⟨h,_⟩⟩<;>omega
  have hch:aN n.ms m≠n.ms:=(kU hr m).1 (by unfold mX;rw[e,hu];exact hn);have hf:bX (aN n.ms m) n.name=AI m:=by rw[<- e];exact mj m _ hch
  have Cw:=fY n.ms m hr;have gE:(eH n m).ms=aN n.ms m:=by unfold eH;split<;>rfl
  have cY:=(kX n m).name;have hR:ia (eH n m).ms (jf (eH n m)) (mY (eH n m))=false:=by
   unfold jf mY;rw[gE,cY];have hg:=CW Cw (sI Cw n.name);rw[hf] at hg;split at hg
   .injection hg with hg
    unfold ia;rw[<- hg,decide_eq_false (show ¬ m.state=2 by omega),decide_eq_false (show ¬ m.state=3 by omega)];simp
   .cases hg
  refine⟨m,?_,hs⟩;have hz:(sw (eH n m)).ms=aN n.ms m:=by
   have:nK (eH n m)=aN n.ms m:=by unfold nK rF;rw[if_neg (by rw[hR];decide),gE]
   unfold sw;rw[if_neg (by rw[hR];decide)];exact this
  unfold jc;rw[if_pos e,hz];exact hf
 .refine⟨u,FW hc hu (by omega) (by omega) (λe=>?_),h4,rfl⟩
  rcases hb:dn m u with _|_
  .rfl
  .exact absurd ⟨e,hb⟩ hx
theorem FZ:∀(l:List Mem) (n:Nd) (u:Mem),Sp n->(∀m∈l,m.e=0)->nj n l=0->bX n.ms n.name=AI u->u.state=4->(∀m∈l,m.name=n.name->m.aI<=u.aI)->∃v,bX (tv n l).ms n.name=AI v/\v.state=4
 |[],_,u,_,_,_,hu,h4,_=>⟨u,hu,h4⟩
 |m::r,n,u,hs,hl,h0,hu,h4,hm=>by
  have h1:lR n m=0/\nj (jc n m) r=0:=by
   rw[nj] at h0;split at h0
   .rename_i h1;exact⟨h1,h0⟩
   .rename_i h1;exact absurd h0 h1
  have en:=(dA n m).name;have Bn:=hl m (Jg ..);obtain⟨v,hv,v4,vl⟩:=Tu hs.ms hu h4 Bn (hm m (Jg ..));have:=FZ r (jc n m) v (yb hs Bn h1.1) (λx hx=>hl x (Jl _ hx)) h1.2 (by rw[en];exact hv) v4 (λx hx e=>by rw[vl];exact hm x (Jl _ hx) (by rw[en] at e;exact e));rw[en] at this;exact this
theorem Ga:∀(l:List Mem) (n:Nd) (x:Mem),x∈(tv n l).ms->x.state=4->x∈l\/x∈n.ms
 |[],_,_,h,_=>.inr h
 |m::r,n,x,h,h4=>by
  rcases Ga r (jc n m) x h h4 with h1|h1
  .exact .inl (Jl _ h1)
  .rcases uy h1 with rfl|h2|⟨y,_,_,rfl⟩
   .exact .inl (Jg ..)
   .exact .inr h2
   .cases h4
def LB(o:Nd)(ms:List Mem):Prop:=∀m∈ms,m.name=o.name->m.state=4->m.aI=(eR o.ms o.name).aI->(eR o.ms o.name).state=4
structure yG(t:Nt):Prop where
 ns:∀o∈t.ns,∀x∈t.ns,LB o x.ms
 ls:∀o∈t.ns,∀l∈t.ls,∀p,sx l.text.data.toList=AI p->LB o p.ms
theorem VM{n:Nd}(he:n.e=0):∃u,bX n.ms n.name=AI u/\eR n.ms n.name=u/\u∈n.ms/\u.name=n.name/\u.e=0:=by
 obtain⟨m,hm,_⟩:=Nd.gH (Nd.aD he).2;obtain⟨h1,h2⟩:=dH hm;exact⟨m,hm,ff hm,h1,h2,jX (Nd.parts (Nd.aD he).1).ms m h1⟩
theorem LB.grow{n n':Nd}{ms:List Mem}{sv:List Sv.aV}(he:n.e=0)(lE:n'.e=0)(EP:gz n n')(cY:n'.name=n.name)(hT:Told n ms sv)(h:LB n ms):LB n' ms:=λm hm e h4 hl=>by
 rw[cY] at e hl ⊢;have h1:=hT.ms m hm e;have h2:=FU he EP;have h3:=h m hm e h4 (by omega);obtain⟨u,hu,hu2,hu3,hu4,_⟩:=VM he;obtain⟨v,hv,Fk,_,_,hv5⟩:=VM lE;obtain⟨w,hw,hn⟩:=EP.ms u hu3;rw[cY] at hv Fk;rw[hu4,hv] at hw;have hw:=JI hw;subst hw;rw[hu2] at h1 h2 h3;rw[Fk] at h2 hl ⊢;have h5:=pt hv5;have h6:¬ dn u v=true:=by rw[hn];decide
 rw[lO] at h6
 have:v.aI=u.aI:=by omega
 have:¬ v.state<u.state:=λh=>h6 (.inr ⟨this,.inl h⟩)
 omega
theorem jD{t:Nt}(hr:bE t)(h:yG t)(Ek:pT t){j:Nat}(hj:j<t.ns.length){n':Nd}{ls:List Lt.fy}(hg:wi t ⟨t.ns.set j n',ls⟩)(pm:List Mem)(hm:∀x∈n'.ms,x.name≠(t.ns.getD j aM).name->x.state=4->∃m,(m∈pm\/m∈(t.ns.getD j aM).ms)/\m.name=x.name/\m.state=4/\m.aI=x.aI)(hP:∀o∈t.ns,LB o pm)(hl:∀o∈t.ns,∀l∈ls,∀p,sx l.text.data.toList=AI p->Told o p.ms p.sv/\LB o p.ms):yG ⟨t.ns.set j n',ls⟩:=by
 obtain⟨_,_,z3,sy,_⟩:=Nt.aD hr.e;have Kw:=ai hj aM;obtain⟨EP,cY⟩:=hg.le j hj;have e:(⟨t.ns.set j n',ls⟩:Nt).ns.getD j aM=n':=by
  show(t.ns.set j n').getD j aM=n';rw[oJ _ _ _ _ _ hj,if_pos rfl]
 rw[e] at EP cY;have he:n'.e=0:=by
  rw[<- e];exact(Nt.aD hg.right.e).2.2.1 _ (ai (by rw[hg.len];exact hj) aM)
 have aP:∀i,i≠j->i<t.ns.length->(t.ns.getD i aM).name≠(t.ns.getD j aM).name:=λi h1 h2=>oL sy h1 h2 hj;have Bh:=z3 _ Kw;generalize t.ns.getD j aM=n at *;have cA:∀o∈t.ns.set j n',o=n'\/o∈t.ns/\o.name≠n.name:=λo ho=>by
  rcases wo ho with h1|⟨i,hi,hil,rfl⟩
  .exact .inl h1
  .exact .inr ⟨ai hil aM,aP i hi hil⟩
 refine⟨λo XW x hx=>?_,λo XW l Rn p hp=>?_⟩
 .rcases cA o XW with rfl|⟨h1,h2⟩<;>rcases cA x hx with rfl|⟨h3,h4⟩
  .intro m CC em m4 _
   rw[<- em,ff (gT (bZ he).1 CC)];exact m4
  .exact(h.ns n Kw x h3).grow Bh he EP cY (Ek.ns n Kw x h3)
  .intro m CC em m4 ml
   obtain⟨m0,ho0,en0,e40,el0⟩:=hm m CC (by rw[em];exact h2) m4;rcases ho0 with h5|h5
   .exact hP o h1 m0 h5 (en0.trans em) e40 (el0.trans ml)
   .exact h.ns o h1 n Kw m0 h5 (en0.trans em) e40 (el0.trans ml)
  .exact h.ns o h1 x h3
 .rcases cA o XW with rfl|⟨h1,h2⟩
  .obtain⟨h5,h6⟩:=hl n Kw l Rn p hp
   exact h6.grow Bh he EP cY h5
  .exact(hl o h1 l Rn p hp).2
theorem KP{t t':Nt}(hr:bE t)(hg:wi t t')(Ek:pT t)(h:yG t)(hn:AE t t'):yG t':=by
 obtain⟨z1,z2,z3,z4,z5⟩:=Nt.aD hr.e;have LV:∀o∈t.ns,∀l∈t.ls,∀p,sx l.text.data.toList=AI p->Told o p.ms p.sv/\LB o p.ms:=λo ho l hl p hp=>⟨Ek.ls o ho l hl p hp,h.ls o ho l hl p hp⟩;have nil:∀o∈t.ns,LB o []:=λo _ m hm=>by cases hm
 have same:∀(pm:List Mem) (n:Nd),∀x∈n.ms,x.name≠n.name->x.state=4->∃m,(m∈pm\/m∈n.ms)/\m.name=x.name/\m.state=4/\m.aI=x.aI:=λpm n x hx _ h4=>⟨x,.inr hx,rfl,h4,rfl⟩;have add:∀{x:Lt.fy} {p:Pk},p.e=0->x.text=p.T->(∀o∈t.ns,Told o p.ms p.sv/\LB o p.ms)->∀o∈t.ns,∀l∈t.ls++[x],∀q,sx l.text.data.toList=AI q->Told o q.ms q.sv/\LB o q.ms:=λ{x p} hp hx hT o ho l hl q hq=>by
  rcases Jk.1 hl with h1|h1
  .exact LV o ho l h1 q hq
  .rw[IY.1 h1,hx,iD hp] at hq
   rw[<- JI hq];exact hT o ho
 rcases hn with⟨j,n',hj,hb,rfl⟩|⟨j,q,l,rest,hj,eJ,h20,ht,rfl⟩|⟨j,q,hj,eJ,h20,rfl⟩|⟨j,q,p,hj,eJ,BR,hh,rfl⟩|⟨j,rfl⟩|⟨j,hj,h20,rfl⟩
 .have he:=z3 _ (ai hj aM)
  rcases hb with⟨a,b,c,hb,eV,h0,rfl⟩|⟨h0,rfl⟩|⟨a,p,r,h0,rfl⟩|⟨d,h1,h0,rfl⟩|⟨d,_,h0,rfl⟩
  .refine jD hr h Ek hj hg [] (λx hx aP h4=>?_) nil LV
   rcases wu hx aP with rfl|h1
   .exact absurd h4 eV
   .exact⟨x,.inr h1,rfl,h4,rfl⟩
  .refine jD hr h Ek hj hg [] (λx hx aP h4=>?_) nil LV
   rcases wu hx aP with rfl|h1
   .obtain⟨m,hm,_⟩:=Nd.gH (Nd.aD he).2
    exact absurd (iQ (by rw[hm];rfl)).2 aP
   .exact⟨x,.inr h1,rfl,h4,rfl⟩
  .exact jD hr h Ek hj hg [] (same [] _) nil LV
  .exact jD hr h Ek hj hg [] (same [] _) nil LV
  .exact jD hr h Ek hj hg [] (same [] _) nil LV
 .have he:=z3 _ (ai hj aM)
  refine jD hr h Ek hj hg [] (same [] _) nil (add (mD he ht).2 rfl (λo ho=>⟨yE he ht (Ek.ns o ho _ (ai hj aM)),λm hm e h4 hl=>?_⟩));obtain⟨told,CO,LU,_⟩:=ht;have h1:=LU.mem_iff.1 hm;rcases CO with⟨_,rfl,_⟩|⟨_,ord,fS,rfl,_⟩
  .cases h1
  .obtain⟨r,mI,rfl⟩:=mA fS h1
   have h2:=(KH he).2 r mI;unfold fu at h2;split at h2
   .cases h2
   .rename_i k hk
    obtain⟨k1,k2⟩:=dH hk;have hTk:=(Ek.ns o ho _ (ai hj aM)).ms k k1 (k2.trans e);have hlk:=po h2;have dO:¬ dn r.m k=true:=by rw[h2];decide
    rw[lO] at dO;have e5:k.aI=r.m.aI:=by omega
    have e6:¬ k.state<r.m.state:=λh=>dO (.inr ⟨e5,.inl h⟩);have e7:=pt (jX (Nd.parts (Nd.aD he).1).ms k k1);exact h.ns o ho _ (ai hj aM) k k1 (k2.trans e) (by omega) (by omega)
 .exact⟨h.ns,λo ho l hl p hp=>(add (kA (z3 _ (ai hj aM))) rfl (λo ho=>⟨Ek.ns o ho _ (ai hj aM),h.ns o ho _ (ai hj aM)⟩) o ho l hl p hp).2⟩
 .have hll:=λo ho=>h.ls o ho _ (ai hj Lt.dm) p BR
  refine jD hr h Ek eJ hg p.ms (λx hx aP h4=>?_) hll (λo ho l hl=>LV o ho l (Jr hl));rcases s9 p.ms _ x hx aP with h1|h1
  .exact⟨x,.inl h1,rfl,h4,rfl⟩
  .exact⟨x,.inr h1,rfl,h4,rfl⟩
 .exact⟨h.ns,λo ho l hl=>h.ls o ho l (Jr hl)⟩
 .refine⟨h.ns,λo ho l hl=>h.ls o ho l ?_⟩
  rcases Jk.1 hl with h1|h1
  .exact h1
  .rw[IY.1 h1];exact ai hj Lt.dm
theorem Pt{t:Nt}{i k:Nat}(hr:bE t)(Cw:bE (rf t i k))(Ek:pT t)(h:yG t)(hi:i<t.ns.length)(hk:k<t.ns.length)(h0:nr (t.ns.getD k aM) (bJ (t.ns.getD i aM))=0)(j:Nat):(own (rf t i k) j).state=4↔(own t j).state=4:=by
 by_cases e:j=k
 .subst e
  have z3:=(Nt.aD hr.e).2.2.1;obtain⟨h1,h2,_⟩:=mC h0;have hp:=Nd.parts (Nd.aD (z3 _ (ai hk aM))).1;have hs:Sp (t.ns.getD j aM):=⟨hp.ms,hp.rs,hp.name⟩;obtain⟨pm,_⟩:=pO h1;have o1:=(lr hr hk).1;have hT:=Ek.ns _ (ai hk aM) _ (ai hi aM);have hL:=h.ns _ (ai hk aM) _ (ai hi aM);have o2:=(lr Cw (k:=j) (by rw[fa];exact hk)).1;rw[jR hk,gA t hk,if_pos rfl] at o2;constructor
  .intro h4
   rcases Ga _ _ _ (dH o2).1 h4 with h5|h5
   .have hn:=Po hr Cw hi hk h0 j
    have kb:=po hn;have jE:=hT.ms _ h5 (dH o2).2;exact hL _ h5 (dH o2).2 h4 (Int.le_antisymm jE kb)
   .have:=gT (bZ (z3 _ (ai hk aM))).1 h5
    rw[(dH o2).2,o1] at this;rw[JI this];exact h4
  .intro h4
   obtain⟨v,hv,v4⟩:=FZ _ _ _ hs pm h2 o1 h4 (λm hm e=>hT.ms m hm e);have Fk:bX (ox (t.ns.getD j aM) (bJ (t.ns.getD i aM))).ms (t.ns.getD j aM).name=AI v:=hv;rw[o2] at Fk;rw[JI Fk];exact v4
 .have:own (rf t i k) j=own t j:=by unfold own;rw[gA t hk,if_neg e]
  rw[this]
end Go.Proofs.YtbfghimjdlpicaaGreatDoor
