import Derived.Test.YtfidjlcdlakceaaGreatDoorrt32
import Derived.Test.YtfidjlcdlakceaaGreatDoorrt43
set_option maxHeartbeats 12800000
set_option maxRecDepth 100000
open List renaming getD→Io,getElem?_eq_getElem→Ic,findIdx_le_length→QK,pairwise_iff_getElem→Ju,length_append→Ij,mem_append→J1,getElem_of_mem→Jp,getElem_mem→IQ,length_set→Jc
open Bool renaming and_eq_true→IJ
open Option renaming some→Z,none→Y
open Go renaming maxLen→Ii
open Go.Value renaming string→I,int→O,bool→AT,tuple→Il,slice→U,pointer→Ig
open Go.IntKind renaming i64→J
namespace Go.Proofs.YtfidjlcdlakceaaGreatDoor
open Go.RowKit
def tK(ms:List Mem)(t:ByteArray):Nat:=ms.findIdx λm => !decide (bl m.name t<0)
def isM(ms:List Mem)(t:ByteArray):Bool:=decide (tK ms t<ms.length)&&decide (bl (ms.getD (tK ms t) dm).name t=0)
theorem BZ{ms:List Mem}(hr:dt ms)(t:ByteArray):At ms t (tK ms t) (isM ms t):=by
 have fT:∀j (h:j<ms.length),ms.getD j dm=ms[j]:=λj h=>by simp[Io,Ic h]
 refine⟨QK,λj hj=>?_,λj hj hl=>?_,?_⟩
 .have hl:j<ms.length:=Nat.lt_of_lt_of_le hj QK
  have h:=List.not_of_lt_findIdx hj;rw[fT j hl];simpa using h
 .have hp:tK ms t<ms.length:=by omega
  have h:=List.findIdx_getElem (xs:=ms) (p:=λm:Mem => !decide (bl m.name t<0)) (w:=hp);apply Int.not_lt.1;intro hx;have h2:=gk hr t (tK ms t) j hj hl hx;rw[fT _ hp] at h2;have h3:(!decide (bl (ms[tK ms t]'hp).name t<0))=true:=h;rw[decide_eq_true h2] at h3;cases h3
 .unfold isM
  rw[IJ,decide_eq_true_eq,decide_eq_true_eq]
theorem qB{ms:List Mem}{t:ByteArray}{p:Nat}(h:At ms t p true):cM ms t=Z (ms.getD p dm):=by
 obtain⟨h1,h2⟩:=h.is.1 rfl;refine mi h1 (λj hj e=>?_) ((cK _ _).1 h2);have:=h.lo j hj;rw[e,(cK t t).2 rfl] at this;omega
theorem zB{ms:List Mem}{t:ByteArray}{p:Nat}(hr:dt ms)(h:At ms t p false):cM ms t=Y:=by
 refine mh λj hj e=>?_;have fT:∀j (h:j<ms.length),ms.getD j dm=ms[j]:=λj h=>by simp[Io,Ic h]
 have h2:At ms t j true:=by
  refine⟨by omega,λi hi=>?_,λi hi hl=>?_,⟨λ_=>⟨hj,(cK _ _).2 e⟩,λ_=>rfl⟩⟩
  .have:=Ju.1 hr i j (by omega) hj hi
   rw[<- e,dx,fT i (by omega),fT j hj];exact this
  .rcases Nat.lt_or_eq_of_le hi with h3|rfl
   .have:=Ju.1 hr j i hj hl h3
    have h4:0<bl (ms.getD i dm).name t:=by rw[<- e,rz,fT i hl,fT j hj];exact this
    omega
   .rw[(cK _ _).2 e];omega
 have:=(j4 h h2).2;cases this
theorem Wt{ms:List Mem}{t:ByteArray}{p:Nat}{f:Bool}(hr:dt ms)(h:At ms t p f):cM ms t=if f=true then Z (ms.getD p dm) else Y:=by
 cases f
 .rw[zB hr h];rfl
 .rw[qB h];rfl
theorem Wu{a b:ByteArray}(h:bl a b<0):a≠b:=λe=>by rw[(cK a b).2 e] at h;omega
theorem oD(x:Mem)(r:List Mem)(t:ByteArray):cM (x::r) t=if x.name=t then Z x else cM r t:=by
 unfold cM;rw[List.find?_cons];by_cases h:x.name=t<;>simp[h]
theorem zC(m:Mem):∀ms,bB ms m≠ms->cM (bB ms m) m.name=Z m
 |[],_=>by rw[bB,oD,if_pos rfl]
 |x::r,h=>by
  rw[bB] at h ⊢;split
  .rename_i h1
   rw[if_pos h1] at h;rw[oD,if_neg (Wu h1)];exact zC m r (λe=>h (by rw[e]))
  .rename_i h1
   rw[if_neg h1] at h;split
   .rename_i h2
    rw[if_pos h2] at h;split
    .rw[oD,if_pos rfl]
    .rename_i h3;rw[if_neg h3] at h;exact absurd rfl h
   .rw[oD,if_pos rfl]
def zD(rs:List bu)(t:ByteArray):Nat:=rs.findIdx λr=>decide (r.m.name=t)
theorem Mn{rs:List bu}{t:ByteArray}{j:Nat}(h:j<zD rs t):(rs.getD j dr).m.name≠t:=by
 have hl:=Nat.lt_of_lt_of_le h QK;have h:=List.not_of_lt_findIdx h;rw[show rs.getD j dr=rs[j] by simp[Io,Ic hl]];simpa using h
theorem B0{rs:List bu}{t:ByteArray}(h:zD rs t<rs.length):(rs.getD (zD rs t) dr).m.name=t:=by
 have h2:=List.findIdx_getElem (xs:=rs) (p:=λr:bu=>decide (r.m.name=t)) (w:=h);rw[show rs.getD (zD rs t) dr=rs[zD rs t] by simp[Io,Ic h]];exact of_decide_eq_true h2
theorem B1{rs:List bu}{t:ByteArray}(h:¬ zD rs t<rs.length):CX rs t:=λj hj=>Mn (by
 have:zD rs t<=rs.length:=QK
 omega)
theorem Wv{rs:List bu}(hd:dS rs){t:ByteArray}{j:Nat}(hj:j<rs.length)(bE:j≠zD rs t):(rs.getD j dr).m.name≠t:=by
 rcases Nat.lt_or_ge j (zD rs t) with h|h
 .exact Mn h
 .have aB:zD rs t<j:=by omega
  intro e;exact hd (zD rs t) j aB hj (by rw[e];exact B0 (by omega))
def hU(rs:List bu)(m:Mem):List bu:=
 if zD rs m.name<rs.length then(if ik m (rs.getD (zD rs m.name) dr).m=true then rs.eraseIdx (zD rs m.name)++[⟨m,0⟩] else rs) else rs++[⟨m,0⟩]
def gz(rs:List bu)(m:Mem):Int:=if 20<(hU rs m).length then 2 else 0
theorem Rh(rs:List bu)(v:Value)(m:Mem)(w:World)(hv:kB w v rs)(hm:m.name.size<=Ii)(h0:cI rs=0)(he:m.e=0) :
 aT 203 #[v,.agg #[I m.name,O J m.state,O J m.aP,O J m.addr,AT m.server]] w λe w'=>∃a k c,e=.returned (Il #[U a k c,O J (gz rs m)])/\Below w.heap.size w w'/\(gz rs m=0->bX w.heap.size w' (U a k c) (hU rs m)):=by
 have hl:=(jo h0).1;have sl:∀{W:World} {B:Nat} {u:Value} {l:List bu},bX B W u l->∃a k c,u=U a k c:=λh=>by
  obtain⟨a,c,e⟩:=h.slice;exact⟨a,_,c,e⟩
 by_cases hp:zD rs m.name<rs.length
 .rcases hn:ik m (rs.getD (zD rs m.name) dr).m with _|_
  .have e1:hU rs m=rs:=by unfold hU;rw[if_pos hp,if_neg (by rw[hn];simp)]
   have e2:gz rs m=0:=by unfold gz;rw[e1,if_neg (by omega)]
   refine(PR rs v m w hv hm h0 he _ hp (B0 hp) hn).mono ?_;rintro e w' ⟨v',rfl,ho,hb⟩;obtain⟨a,k,c,rfl⟩:=sl ho;exact⟨a,k,c,by rw[e2],hb,λ_=>by rw[e1];exact ho⟩
  .have e1:hU rs m=rs.eraseIdx (zD rs m.name)++[⟨m,0⟩]:=by unfold hU;rw[if_pos hp,if_pos hn]
   have e2:gz rs m=0:=by unfold gz;rw[e1,if_neg (by rw[Ij,List.length_eraseIdx_of_lt hp];simp;omega)]
   refine(Fu rs v m w hv hm h0 he _ hp (B0 hp) hn).mono ?_;rintro e w' ⟨v',rfl,ho,hb⟩;obtain⟨a,k,c,rfl⟩:=sl ho;exact⟨a,k,c,by rw[e2],hb,λ_=>by rw[e1];exact ho⟩
 .have e1:hU rs m=rs++[⟨m,0⟩]:=by unfold hU;rw[if_neg hp]
  by_cases hf:rs.length=20
  .have e2:gz rs m=2:=by unfold gz;rw[e1,if_pos (by rw[Ij];simp;omega)]
   refine(LO rs v m w hv hm h0 he (B1 hp) hf).mono ?_;rintro e w' ⟨rfl,hb⟩;exact⟨Y,0,0,by rw[e2],hb,λh=>by rw[e2] at h;cases h⟩
  .have e2:gz rs m=0:=by unfold gz;rw[e1,if_neg (by rw[Ij];simp;omega)]
   refine(PQ rs v m w hv hm h0 he (B1 hp) (by omega)).mono ?_;rintro e w' ⟨v',rfl,ho,hb⟩;obtain⟨a,k,c,rfl⟩:=sl ho;exact⟨a,k,c,by rw[e2],hb,λ_=>by rw[e1];exact ho⟩
theorem Ri{rs:List bu}{m:Mem}(h:∀r∈rs,r.m.name.size<=Ii)(hm:m.name.size<=Ii):∀r∈hU rs m,r.m.name.size<=Ii:=by
 intro r hr;unfold hU at hr;split at hr
 .split at hr
  .rcases J1.1 hr with hr|hr
   .exact h r (List.mem_of_mem_eraseIdx hr)
   .simp at hr;subst hr;exact hm
  .exact h r hr
 .rcases J1.1 hr with hr|hr
  .exact h r hr
  .simp at hr;subst hr;exact hm
theorem tL(L b:Nat)(n:Nd)(t:ByteArray)(m:Mem)(w:World)(h:Wk L w b n)(hL:L<=b)(jj:n.ms.length<=1000)(oQ:cI n.rs=0)(hm:dZ n.ms t=m)(he:m.e=0)(bb:m.name.size<=Ii) :
 aT 145 #[Ig (Z ⟨b,0,Y⟩),I t] w λe w'=>e=.returned (O J (gz n.rs m))/\Sh (λk=>k=b) w w'/\(gz n.rs m=0->Wk L w' b { n with rs:=hU n.rs m }):=by
 have yh:Hid (Wk L w b n):=h;have aL:=h.lt;obtain⟨vm,vr,vs,vg,vw,h1,h2,h3,h4⟩:=h;have BI:Hid _:=h2.is h4;obtain⟨am,cm,rq,_⟩:=ax h2.ms;obtain⟨ar,cr,xi,_⟩:=ax h2.rs;subst rq xi;have PY:Hid (ij 104 #[Ig (Z ⟨b,0,Y⟩),I t] w (Il #[.agg #[I m.name,O J m.state,O J m.aP,O J m.addr,AT m.server],AT (cM n.ms t).isSome])):=by
  have hq:=jk b am n.ms.length cm n.ms t w (af h1 2) BI.out.ms jj;rw[hm] at hq;exact hq
 have V1:Hid (∀W,Below w.heap.size w W->aT _ _ _ _):=λW hW=>Rh n.rs _ m W (BI.out.rs.below hW) bb oQ he;have Ww:Hid (∀W w1 a k c,Below w.heap.size w W->Below W.heap.size W w1->(gz n.rs m=0->bX W.heap.size w1 (U a k c) (hU n.rs m))->gz n.rs m=0->Wk L (w1.setCell ⟨b,3,Y⟩ (U a k c)) b { n with rs:=hU n.rs m }):=λW w1 a k c hW h1 h2 h0=>
  (yh.out.below hW).L7 (by have:=hW.size;omega) h1 (h2 h0) (Ri h4.rs bb)
 have HX:Hid (∀W,Below w.heap.size w W->W.heap[b]?=Z (.cells (fB n (U am n.ms.length cm) (U ar n.rs.length cr) vs vg vw) 81 (0,0))):=λW hW=>(hW.block _ aL).trans h1;have y2:=af h1 2;generalize gz n.rs m=pe at *;generalize Wi:n.rs.length=kr at *;generalize wM:n.ms.length=km at *;clear Wi wM h1 h2 h3 h4 hm he oQ;generalize(cM n.ms t).isSome=fd at *;obtain⟨mn,st,lf,ad,sv⟩:=m;simp only at PY V1 bb;go_enter Tryz.func145,Tryz.ntmps145;go_wp2_with fail;refine PY.out.mono ?_;rintro e w1 ⟨rfl,an⟩;obtain⟨W2,eW⟩:∃W2,W2=w1.alloc (.cells #[I mn,O J st,O J lf,O J ad,AT sv] 70):=⟨_,rfl⟩;have aD:Below w.heap.size w W2:=by rw[eW];exact an.alloc an.size _
 have bD:Hid _:=aD;have iQ:W2.heap[w1.heap.size]?=Z (.cells #[I mn,O J st,O J lf,O J ad,AT sv] 70 (0,0)):=by rw[eW];exact heap_alloc_new w1 _
 obtain⟨x0,x1,x2,x3,x4⟩:=xc iQ;have y3:=af (HX.out W2 aD) 3;go_upto_region 2 with fail
 rw[<- eW];clear eW an aD iQ y2 PY;have Wg:b<W2.heap.size:=by have:=bD.out.size;omega
 go_region_with (first|(go_at_call 203;refine(V1.out _ bD.out.drew).mono ?_;rintro e w3 ⟨a,k,c,rfl,bn,nu⟩;have cT:Hid (Below W2.heap.size W2 w3):=(Below.refl W2.heap.size W2).drew.trans bn;have gI:Hid (pe=0->Wk L (w3.setCell ⟨b,3,Y⟩ (U a k c)) b { n with rs:=hU n.rs ⟨mn,st,lf,ad,sv⟩ }):=Ww.out _ _ a k c bD.out.drew bn nu;have eL:=HX.out w3 (bD.out.trans (cT.out.mono bD.out.size));have z3:w3.cell? ⟨b,3,Y⟩=Z (U ar kr cr):=af eL 3;have zf:w3.frozen? ⟨b,3,Y⟩=false:=fJ eL 3;clear bn nu eL))
 all_goals
  go_wp2_with fail;go_ret;exact⟨rfl,((Sh.of bD.out).next cT.out).setCell (S:=λk=>k=b) rfl _,gI.out⟩
theorem qC(rs:List bu):dS rs↔rs.Pairwise λa b=>a.m.name≠b.m.name:=by
 have fT:∀j (h:j<rs.length),rs.getD j dr=rs[j]:=λj h=>by simp[Io,Ic h]
 rw[Ju];exact⟨λh i j hi hj kR=>by have:=h i j kR hj;rwa [fT i hi,fT j hj] at this,λh i j kR hj=>by rw[fT i (by omega),fT j hj];exact h i j (by omega) hj kR⟩
theorem zE(rs:List bu):fo rs↔∀r∈rs,within r.told 0 100=true:=by
 have fT:∀j (h:j<rs.length),rs.getD j dr=rs[j]:=λj h=>by simp[Io,Ic h]
 constructor
 .intro h r hr
  obtain⟨j,hj,rfl⟩:=Jp hr;have:=h j hj;rwa [fT j hj] at this
 .intro h j hj
  rw[fT j hj];exact h _ (IQ _)
theorem Rj{rs:List bu}(h1:rs.length<=20)(h2:∀r∈rs,r.m.e=0)(h3:∀r∈rs,within r.told 0 100=true)(h4:rs.Pairwise λa b=>a.m.name≠b.m.name):cI rs=0:=by
 have fT:∀j (h:j<rs.length),rs.getD j dr=rs[j]:=λj h=>by simp[Io,Ic h]
 exact wK h1 (λj hj=>by rw[fT j hj];exact h2 _ (IQ _)) ((zE rs).2 h3) ((qC rs).2 h4)
theorem zF{rs:List bu}{m:Mem}{r:bu}(h:r∈hU rs m):r∈rs\/r=⟨m,0⟩:=by
 unfold hU at h;split at h
 .split at h
  .rcases J1.1 h with h|h
   .exact .inl (List.mem_of_mem_eraseIdx h)
   .exact .inr (by simpa using h)
  .exact .inl h
 .rcases J1.1 h with h|h
  .exact .inl h
  .exact .inr (by simpa using h)
theorem zG{rs:List bu}{m:Mem}(h:cI rs=0)(hm:m.e=0)(hp:gz rs m=0):cI (hU rs m)=0:=by
 obtain⟨l1,l2,l3,l4⟩:=jo h;have hlen:(hU rs m).length<=20:=by
  unfold gz at hp;split at hp
  .cases hp
  .omega
 rw[zE] at l3;have hd:=(qC rs).1 l4;refine Rj hlen (λr hr=>?_) (λr hr=>?_) ?_
 .rcases zF hr with h|rfl
  .exact l2 r h
  .exact hm
 .rcases zF hr with h|rfl
  .exact l3 r h
  .rfl
 .unfold hU
  split
  .rename_i aB
   split
   .rw[List.pairwise_append]
    refine⟨hd.sublist (List.eraseIdx_sublist _ _),by simp,λa ha b hb=>?_⟩;simp at hb;subst hb;obtain⟨i,hi,bE,rfl⟩:=List.mem_eraseIdx_iff_getElem.1 ha;have:=Wv l4 hi bE
    rwa [show rs.getD i dr=rs[i] by simp[Io,Ic hi]] at this
   .exact hd
  .rename_i aB
   rw[List.pairwise_append];refine⟨hd,by simp,λa ha b hb=>?_⟩;simp at hb;subst hb;obtain⟨i,hi,rfl⟩:=Jp ha;have:=B1 aB i hi
   rwa [show rs.getD i dr=rs[i] by simp[Io,Ic hi]] at this
theorem Mo{ms:List Mem}(h1:ms.length<=20)(h2:dt ms)(h3:∀m∈ms,m.e=0):aM ms=0:=by
 have fT:∀j (h:j<ms.length),ms.getD j dm=ms[j]:=λj h=>by simp[Io,Ic h]
 rw[ja ms h1 (λj hj=>by rw[fT j hj];exact h3 _ (IQ _)),if_pos (zv ms h2)]
theorem Mp{ms:List Mem}{m:Mem}(h:aM ms=0)(hm:m.e=0)(hl:(bB ms m).length<=20):aM (bB ms m)=0:=by
 obtain⟨_,h2,_⟩:=aI h;refine Mo hl (nC ms m h2) (λx hx=>?_);rcases jV ms m x hx with rfl|hx
 .exact hm
 .exact pP h x hx
theorem Gb{ms:List Mem}{m:Mem}(h:aM ms=0)(hm:m.e=0):aX ms [m]=if 20<(bB ms m).length then 2 else 0:=by
 unfold aX aY;rw[if_pos h,iI,if_pos hm];rfl
def tM(ms:List Mem)(m:Mem):Bool:=match cM ms m.name with
 |none=>true
 |some k=>ik m k
theorem Gc(m:Mem):ik m m=false:=by
 unfold ik oZ;simp
theorem zH{ms:List Mem}(hr:dt ms)(m:Mem):tM ms m=true↔bB ms m≠ms:=by
 have cG:=BZ hr m.name;have hf:=Wt hr cG;have hh:=lj ms m _ _ cG;unfold tM;rw[hf,hh];rcases he:isM ms m.name with _|_
 .simp only[Bool.false_eq_true,if_false,ne_eq,true_iff]
  intro e;have:=congrArg List.length e;have hle:=cG.le;simp at this;omega
 .simp only[if_true]
  rw[he] at cG;have hp:=(cG.is.1 rfl).1;by_cases hn:ik m (ms.getD (tK ms m.name) dm)=true
  .rw[if_pos hn]
   refine⟨λ_ e=>?_,λ_=>hn⟩;have h2:ms.getD (tK ms m.name) dm=m:=by
    have:(ms.set (tK ms m.name) m).getD (tK ms m.name) dm=m:=by simp[Io,hp]
    rwa [e] at this
   rw[h2,Gc] at hn;cases hn
  .rw[if_neg hn]
   exact⟨λh=>absurd h hn,λh=>absurd rfl h⟩
def kL(n:Nd):Nat:=tK n.ms n.name
def rR(n:Nd):Bool:=isM n.ms n.name
def uL(n:Nd):List Mem:=xL n.ms (kL n) (rR n)
def Gd(n:Nd):Mem:=dZ (uL n) n.name
def B2(n:Nd):Int:=if iU n.ms (kL n) (rR n)=0 then(if iT n.ms (kL n) (rR n)=true then gz n.rs (Gd n) else 0) else iU n.ms (kL n) (rR n)
def Ge(n:Nd):Nd:=if iT n.ms (kL n) (rR n)=true then{ n with ms:=uL n,rs:=hU n.rs (Gd n) } else{ n with ms:=uL n }
def mx(n:Nd)(m:Mem):Nd:=if tM n.ms m=true then{ n with ms:=bB n.ms m,rs:=hU n.rs m } else{ n with ms:=bB n.ms m }
def ku(n:Nd)(m:Mem):Int:=if aX n.ms [m]=0 then(if tM n.ms m=true then gz n.rs m else 0) else aX n.ms [m]
def oE(n:Nd)(m:Mem):Int:=if ku n m=0 then(if m.name=n.name then B2 (mx n m) else 0) else ku n m
def rS(n:Nd)(m:Mem):Nd:=if m.name=n.name then Ge (mx n m) else mx n m
theorem Wx{ms:List Mem}{t:ByteArray}{p:Nat}(h:At ms t p true):dZ ms t=ms.getD p dm:=jT (qB h)
theorem Wy{ms:List Mem}{t:ByteArray}{p:Nat}(h:At ms t p true){x:Mem}(hx:x.name=t):At (ms.set p x) t p true:=by
 obtain⟨h1,h2⟩:=h.is.1 rfl;have hg:∀j,(ms.set p x).getD j dm=if j=p then x else ms.getD j dm:=λj=>by
  by_cases e:j=p
  .subst e;simp[Io,h1]
  .simp[Io,List.getElem?_set_ne (Ne.symm e),e]
 refine⟨by rw[Jc];exact h.le,λj hj=>?_,λj hj hl=>?_,⟨λ_=>⟨by rw[Jc];exact h1,?_⟩,λ_=>rfl⟩⟩
 .rw[hg j,if_neg (by omega)];exact h.lo j hj
 .rw[hg j]
  split
  .rw[hx,(cK t t).2 rfl];omega
  .rw[Jc] at hl;exact h.hi j hj hl
 .rw[hg p,if_pos rfl,hx];exact(cK t t).2 rfl
theorem xk(m:Mem):m.e=0↔aA m.name=true/\within m.state 1 4=true/\within m.aP 1 1000000=true/\within m.addr 0 4294967295=true:=by
 unfold Mem.e gX;constructor
 .intro h
  split at h
  .rename_i h1
   split at h
   .rename_i h2
    split at h
    .rename_i h3
     split at h
     .rename_i h4;exact⟨h1,h2,h3,h4⟩
     .cases h
    .cases h
   .cases h
  .cases h
 .rintro⟨h1,h2,h3,h4⟩
  rw[if_pos h1,if_pos h2,if_pos h3,if_pos h4]
theorem within_iff{n a b:Int}:within n a b=true↔a<=n/\n<=b:=by unfold within;rw[IJ,decide_eq_true_eq,decide_eq_true_eq]
theorem zI{m:Mem}(h:m.e=0)(hl:m.aP≠1000000):(dQ m).e=0:=by
 obtain⟨h1,h2,h3,h4⟩:=(xk m).1 h;rw[within_iff] at h3;exact(xk _).2 ⟨h1,rfl,within_iff.2 ⟨by show(1:Int)<=m.aP+1;omega,by show m.aP+1<=1000000;omega⟩,h4⟩
theorem zJ{n:Nd}(h:aM n.ms=0)(hR:iT n.ms (kL n) (rR n)=true) :
 rR n=true/\At n.ms n.name (kL n) true/\uL n=n.ms.set (kL n) (dQ (n.ms.getD (kL n) dm))/\Gd n=dQ (n.ms.getD (kL n) dm)/\(Gd n).e=0/\(n.ms.getD (kL n) dm).name=n.name/\kL n<n.ms.length:=by
 have hr:=(aI h).2.1;have cG:At n.ms n.name (kL n) (rR n):=BZ hr n.name;have hR2:=hR;unfold iT at hR;rw[IJ,IJ] at hR;obtain⟨⟨h1,_⟩,h3⟩:=hR;rw[h1] at cG;obtain⟨hp,hc⟩:=cG.is.1 rfl;have hn:=(cK _ _).1 hc;have hL:uL n=n.ms.set (kL n) (dQ (n.ms.getD (kL n) dm)):=by unfold uL xL;rw[if_pos hR2]
 have hM:Gd n=dQ (n.ms.getD (kL n) dm):=by
  unfold Gd;rw[hL,Wx (Wy cG (x:=dQ (n.ms.getD (kL n) dm)) hn)];simp[Io,hp]
 have he:(n.ms.getD (kL n) dm).e=0:=pP h _ (by rw[show n.ms.getD (kL n) dm=n.ms[kL n] by simp[Io,Ic hp]];exact IQ _);exact⟨h1,cG,hL,hM,by rw[hM];exact zI he (by simpa using h3),hn,hp⟩
theorem Rk{ms:List Mem}{p:Nat}{f:Bool}(h:∀m∈ms,m.name.size<=Ii):∀m∈xL ms p f,m.name.size<=Ii:=by
 intro m hm;unfold xL at hm;split at hm
 .rcases List.mem_or_eq_of_mem_set hm with hm|rfl
  .exact h m hm
  .exact bN h p
 .exact h m hm
theorem xl{ms:List Mem}{p:Nat}{f:Bool}(h:iT ms p f=true):iU ms p f=0:=by
 unfold iT at h;unfold iU;rw[IJ] at h;obtain⟨h1,h2⟩:=h;simp only[Bool.not_eq_true'] at h2;rw[h2];simp
theorem B3(L b:Nat)(n:Nd)(w:World)(h:Wk L w b n)(hL:L<=b)(jj:aM n.ms=0)(oQ:cI n.rs=0)(hl:aA n.name=true) :
 aT 146 #[Ig (Z ⟨b,0,Y⟩)] w λe w'=>e=.returned (O J (B2 n))/\Sh (λk=>k=b) w w'/\Hid (B2 n=0->Wk L w' b (Ge n)):=by
 have yh:Hid (Wk L w b n):=h;have aL:=h.lt;obtain⟨vm,vr,vs,vg,vw,h1,h2,h3,h4⟩:=h;have BI:Hid _:=h2.is h4;obtain⟨am,cm,rq,_⟩:=ax h2.ms;subst rq;have HRF:Hid (∀W,Below w.heap.size w W->aT 204 #[U am n.ms.length cm,I n.name] W λe w'=>∃a k c,e=.returned (Il #[U a k c,AT (iT n.ms (kL n) (rR n)),O J (iU n.ms (kL n) (rR n))])/\Below W.heap.size W w'/\(iU n.ms (kL n) (rR n)=0->Own W.heap.size w' (U a k c) (uL n))):=λW hW=>by
  refine(xM n.ms _ n.name W (BI.out.ms.below hW) jj h4.name hl (kL n) (rR n) (BZ (aI jj).2.1 n.name)).mono ?_;rintro e w' ⟨v',rfl,hb,hx,ho⟩;by_cases h0:iU n.ms (kL n) (rR n)=0
  .obtain⟨a,c,rfl,_⟩:=ax (ho h0)
   exact⟨a,_,c,rfl,hb,λ_=>ho h0⟩
  .rw[hx h0]
   exact⟨Y,0,0,rfl,hb,λh=>absurd h h0⟩
 have EA:Hid (∀W w1 a k c,Below w.heap.size w W->Below W.heap.size W w1->(iU n.ms (kL n) (rR n)=0->Own W.heap.size w1 (U a k c) (uL n))->iU n.ms (kL n) (rR n)=0->Wk L (w1.setCell ⟨b,2,Y⟩ (U a k c)) b { n with ms:=uL n }):=λW w1 a k c hW h1 h2 h0=>
  (yh.out.below hW).L6 (by have:=hW.size;omega) h1 (h2 h0) (Rk h4.ms)
 have HX:Hid (∀W,Below w.heap.size w W->W.heap[b]?=Z (.cells (fB n (U am n.ms.length cm) vr vs vg vw) 81 (0,0))):=λW hW=>(hW.block _ aL).trans h1;have Rg:Hid (∀W,iT n.ms (kL n) (rR n)=true->Wk L W b { n with ms:=uL n }->aT 145 #[Ig (Z ⟨b,0,Y⟩),I n.name] W λe w'=>e=.returned (O J (gz n.rs (Gd n)))/\Sh (λk=>k=b) W w'/\(gz n.rs (Gd n)=0->Wk L w' b { n with ms:=uL n,rs:=hU n.rs (Gd n) })):=λW hR hW=>by
  obtain⟨_,_,f3,f4,f5,f6,f7⟩:=zJ jj hR;exact tL L b { n with ms:=uL n } n.name (Gd n) W hW hL (by show(uL n).length<=1000;rw[f3,Jc];have:=(aI jj).1;omega) oQ rfl f5 (by rw[f4];show(n.ms.getD (kL n) dm).name.size<=Ii;rw[f6];exact h4.name)
 have HE:Hid (iT n.ms (kL n) (rR n)=true->B2 n=gz n.rs (Gd n)/\Ge n={ n with ms:=uL n,rs:=hU n.rs (Gd n) }):=λhR=>by
  unfold B2 Ge;rw[if_pos (xl hR),if_pos hR,if_pos hR];exact⟨rfl,rfl⟩
 have iV:Hid (iT n.ms (kL n) (rR n)=false->B2 n=iU n.ms (kL n) (rR n)/\Ge n={ n with ms:=uL n }):=λhR=>by
  unfold B2 Ge;rw[hR];simp only[Bool.false_eq_true,if_false];refine⟨?_,trivial⟩;split
  .rename_i h;exact h.symm
  .rfl
 have HEZ:Hid (iT n.ms (kL n) (rR n)=true->iU n.ms (kL n) (rR n)=0):=λhR=>xl hR;have y0:=af h1 0;have y2:=af h1 2;have Nk:Hid (∀W,Wk L W b { n with ms:=uL n }->W.cell? ⟨b,0,Y⟩=Z (I n.name)):=λW hW=>by
  obtain⟨_,_,_,_,_,g1,_⟩:=hW;exact af g1 0
 generalize B2 n=res at *;generalize iU n.ms (kL n) (rR n)=re at *;generalize iT n.ms (kL n) (rR n)=rr at *;generalize gz n.rs (Gd n)=pe at *;generalize wM:n.ms.length=km at *;clear wM h1 h2 h3 h4 jj oQ;go_enter Tryz.func146,Tryz.ntmps146;go_wp2_with fail;go_region_with (first|(go_at_call 204;refine(HRF.out _ (Below.refl _ _).drew).mono ?_;rintro e w1 ⟨a,k,c,rfl,an,uP⟩;have aK:Hid (Below w.heap.size w w1):=(Below.refl w.heap.size w).drew.trans an;have lT:Hid (re=0->Wk L (w1.setCell ⟨b,2,Y⟩ (U a k c)) b { n with ms:=uL n }):=EA.out _ _ a k c (Below.refl _ _).drew an uP;have eL:=HX.out w1 aK.out;have z2:w1.cell? ⟨b,2,Y⟩=Z (U am km cm):=af eL 2;have zf:w1.frozen? ⟨b,2,Y⟩=false:=fJ eL 2;have ji:Hid (w1.heap[b]?=Z (.cells (fB n (U am km cm) vr vs vg vw) 81 (0,0))):=eL;clear an uP eL))
 all_goals
  obtain⟨W2,eW⟩:∃W2,W2=w1.setCell ⟨b,2,Y⟩ (U a k c):=⟨_,rfl⟩;rw[<- eW] at lT;have De:Hid (Sh (λk=>k=b) w W2):=by rw[eW];exact(Sh.of aK.out).setCell (S:=λk=>k=b) rfl _
  rw[<- eW];clear eW z2 zf y0 y2;cases rr
  .obtain⟨e1,e2⟩:=iV.out rfl
   have HR:Hid _:=e1;have HN:Hid _:=e2;clear e1 e2 HE iV Rg;go_wp2_with fail;go_ret;exact⟨aj HR.out.symm,De.out,λh=>by rw[HN.out];exact lT.out (HR.out.symm.trans h)⟩
  .obtain⟨e1,e2⟩:=HE.out rfl
   have HR:Hid _:=e1;have HN:Hid _:=e2;have hwk:=lT.out (HEZ.out rfl);have HTC:Hid (aT _ _ _ _):=Rg.out W2 rfl hwk;have y0:=Nk.out W2 hwk;clear e1 e2 HE iV Rg hwk lT;go_wp2_with fail;refine HTC.out.mono ?_;rintro e w4 ⟨rfl,yw,PT⟩;have Kw:Hid _:=De.out.trans yw;have tX:Hid _:=PT;clear yw PT;go_wp2_with fail;go_ret;exact⟨aj HR.out.symm,Kw.out,λh=>by rw[HN.out];exact tX.out (HR.out.symm.trans h)⟩
end Go.Proofs.YtfidjlcdlakceaaGreatDoor
