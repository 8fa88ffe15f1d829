import Derived.Test.YtfidhgjmifendaaGreatDoornt21
import Derived.Test.YtfidhgjmifendaaGreatDoornt26
set_option maxHeartbeats 12800000
set_option maxRecDepth 100000
open List renaming getD→Ip,getElem?_eq_getElem→If,findIdx_le_length→Qx,pairwise_iff_getElem→I5,length_append→Ig,mem_append→Jx,mem_of_mem_eraseIdx→Oa,getElem_of_mem→IU,getElem_mem→IH,pairwise_append→QO,length_set→IS
open Bool renaming and_eq_true→IM
open Option renaming some→AI,none→be
open Go renaming maxLen→Il,within_iff→Q2
open Go.Value renaming string→Y,int→U,bool→Ia,tuple→Ik,slice→J,pointer→Ie
open Go.IntKind renaming i64→O
namespace Go.Proofs.YtfidhgjmifendaaGreatDoor
open Go.RowKit
def ts(ms:List Mem)(t:ByteArray):Nat:=ms.findIdx λm => !decide (bO m.name t<0)
def Sc(ms:List Mem)(t:ByteArray):Bool:=decide (ts ms t<ms.length)&&decide (bO (ms.getD (ts ms t) dm).name t=0)
theorem xp{ms:List Mem}(hr:bn ms)(t:ByteArray):At ms t (ts ms t) (Sc ms t):=by
 have kD:∀j (h:j<ms.length),ms.getD j dm=ms[j]:=λj h=>by simp[Ip,If h]
 refine⟨Qx,λj hj=>?_,λj hj hl=>?_,?_⟩
 .have hl:j<ms.length:=Nat.lt_of_lt_of_le hj Qx
  have h:=List.not_of_lt_findIdx hj;rw[kD j hl];simpa using h
 .have hp:ts ms t<ms.length:=by omega
  have h:=List.findIdx_getElem (xs:=ms) (p:=λm:Mem => !decide (bO m.name t<0)) (w:=hp);apply Int.not_lt.1;intro hx;have h2:=dP hr t (ts ms t) j hj hl hx;rw[kD _ hp] at h2;have h3:(!decide (bO (ms[ts ms t]'hp).name t<0))=true:=h;rw[decide_eq_true h2] at h3;cases h3
 .unfold Sc
  rw[IM,decide_eq_true_eq,decide_eq_true_eq]
theorem gz{ms:List Mem}{t:ByteArray}{p:Nat}(h:At ms t p true):cI ms t=AI (ms.getD p dm):=by
 obtain⟨h1,h2⟩:=h.is.1 rfl;refine ny h1 (λj hj e=>?_) ((bT _ _).1 h2);have:=h.lo j hj;rw[e,(bT t t).2 rfl] at this;omega
theorem rv{ms:List Mem}{t:ByteArray}{p:Nat}(hr:bn ms)(h:At ms t p false):cI ms t=be:=by
 refine qC λj hj e=>?_;have kD:∀j (h:j<ms.length),ms.getD j dm=ms[j]:=λj h=>by simp[Ip,If h]
 have h2:At ms t j true:=by
  refine⟨by omega,λi hi=>?_,λi hi hl=>?_,⟨λ_=>⟨hj,(bT _ _).2 e⟩,λ_=>rfl⟩⟩
  .have:=I5.1 hr i j (by omega) hj hi
   rw[<- e,fB,kD i (by omega),kD j hj];exact this
  .rcases Nat.lt_or_eq_of_le hi with h3|rfl
   .have:=I5.1 hr j i hj hl h3
    have h4:0<bO (ms.getD i dm).name t:=by rw[<- e,nf,kD i hl,kD j hj];exact this
    omega
   .rw[(bT _ _).2 e];omega
 have:=(ey h h2).2;cases this
theorem Sd{ms:List Mem}{t:ByteArray}{p:Nat}{f:Bool}(hr:bn ms)(h:At ms t p f):cI ms t=if f=true then AI (ms.getD p dm) else be:=by
 cases f
 .rw[rv hr h];rfl
 .rw[gz h];rfl
theorem Se{a b:ByteArray}(h:bO a b<0):a≠b:=λe=>by rw[(bT a b).2 e] at h;omega
theorem ej(x:Mem)(r:List Mem)(t:ByteArray):cI (x::r) t=if x.name=t then AI x else cI r t:=by
 unfold cI;rw[List.find?_cons];by_cases h:x.name=t<;>simp[h]
theorem mQ(m:Mem)(t:ByteArray)(ht:m.name≠t):∀ms,cI (aP ms m) t=cI ms t
 |[]=>by rw[aP,ej,if_neg ht]
 |x::r=>by
  rw[aP];split
  .rw[ej,ej,mQ m t ht r]
  .rename_i h1
   split
   .rename_i h2
    have e:=(bT _ _).1 h2;split
    .rw[ej,ej,if_neg ht,if_neg (by rw[e];exact ht)]
    .rfl
   .rw[ej,if_neg ht]
theorem pM(m:Mem):∀ms,aP ms m≠ms->cI (aP ms m) m.name=AI m
 |[],_=>by rw[aP,ej,if_pos rfl]
 |x::r,h=>by
  rw[aP] at h ⊢;split
  .rename_i h1
   rw[if_pos h1] at h;rw[ej,if_neg (Se h1)];exact pM m r (λe=>h (by rw[e]))
  .rename_i h1
   rw[if_neg h1] at h;split
   .rename_i h2
    rw[if_pos h2] at h;split
    .rw[ej,if_pos rfl]
    .rename_i h3;rw[if_neg h3] at h;exact absurd rfl h
   .rw[ej,if_pos rfl]
def zr(rs:List bL)(t:ByteArray):Nat:=rs.findIdx λr=>decide (r.m.name=t)
theorem HU{rs:List bL}{t:ByteArray}{j:Nat}(h:j<zr rs t):(rs.getD j dr).m.name≠t:=by
 have hl:=Nat.lt_of_lt_of_le h Qx;have h:=List.not_of_lt_findIdx h;rw[show rs.getD j dr=rs[j] by simp[Ip,If hl]];simpa using h
theorem Bt{rs:List bL}{t:ByteArray}(h:zr rs t<rs.length):(rs.getD (zr rs t) dr).m.name=t:=by
 have h2:=List.findIdx_getElem (xs:=rs) (p:=λr:bL=>decide (r.m.name=t)) (w:=h);rw[show rs.getD (zr rs t) dr=rs[zr rs t] by simp[Ip,If h]];exact of_decide_eq_true h2
theorem Bu{rs:List bL}{t:ByteArray}(h:¬ zr rs t<rs.length):CR rs t:=λj hj=>HU (by
 have:zr rs t<=rs.length:=Qx
 omega)
theorem Sf{rs:List bL}(hd:dJ rs){t:ByteArray}{j:Nat}(hj:j<rs.length)(aM:j≠zr rs t):(rs.getD j dr).m.name≠t:=by
 rcases Nat.lt_or_ge j (zr rs t) with h|h
 .exact HU h
 .have aW:zr rs t<j:=by omega
  intro e;exact hd (zr rs t) j aW hj (by rw[e];exact Bt (by omega))
def iw(rs:List bL)(m:Mem):List bL:=
 if zr rs m.name<rs.length then(if eB m (rs.getD (zr rs m.name) dr).m=true then rs.eraseIdx (zr rs m.name)++[⟨m,0⟩] else rs) else rs++[⟨m,0⟩]
def ix(rs:List bL)(m:Mem):Int:=if 20<(iw rs m).length then 2 else 0
theorem Mx(rs:List bL)(v:Value)(m:Mem)(w:World)(hv:mJ w v rs)(hm:m.name.size<=Il)(h0:dW rs=0)(he:m.e=0) :
 aF 168 #[v,.agg #[Y m.name,U O m.state,U O m.aI,U O m.addr,Ia m.server]] w λe w'=>∃a k c,e=.returned (Ik #[J a k c,U O (ix rs m)])/\Below w.heap.size w w'/\(ix rs m=0->cH w.heap.size w' (J a k c) (iw rs m)):=by
 have hl:=(lL h0).1;have sl:∀{W:World} {B:Nat} {u:Value} {l:List bL},cH B W u l->∃a k c,u=J a k c:=λh=>by
  obtain⟨a,c,e⟩:=h.slice;exact⟨a,_,c,e⟩
 by_cases hp:zr rs m.name<rs.length
 .rcases hn:eB m (rs.getD (zr rs m.name) dr).m with _|_
  .have e1:iw rs m=rs:=by unfold iw;rw[if_pos hp,if_neg (by rw[hn];simp)]
   have e2:ix rs m=0:=by unfold ix;rw[e1,if_neg (by omega)]
   refine(Me rs v m w hv hm h0 he _ hp (Bt hp) hn).mono ?_;rintro e w' ⟨v',rfl,ho,hb⟩;obtain⟨a,k,c,rfl⟩:=sl ho;exact⟨a,k,c,by rw[e2],hb,λ_=>by rw[e1];exact ho⟩
  .have e1:iw rs m=rs.eraseIdx (zr rs m.name)++[⟨m,0⟩]:=by unfold iw;rw[if_pos hp,if_pos hn]
   have e2:ix rs m=0:=by unfold ix;rw[e1,if_neg (by rw[Ig,List.length_eraseIdx_of_lt hp];simp;omega)]
   refine(DV rs v m w hv hm h0 he _ hp (Bt hp) hn).mono ?_;rintro e w' ⟨v',rfl,ho,hb⟩;obtain⟨a,k,c,rfl⟩:=sl ho;exact⟨a,k,c,by rw[e2],hb,λ_=>by rw[e1];exact ho⟩
 .have e1:iw rs m=rs++[⟨m,0⟩]:=by unfold iw;rw[if_neg hp]
  by_cases hf:rs.length=20
  .have e2:ix rs m=2:=by unfold ix;rw[e1,if_pos (by rw[Ig];simp;omega)]
   refine(GX rs v m w hv hm h0 he (Bu hp) hf).mono ?_;rintro e w' ⟨rfl,hb⟩;exact⟨be,0,0,by rw[e2],hb,λh=>by rw[e2] at h;cases h⟩
  .have e2:ix rs m=0:=by unfold ix;rw[e1,if_neg (by rw[Ig];simp;omega)]
   refine(My rs v m w hv hm h0 he (Bu hp) (by omega)).mono ?_;rintro e w' ⟨v',rfl,ho,hb⟩;obtain⟨a,k,c,rfl⟩:=sl ho;exact⟨a,k,c,by rw[e2],hb,λ_=>by rw[e1];exact ho⟩
theorem Mz{rs:List bL}{m:Mem}(h:∀r∈rs,r.m.name.size<=Il)(hm:m.name.size<=Il):∀r∈iw rs m,r.m.name.size<=Il:=by
 intro r hr;unfold iw at hr;split at hr
 .split at hr
  .rcases Jx.1 hr with hr|hr
   .exact h r (Oa hr)
   .simp at hr;subst hr;exact hm
  .exact h r hr
 .rcases Jx.1 hr with hr|hr
  .exact h r hr
  .simp at hr;subst hr;exact hm
theorem tt(L b:Nat)(n:Nd)(t:ByteArray)(m:Mem)(w:World)(h:Wk L w b n)(hL:L<=b)(hJ:n.ms.length<=1000)(oN:dW n.rs=0)(hm:eV n.ms t=m)(he:m.e=0)(cF:m.name.size<=Il) :
 aF 107 #[Ie (AI ⟨b,0,be⟩),Y t] w λe w'=>e=.returned (U O (ix n.rs m))/\Sh (λk=>k=b) w w'/\(ix n.rs m=0->Wk L w' b { n with rs:=iw n.rs m }):=by
 have pN:Hid (Wk L w b n):=h;have aN:=h.lt;obtain⟨vm,vr,vs,vg,vw,h1,h2,h3,h4⟩:=h;have ml:Hid _:=h2.is h4;obtain⟨am,cm,nJ,_⟩:=aA h2.ms;obtain⟨ar,cr,uX,_⟩:=aA h2.rs;subst nJ uX;have D5:Hid (kx 67 #[Ie (AI ⟨b,0,be⟩),Y t] w (Ik #[.agg #[Y m.name,U O m.state,U O m.aI,U O m.addr,Ia m.server],Ia (cI n.ms t).isSome])):=by
  have hq:=iP b am n.ms.length cm n.ms t w (ae h1 2) ml.out.ms hJ;rw[hm] at hq;exact hq
 have yp:Hid (∀W,Below w.heap.size w W->aF _ _ _ _):=λW hW=>Mx n.rs _ m W (ml.out.rs.below hW) cF oN he;have qG:Hid (∀W w1 a k c,Below w.heap.size w W->Below W.heap.size W w1->(ix n.rs m=0->cH W.heap.size w1 (J a k c) (iw n.rs m))->ix n.rs m=0->Wk L (w1.setCell ⟨b,3,be⟩ (J a k c)) b { n with rs:=iw n.rs m }):=λW w1 a k c hW h1 h2 h0=>
  (pN.out.below hW).Ht (by have:=hW.size;omega) h1 (h2 h0) (Mz h4.rs cF)
 have HX:Hid (∀W,Below w.heap.size w W->W.heap[b]?=AI (.cells (dt n (J am n.ms.length cm) (J ar n.rs.length cr) vs vg vw) 90 (0,0))):=λW hW=>(hW.block _ aN).trans h1;have y2:=ae h1 2;generalize ix n.rs m=pe at *;generalize AU:n.rs.length=kr at *;generalize zt:n.ms.length=km at *;clear AU zt h1 h2 h3 h4 hm he oN;generalize(cI n.ms t).isSome=fd at *;obtain⟨mn,st,lf,ad,sv⟩:=m;simp only at D5 yp cF;go_enter Tryz.func107,Tryz.ntmps107;go_wp2_with fail;refine D5.out.mono ?_;rintro e w1 ⟨rfl,aB⟩;obtain⟨W2,bF⟩:∃W2,W2=w1.alloc (.cells #[Y mn,U O st,U O lf,U O ad,Ia sv] 50):=⟨_,rfl⟩;have aJ:Below w.heap.size w W2:=by rw[bF];exact aB.alloc aB.size _
 have bp:Hid _:=aJ;have dQ:W2.heap[w1.heap.size]?=AI (.cells #[Y mn,U O st,U O lf,U O ad,Ia sv] 50 (0,0)):=by rw[bF];exact heap_alloc_new w1 _
 obtain⟨x0,x1,x2,x3,x4⟩:=jd dQ;have y3:=ae (HX.out W2 aJ) 3;go_upto_region 2 with fail
 rw[<- bF];clear bF aB aJ dQ y2 D5;have Sg:b<W2.heap.size:=by have:=bp.out.size;omega
 go_region_with (first|(go_at_call 168;refine(yp.out _ bp.out.drew).mono ?_;rintro e w3 ⟨a,k,c,rfl,bV,lh⟩;have cj:Hid (Below W2.heap.size W2 w3):=(Below.refl W2.heap.size W2).drew.trans bV;have dY:Hid (pe=0->Wk L (w3.setCell ⟨b,3,be⟩ (J a k c)) b { n with rs:=iw n.rs ⟨mn,st,lf,ad,sv⟩ }):=qG.out _ _ a k c bp.out.drew bV lh;have gI:=HX.out w3 (bp.out.trans (cj.out.mono bp.out.size));have z3:w3.cell? ⟨b,3,be⟩=AI (J ar kr cr):=ae gI 3;have zf:w3.frozen? ⟨b,3,be⟩=false:=an gI 3;clear bV lh gI))
 all_goals
  go_wp2_with fail;go_ret;exact⟨rfl,((Sh.of bp.out).next cj.out).setCell (S:=λk=>k=b) rfl _,dY.out⟩
theorem mR(rs:List bL):dJ rs↔rs.Pairwise λa b=>a.m.name≠b.m.name:=by
 have kD:∀j (h:j<rs.length),rs.getD j dr=rs[j]:=λj h=>by simp[Ip,If h]
 rw[I5];exact⟨λh i j hi hj iY=>by have:=h i j iY hj;rwa [kD i hi,kD j hj] at this,λh i j iY hj=>by rw[kD i (by omega),kD j hj];exact h i j (by omega) hj iY⟩
theorem zu(rs:List bL):gQ rs↔∀r∈rs,within r.told 0 100=true:=by
 have kD:∀j (h:j<rs.length),rs.getD j dr=rs[j]:=λj h=>by simp[Ip,If h]
 constructor
 .intro h r hr
  obtain⟨j,hj,rfl⟩:=IU hr;have:=h j hj;rwa [kD j hj] at this
 .intro h j hj
  rw[kD j hj];exact h _ (IH _)
theorem MA{rs:List bL}(h1:rs.length<=20)(h2:∀r∈rs,r.m.e=0)(h3:∀r∈rs,within r.told 0 100=true)(h4:rs.Pairwise λa b=>a.m.name≠b.m.name):dW rs=0:=by
 have kD:∀j (h:j<rs.length),rs.getD j dr=rs[j]:=λj h=>by simp[Ip,If h]
 exact xq h1 (λj hj=>by rw[kD j hj];exact h2 _ (IH _)) ((zu rs).2 h3) ((mR rs).2 h4)
theorem pO{rs:List bL}{m:Mem}{r:bL}(h:r∈iw rs m):r∈rs\/r=⟨m,0⟩:=by
 unfold iw at h;split at h
 .split at h
  .rcases Jx.1 h with h|h
   .exact .inl (Oa h)
   .exact .inr (by simpa using h)
  .exact .inl h
 .rcases Jx.1 h with h|h
  .exact .inl h
  .exact .inr (by simpa using h)
theorem zv{rs:List bL}{m:Mem}(h:dW rs=0)(hm:m.e=0)(hp:ix rs m=0):dW (iw rs m)=0:=by
 obtain⟨l1,l2,l3,l4⟩:=lL h;have hlen:(iw rs m).length<=20:=by
  unfold ix at hp;split at hp
  .cases hp
  .omega
 rw[zu] at l3;have hd:=(mR rs).1 l4;refine MA hlen (λr hr=>?_) (λr hr=>?_) ?_
 .rcases pO hr with h|rfl
  .exact l2 r h
  .exact hm
 .rcases pO hr with h|rfl
  .exact l3 r h
  .rfl
 .unfold iw
  split
  .rename_i aW
   split
   .rw[QO]
    refine⟨hd.sublist (List.eraseIdx_sublist _ _),by simp,λa ha b hb=>?_⟩;simp at hb;subst hb;obtain⟨i,hi,aM,rfl⟩:=List.mem_eraseIdx_iff_getElem.1 ha;have:=Sf l4 hi aM
    rwa [show rs.getD i dr=rs[i] by simp[Ip,If hi]] at this
   .exact hd
  .rename_i aW
   rw[QO];refine⟨hd,by simp,λa ha b hb=>?_⟩;simp at hb;subst hb;obtain⟨i,hi,rfl⟩:=IU ha;have:=Bu aW i hi
   rwa [show rs.getD i dr=rs[i] by simp[Ip,If hi]] at this
theorem jV{ms:List Mem}(h1:ms.length<=20)(h2:bn ms)(h3:∀m∈ms,m.e=0):bj ms=0:=by
 have kD:∀j (h:j<ms.length),ms.getD j dm=ms[j]:=λj h=>by simp[Ip,If h]
 rw[ry ms h1 (λj hj=>by rw[kD j hj];exact h3 _ (IH _)),if_pos (jH ms h2)]
theorem H5{ms:List Mem}{m:Mem}(h:bj ms=0)(hm:m.e=0)(hl:(aP ms m).length<=20):bj (aP ms m)=0:=by
 obtain⟨_,h2,_⟩:=af h;refine jV hl (iv ms m h2) (λx hx=>?_);rcases ec ms m x hx with rfl|hx
 .exact hm
 .exact lK h x hx
theorem Ej{ms:List Mem}{m:Mem}(h:bj ms=0)(hm:m.e=0):aE ms [m]=if 20<(aP ms m).length then 2 else 0:=by
 unfold aE aO;rw[if_pos h,jL,if_pos hm];rfl
def qH(ms:List Mem)(m:Mem):Bool:=match cI ms m.name with
 |none=>true
 |some k=>eB m k
theorem iy(m:Mem):eB m m=false:=by
 unfold eB uN;simp
theorem pP{ms:List Mem}(hr:bn ms)(m:Mem):qH ms m=true↔aP ms m≠ms:=by
 have cv:=xp hr m.name;have hf:=Sd hr cv;have hh:=dd ms m _ _ cv;unfold qH;rw[hf,hh];rcases he:Sc ms m.name with _|_
 .simp only[Bool.false_eq_true,if_false,ne_eq,true_iff]
  intro e;have:=congrArg List.length e;have hle:=cv.le;simp at this;omega
 .simp only[if_true]
  rw[he] at cv;have hp:=(cv.is.1 rfl).1;by_cases hn:eB m (ms.getD (ts ms m.name) dm)=true
  .rw[if_pos hn]
   refine⟨λ_ e=>?_,λ_=>hn⟩;have h2:ms.getD (ts ms m.name) dm=m:=by
    have:(ms.set (ts ms m.name) m).getD (ts ms m.name) dm=m:=by simp[Ip,hp]
    rwa [e] at this
   rw[h2,iy] at hn;cases hn
  .rw[if_neg hn]
   exact⟨λh=>absurd h hn,λh=>absurd rfl h⟩
def jC(n:Nd):Nat:=ts n.ms n.name
def oC(n:Nd):Bool:=Sc n.ms n.name
def nS(n:Nd):List Mem:=tu n.ms (jC n) (oC n)
def yt(n:Nd):Mem:=eV (nS n) n.name
def zx(n:Nd):Int:=if jw n.ms (jC n) (oC n)=0 then(if iT n.ms (jC n) (oC n)=true then ix n.rs (yt n) else 0) else jw n.ms (jC n) (oC n)
def uk(n:Nd):Nd:=if iT n.ms (jC n) (oC n)=true then{ n with ms:=nS n,rs:=iw n.rs (yt n) } else{ n with ms:=nS n }
def iJ(n:Nd)(m:Mem):Nd:=if qH n.ms m=true then{ n with ms:=aP n.ms m,rs:=iw n.rs m } else{ n with ms:=aP n.ms m }
def j7(n:Nd)(m:Mem):Int:=if aE n.ms [m]=0 then(if qH n.ms m=true then ix n.rs m else 0) else aE n.ms [m]
def mm(n:Nd)(m:Mem):Int:=if j7 n m=0 then(if m.name=n.name then zx (iJ n m) else 0) else j7 n m
def mA(n:Nd)(m:Mem):Nd:=if m.name=n.name then uk (iJ n m) else iJ n m
theorem Si{ms:List Mem}{t:ByteArray}{p:Nat}(h:At ms t p true):eV ms t=ms.getD p dm:=fN (gz h)
theorem Bv{ms:List Mem}{t:ByteArray}{p:Nat}(h:At ms t p true){x:Mem}(hx:x.name=t):At (ms.set p x) t p true:=by
 obtain⟨h1,h2⟩:=h.is.1 rfl;have hg:∀j,(ms.set p x).getD j dm=if j=p then x else ms.getD j dm:=λj=>by
  by_cases e:j=p
  .subst e;simp[Ip,h1]
  .simp[Ip,List.getElem?_set_ne (Ne.symm e),e]
 refine⟨by rw[IS];exact h.le,λj hj=>?_,λj hj hl=>?_,⟨λ_=>⟨by rw[IS];exact h1,?_⟩,λ_=>rfl⟩⟩
 .rw[hg j,if_neg (by omega)];exact h.lo j hj
 .rw[hg j]
  split
  .rw[hx,(bT t t).2 rfl];omega
  .rw[IS] at hl;exact h.hi j hj hl
 .rw[hg p,if_pos rfl,hx];exact(bT t t).2 rfl
theorem kE(m:Mem):m.e=0↔bb m.name=true/\within m.state 1 4=true/\within m.aI 1 1000000=true/\within m.addr 0 4294967295=true:=by
 unfold Mem.e uY;constructor
 .intro h
  split at h
  .rename_i h1
   split at h
   .rename_i h2
    split at h
    .rename_i h3
     split at h
     .rename_i h4;exact⟨h1,h2,h3,h4⟩
     .cases h
    .cases h
   .cases h
  .cases h
 .rintro⟨h1,h2,h3,h4⟩
  rw[if_pos h1,if_pos h2,if_pos h3,if_pos h4]
theorem Q2{n a b:Int}:within n a b=true↔a<=n/\n<=b:=by unfold within;rw[IM,decide_eq_true_eq,decide_eq_true_eq]
theorem zy{m:Mem}(h:m.e=0)(hl:m.aI≠1000000):(cO m).e=0:=by
 obtain⟨h1,h2,h3,h4⟩:=(kE m).1 h;rw[Q2] at h3;exact(kE _).2 ⟨h1,rfl,Q2.2 ⟨by show(1:Int)<=m.aI+1;omega,by show m.aI+1<=1000000;omega⟩,h4⟩
theorem pQ{n:Nd}(h:bj n.ms=0)(hR:iT n.ms (jC n) (oC n)=true) :
 oC n=true/\At n.ms n.name (jC n) true/\nS n=n.ms.set (jC n) (cO (n.ms.getD (jC n) dm))/\yt n=cO (n.ms.getD (jC n) dm)/\(yt n).e=0/\(n.ms.getD (jC n) dm).name=n.name/\jC n<n.ms.length:=by
 have hr:=(af h).2.1;have cv:At n.ms n.name (jC n) (oC n):=xp hr n.name;have hR2:=hR;unfold iT at hR;rw[IM,IM] at hR;obtain⟨⟨h1,_⟩,h3⟩:=hR;rw[h1] at cv;obtain⟨hp,hc⟩:=cv.is.1 rfl;have hn:=(bT _ _).1 hc;have hL:nS n=n.ms.set (jC n) (cO (n.ms.getD (jC n) dm)):=by unfold nS tu;rw[if_pos hR2]
 have hM:yt n=cO (n.ms.getD (jC n) dm):=by
  unfold yt;rw[hL,Si (Bv cv (x:=cO (n.ms.getD (jC n) dm)) hn)];simp[Ip,hp]
 have he:(n.ms.getD (jC n) dm).e=0:=lK h _ (by rw[show n.ms.getD (jC n) dm=n.ms[jC n] by simp[Ip,If hp]];exact IH _);exact⟨h1,cv,hL,hM,by rw[hM];exact zy he (by simpa using h3),hn,hp⟩
theorem MB{ms:List Mem}{p:Nat}{f:Bool}(h:∀m∈ms,m.name.size<=Il):∀m∈tu ms p f,m.name.size<=Il:=by
 intro m hm;unfold tu at hm;split at hm
 .rcases List.mem_or_eq_of_mem_set hm with hm|rfl
  .exact h m hm
  .exact cB h p
 .exact h m hm
theorem xt{ms:List Mem}{p:Nat}{f:Bool}(h:iT ms p f=true):jw ms p f=0:=by
 unfold iT at h;unfold jw;rw[IM] at h;obtain⟨h1,h2⟩:=h;simp only[Bool.not_eq_true'] at h2;rw[h2];simp
theorem Bw(L b:Nat)(n:Nd)(w:World)(h:Wk L w b n)(hL:L<=b)(hJ:bj n.ms=0)(oN:dW n.rs=0)(hl:bb n.name=true) :
 aF 108 #[Ie (AI ⟨b,0,be⟩)] w λe w'=>e=.returned (U O (zx n))/\Sh (λk=>k=b) w w'/\Hid (zx n=0->Wk L w' b (uk n)):=by
 have pN:Hid (Wk L w b n):=h;have aN:=h.lt;obtain⟨vm,vr,vs,vg,vw,h1,h2,h3,h4⟩:=h;have ml:Hid _:=h2.is h4;obtain⟨am,cm,nJ,_⟩:=aA h2.ms;subst nJ;have HRF:Hid (∀W,Below w.heap.size w W->aF 169 #[J am n.ms.length cm,Y n.name] W λe w'=>∃a k c,e=.returned (Ik #[J a k c,Ia (iT n.ms (jC n) (oC n)),U O (jw n.ms (jC n) (oC n))])/\Below W.heap.size W w'/\(jw n.ms (jC n) (oC n)=0->Own W.heap.size w' (J a k c) (nS n))):=λW hW=>by
  refine(zz n.ms _ n.name W (ml.out.ms.below hW) hJ h4.name hl (jC n) (oC n) (xp (af hJ).2.1 n.name)).mono ?_;rintro e w' ⟨v',rfl,hb,hx,ho⟩;by_cases h0:jw n.ms (jC n) (oC n)=0
  .obtain⟨a,c,rfl,_⟩:=aA (ho h0)
   exact⟨a,_,c,rfl,hb,λ_=>ho h0⟩
  .rw[hx h0]
   exact⟨be,0,0,rfl,hb,λh=>absurd h h0⟩
 have tv:Hid (∀W w1 a k c,Below w.heap.size w W->Below W.heap.size W w1->(jw n.ms (jC n) (oC n)=0->Own W.heap.size w1 (J a k c) (nS n))->jw n.ms (jC n) (oC n)=0->Wk L (w1.setCell ⟨b,2,be⟩ (J a k c)) b { n with ms:=nS n }):=λW w1 a k c hW h1 h2 h0=>
  (pN.out.below hW).Hq (by have:=hW.size;omega) h1 (h2 h0) (MB h4.ms)
 have HX:Hid (∀W,Below w.heap.size w W->W.heap[b]?=AI (.cells (dt n (J am n.ms.length cm) vr vs vg vw) 90 (0,0))):=λW hW=>(hW.block _ aN).trans h1;have MC:Hid (∀W,iT n.ms (jC n) (oC n)=true->Wk L W b { n with ms:=nS n }->aF 107 #[Ie (AI ⟨b,0,be⟩),Y n.name] W λe w'=>e=.returned (U O (ix n.rs (yt n)))/\Sh (λk=>k=b) W w'/\(ix n.rs (yt n)=0->Wk L w' b { n with ms:=nS n,rs:=iw n.rs (yt n) })):=λW hR hW=>by
  obtain⟨_,_,f3,f4,f5,f6,f7⟩:=pQ hJ hR;exact tt L b { n with ms:=nS n } n.name (yt n) W hW hL (by show(nS n).length<=1000;rw[f3,IS];have:=(af hJ).1;omega) oN rfl f5 (by rw[f4];show(n.ms.getD (jC n) dm).name.size<=Il;rw[f6];exact h4.name)
 have HE:Hid (iT n.ms (jC n) (oC n)=true->zx n=ix n.rs (yt n)/\uk n={ n with ms:=nS n,rs:=iw n.rs (yt n) }):=λhR=>by
  unfold zx uk;rw[if_pos (xt hR),if_pos hR,if_pos hR];exact⟨rfl,rfl⟩
 have kz:Hid (iT n.ms (jC n) (oC n)=false->zx n=jw n.ms (jC n) (oC n)/\uk n={ n with ms:=nS n }):=λhR=>by
  unfold zx uk;rw[hR];simp only[Bool.false_eq_true,if_false];refine⟨?_,trivial⟩;split
  .rename_i h;exact h.symm
  .rfl
 have HEZ:Hid (iT n.ms (jC n) (oC n)=true->jw n.ms (jC n) (oC n)=0):=λhR=>xt hR;have y0:=ae h1 0;have y2:=ae h1 2;have MD:Hid (∀W,Wk L W b { n with ms:=nS n }->W.cell? ⟨b,0,be⟩=AI (Y n.name)):=λW hW=>by
  obtain⟨_,_,_,_,_,g1,_⟩:=hW;exact ae g1 0
 generalize zx n=res at *;generalize jw n.ms (jC n) (oC n)=re at *;generalize iT n.ms (jC n) (oC n)=rr at *;generalize ix n.rs (yt n)=pe at *;generalize zt:n.ms.length=km at *;clear zt h1 h2 h3 h4 hJ oN;go_enter Tryz.func108,Tryz.ntmps108;go_wp2_with fail;go_region_with (first|(go_at_call 169;refine(HRF.out _ (Below.refl _ _).drew).mono ?_;rintro e w1 ⟨a,k,c,rfl,aB,zh⟩;have aV:Hid (Below w.heap.size w w1):=(Below.refl w.heap.size w).drew.trans aB;have lC:Hid (re=0->Wk L (w1.setCell ⟨b,2,be⟩ (J a k c)) b { n with ms:=nS n }):=tv.out _ _ a k c (Below.refl _ _).drew aB zh;have gI:=HX.out w1 aV.out;have z2:w1.cell? ⟨b,2,be⟩=AI (J am km cm):=ae gI 2;have zf:w1.frozen? ⟨b,2,be⟩=false:=an gI 2;have uS:Hid (w1.heap[b]?=AI (.cells (dt n (J am km cm) vr vs vg vw) 90 (0,0))):=gI;clear aB zh gI))
 all_goals
  obtain⟨W2,bF⟩:∃W2,W2=w1.setCell ⟨b,2,be⟩ (J a k c):=⟨_,rfl⟩;rw[<- bF] at lC;have xu:Hid (Sh (λk=>k=b) w W2):=by rw[bF];exact(Sh.of aV.out).setCell (S:=λk=>k=b) rfl _
  rw[<- bF];clear bF z2 zf y0 y2;cases rr
  .obtain⟨e1,e2⟩:=kz.out rfl
   have HR:Hid _:=e1;have HN:Hid _:=e2;clear e1 e2 HE kz MC;go_wp2_with fail;go_ret;exact⟨ai HR.out.symm,xu.out,λh=>by rw[HN.out];exact lC.out (HR.out.symm.trans h)⟩
  .obtain⟨e1,e2⟩:=HE.out rfl
   have HR:Hid _:=e1;have HN:Hid _:=e2;have C8:=lC.out (HEZ.out rfl);have HTC:Hid (aF _ _ _ _):=MC.out W2 rfl C8;have y0:=MD.out W2 C8;clear e1 e2 HE kz MC C8 lC;go_wp2_with fail;refine HTC.out.mono ?_;rintro e w4 ⟨rfl,D7,VV⟩;have ME:Hid _:=xu.out.trans D7;have DO:Hid _:=VV;clear D7 VV;go_wp2_with fail;go_ret;exact⟨ai HR.out.symm,ME.out,λh=>by rw[HN.out];exact DO.out (HR.out.symm.trans h)⟩
end Go.Proofs.YtfidhgjmifendaaGreatDoor
