import Derived.Test.YtfidhgjmifendaaGreatDoorng24
set_option maxHeartbeats 12800000
set_option maxRecDepth 100000
open List renaming getD→Iq,getElem?_eq_getElem→Ie,findIdx_le_length→Qw,pairwise_iff_getElem→I5,length_append→Ih,mem_append→JE,mem_of_mem_eraseIdx→Qb,getElem_of_mem→I3,getElem_mem→IG,pairwise_append→QQ,length_set→IT
open Bool renaming and_eq_true→IW
open Option renaming some→AI,none→be
open Go renaming maxLen→Io,within_iff→Q2
open Go.Value renaming string→Y,int→U,bool→Ia,tuple→Im,slice→J,pointer→If
open Go.IntKind renaming i64→O
namespace Go.Proofs.YtfidhgjmifendaaGreatDoor
open Go.RowKit
def tn(ms:List Mem)(t:ByteArray):Nat:=ms.findIdx λm => !decide (bO m.name t<0)
def TY(ms:List Mem)(t:ByteArray):Bool:=decide (tn ms t<ms.length)&&decide (bO (ms.getD (tn ms t) dm).name t=0)
theorem xe{ms:List Mem}(hr:bl ms)(t:ByteArray):At ms t (tn ms t) (TY ms t):=by
 have kB:∀j (h:j<ms.length),ms.getD j dm=ms[j]:=λj h=>by simp[Iq,Ie h]
 refine⟨Qw,λj hj=>?_,λj hj hl=>?_,?_⟩
 .have hl:j<ms.length:=Nat.lt_of_lt_of_le hj Qw
  have h:=List.not_of_lt_findIdx hj;rw[kB j hl];simpa using h
 .have hp:tn ms t<ms.length:=by omega
  have h:=List.findIdx_getElem (xs:=ms) (p:=λm:Mem => !decide (bO m.name t<0)) (w:=hp);apply Int.not_lt.1;intro hx;have h2:=dO hr t (tn ms t) j hj hl hx;rw[kB _ hp] at h2;have h3:(!decide (bO (ms[tn ms t]'hp).name t<0))=true:=h;rw[decide_eq_true h2] at h3;cases h3
 .unfold TY
  rw[IW,decide_eq_true_eq,decide_eq_true_eq]
theorem gA{ms:List Mem}{t:ByteArray}{p:Nat}(h:At ms t p true):cK ms t=AI (ms.getD p dm):=by
 obtain⟨h1,h2⟩:=h.is.1 rfl;refine nr h1 (λj hj e=>?_) ((bR _ _).1 h2);have:=h.lo j hj;rw[e,(bR t t).2 rfl] at this;omega
theorem qY{ms:List Mem}{t:ByteArray}{p:Nat}(hr:bl ms)(h:At ms t p false):cK ms t=be:=by
 refine qu λj hj e=>?_;have kB:∀j (h:j<ms.length),ms.getD j dm=ms[j]:=λj h=>by simp[Iq,Ie h]
 have h2:At ms t j true:=by
  refine⟨by omega,λi hi=>?_,λi hi hl=>?_,⟨λ_=>⟨hj,(bR _ _).2 e⟩,λ_=>rfl⟩⟩
  .have:=I5.1 hr i j (by omega) hj hi
   rw[<- e,fC,kB i (by omega),kB j hj];exact this
  .rcases Nat.lt_or_eq_of_le hi with h3|rfl
   .have:=I5.1 hr j i hj hl h3
    have h4:0<bO (ms.getD i dm).name t:=by rw[<- e,mW,kB i hl,kB j hj];exact this
    omega
   .rw[(bR _ _).2 e];omega
 have:=(ed h h2).2;cases this
theorem Sw{ms:List Mem}{t:ByteArray}{p:Nat}{f:Bool}(hr:bl ms)(h:At ms t p f):cK ms t=if f=true then AI (ms.getD p dm) else be:=by
 cases f
 .rw[qY hr h];rfl
 .rw[gA h];rfl
theorem Sx{a b:ByteArray}(h:bO a b<0):a≠b:=λe=>by rw[(bR a b).2 e] at h;omega
theorem ej(x:Mem)(r:List Mem)(t:ByteArray):cK (x::r) t=if x.name=t then AI x else cK r t:=by
 unfold cK;rw[List.find?_cons];by_cases h:x.name=t<;>simp[h]
theorem mN(m:Mem)(t:ByteArray)(ht:m.name≠t):∀ms,cK (aQ ms m) t=cK ms t
 |[]=>by rw[aQ,ej,if_neg ht]
 |x::r=>by
  rw[aQ];split
  .rw[ej,ej,mN m t ht r]
  .rename_i h1
   split
   .rename_i h2
    have e:=(bR _ _).1 h2;split
    .rw[ej,ej,if_neg ht,if_neg (by rw[e];exact ht)]
    .rfl
   .rw[ej,if_neg ht]
theorem pC(m:Mem):∀ms,aQ ms m≠ms->cK (aQ ms m) m.name=AI m
 |[],_=>by rw[aQ,ej,if_pos rfl]
 |x::r,h=>by
  rw[aQ] at h ⊢;split
  .rename_i h1
   rw[if_pos h1] at h;rw[ej,if_neg (Sx h1)];exact pC m r (λe=>h (by rw[e]))
  .rename_i h1
   rw[if_neg h1] at h;split
   .rename_i h2
    rw[if_pos h2] at h;split
    .rw[ej,if_pos rfl]
    .rename_i h3;rw[if_neg h3] at h;exact absurd rfl h
   .rw[ej,if_pos rfl]
def yZ(rs:List bK)(t:ByteArray):Nat:=rs.findIdx λr=>decide (r.m.name=t)
theorem Kf{rs:List bK}{t:ByteArray}{j:Nat}(h:j<yZ rs t):(rs.getD j dr).m.name≠t:=by
 have hl:=Nat.lt_of_lt_of_le h Qw;have h:=List.not_of_lt_findIdx h;rw[show rs.getD j dr=rs[j] by simp[Iq,Ie hl]];simpa using h
theorem Bt{rs:List bK}{t:ByteArray}(h:yZ rs t<rs.length):(rs.getD (yZ rs t) dr).m.name=t:=by
 have h2:=List.findIdx_getElem (xs:=rs) (p:=λr:bK=>decide (r.m.name=t)) (w:=h);rw[show rs.getD (yZ rs t) dr=rs[yZ rs t] by simp[Iq,Ie h]];exact of_decide_eq_true h2
theorem Bu{rs:List bK}{t:ByteArray}(h:¬ yZ rs t<rs.length):CP rs t:=λj hj=>Kf (by
 have:yZ rs t<=rs.length:=Qw
 omega)
theorem Sy{rs:List bK}(hd:dI rs){t:ByteArray}{j:Nat}(hj:j<rs.length)(aT:j≠yZ rs t):(rs.getD j dr).m.name≠t:=by
 rcases Nat.lt_or_ge j (yZ rs t) with h|h
 .exact Kf h
 .have aR:yZ rs t<j:=by omega
  intro e;exact hd (yZ rs t) j aR hj (by rw[e];exact Bt (by omega))
def ix(rs:List bK)(m:Mem):List bK:=
 if yZ rs m.name<rs.length then(if eH m (rs.getD (yZ rs m.name) dr).m=true then rs.eraseIdx (yZ rs m.name)++[⟨m,0⟩] else rs) else rs++[⟨m,0⟩]
def iy(rs:List bK)(m:Mem):Int:=if 20<(ix rs m).length then 2 else 0
theorem MO(rs:List bK)(v:Value)(m:Mem)(w:World)(hv:mG w v rs)(hm:m.name.size<=Io)(h0:dV rs=0)(he:m.e=0) :
 aF 168 #[v,.agg #[Y m.name,U O m.state,U O m.aM,U O m.addr,Ia m.server]] w λe w'=>∃a k c,e=.returned (Im #[J a k c,U O (iy rs m)])/\Below w.heap.size w w'/\(iy rs m=0->cE w.heap.size w' (J a k c) (ix rs m)):=by
 have hl:=(ki h0).1;have sl:∀{W:World} {B:Nat} {u:Value} {l:List bK},cE B W u l->∃a k c,u=J a k c:=λh=>by
  obtain⟨a,c,e⟩:=h.slice;exact⟨a,_,c,e⟩
 by_cases hp:yZ rs m.name<rs.length
 .rcases hn:eH m (rs.getD (yZ rs m.name) dr).m with _|_
  .have e1:ix rs m=rs:=by unfold ix;rw[if_pos hp,if_neg (by rw[hn];simp)]
   have e2:iy rs m=0:=by unfold iy;rw[e1,if_neg (by omega)]
   refine(MB rs v m w hv hm h0 he _ hp (Bt hp) hn).mono ?_;rintro e w' ⟨v',rfl,ho,hb⟩;obtain⟨a,k,c,rfl⟩:=sl ho;exact⟨a,k,c,by rw[e2],hb,λ_=>by rw[e1];exact ho⟩
  .have e1:ix rs m=rs.eraseIdx (yZ rs m.name)++[⟨m,0⟩]:=by unfold ix;rw[if_pos hp,if_pos hn]
   have e2:iy rs m=0:=by unfold iy;rw[e1,if_neg (by rw[Ih,List.length_eraseIdx_of_lt hp];simp;omega)]
   refine(DY rs v m w hv hm h0 he _ hp (Bt hp) hn).mono ?_;rintro e w' ⟨v',rfl,ho,hb⟩;obtain⟨a,k,c,rfl⟩:=sl ho;exact⟨a,k,c,by rw[e2],hb,λ_=>by rw[e1];exact ho⟩
 .have e1:ix rs m=rs++[⟨m,0⟩]:=by unfold ix;rw[if_neg hp]
  by_cases hf:rs.length=20
  .have e2:iy rs m=2:=by unfold iy;rw[e1,if_pos (by rw[Ih];simp;omega)]
   refine(Hl rs v m w hv hm h0 he (Bu hp) hf).mono ?_;rintro e w' ⟨rfl,hb⟩;exact⟨be,0,0,by rw[e2],hb,λh=>by rw[e2] at h;cases h⟩
  .have e2:iy rs m=0:=by unfold iy;rw[e1,if_neg (by rw[Ih];simp;omega)]
   refine(MP rs v m w hv hm h0 he (Bu hp) (by omega)).mono ?_;rintro e w' ⟨v',rfl,ho,hb⟩;obtain⟨a,k,c,rfl⟩:=sl ho;exact⟨a,k,c,by rw[e2],hb,λ_=>by rw[e1];exact ho⟩
theorem MQ{rs:List bK}{m:Mem}(h:∀r∈rs,r.m.name.size<=Io)(hm:m.name.size<=Io):∀r∈ix rs m,r.m.name.size<=Io:=by
 intro r hr;unfold ix at hr;split at hr
 .split at hr
  .rcases JE.1 hr with hr|hr
   .exact h r (Qb hr)
   .simp at hr;subst hr;exact hm
  .exact h r hr
 .rcases JE.1 hr with hr|hr
  .exact h r hr
  .simp at hr;subst hr;exact hm
theorem tp(L b:Nat)(n:Nd)(t:ByteArray)(m:Mem)(w:World)(h:Wk L w b n)(hL:L<=b)(hU:n.ms.length<=1000)(nx:dV n.rs=0)(hm:fc n.ms t=m)(he:m.e=0)(cC:m.name.size<=Io) :
 aF 107 #[If (AI ⟨b,0,be⟩),Y t] w λe w'=>e=.returned (U O (iy n.rs m))/\Sh (λk=>k=b) w w'/\(iy n.rs m=0->Wk L w' b { n with rs:=ix n.rs m }):=by
 have pD:Hid (Wk L w b n):=h;have aN:=h.lt;obtain⟨vm,vr,vs,vg,vw,h1,h2,h3,h4⟩:=h;have l9:Hid _:=h2.is h4;obtain⟨am,cm,nF,_⟩:=aA h2.ms;obtain⟨ar,cr,uR,_⟩:=aA h2.rs;subst nF uR;have D6:Hid (kt 67 #[If (AI ⟨b,0,be⟩),Y t] w (Im #[.agg #[Y m.name,U O m.state,U O m.aM,U O m.addr,Ia m.server],Ia (cK n.ms t).isSome])):=by
  have hq:=iP b am n.ms.length cm n.ms t w (ae h1 2) l9.out.ms hU;rw[hm] at hq;exact hq
 have yb:Hid (∀W,Below w.heap.size w W->aF _ _ _ _):=λW hW=>MO n.rs _ m W (l9.out.rs.below hW) cC nx he;have tq:Hid (∀W w1 a k c,Below w.heap.size w W->Below W.heap.size W w1->(iy n.rs m=0->cE W.heap.size w1 (J a k c) (ix n.rs m))->iy n.rs m=0->Wk L (w1.setCell ⟨b,3,be⟩ (J a k c)) b { n with rs:=ix n.rs m }):=λW w1 a k c hW h1 h2 h0=>
  (pD.out.below hW).H6 (by have:=hW.size;omega) h1 (h2 h0) (MQ h4.rs cC)
 have HX:Hid (∀W,Below w.heap.size w W->W.heap[b]?=AI (.cells (dw n (J am n.ms.length cm) (J ar n.rs.length cr) vs vg vw) 90 (0,0))):=λW hW=>(hW.block _ aN).trans h1;have y2:=ae h1 2;generalize iy n.rs m=pe at *;generalize AY:n.rs.length=kr at *;generalize CZ:n.ms.length=km at *;clear AY CZ h1 h2 h3 h4 hm he nx;generalize(cK n.ms t).isSome=fd at *;obtain⟨mn,st,lf,ad,sv⟩:=m;simp only at D6 yb cC;go_enter Tryz.func107,Tryz.ntmps107;go_wp2_with fail;refine D6.out.mono ?_;rintro e w1 ⟨rfl,aB⟩;obtain⟨W2,bL⟩:∃W2,W2=w1.alloc (.cells #[Y mn,U O st,U O lf,U O ad,Ia sv] 50):=⟨_,rfl⟩;have aI:Below w.heap.size w W2:=by rw[bL];exact aB.alloc aB.size _
 have bp:Hid _:=aI;have dS:W2.heap[w1.heap.size]?=AI (.cells #[Y mn,U O st,U O lf,U O ad,Ia sv] 50 (0,0)):=by rw[bL];exact heap_alloc_new w1 _
 obtain⟨x0,x1,x2,x3,x4⟩:=iZ dS;have y3:=ae (HX.out W2 aI) 3;go_upto_region 2 with fail
 rw[<- bL];clear bL aB aI dS y2 D6;have Sz:b<W2.heap.size:=by have:=bp.out.size;omega
 go_region_with (first|(go_at_call 168;refine(yb.out _ bp.out.drew).mono ?_;rintro e w3 ⟨a,k,c,rfl,bU,kZ⟩;have cF:Hid (Below W2.heap.size W2 w3):=(Below.refl W2.heap.size W2).drew.trans bU;have dY:Hid (pe=0->Wk L (w3.setCell ⟨b,3,be⟩ (J a k c)) b { n with rs:=ix n.rs ⟨mn,st,lf,ad,sv⟩ }):=tq.out _ _ a k c bp.out.drew bU kZ;have hJ:=HX.out w3 (bp.out.trans (cF.out.mono bp.out.size));have z3:w3.cell? ⟨b,3,be⟩=AI (J ar kr cr):=ae hJ 3;have zf:w3.frozen? ⟨b,3,be⟩=false:=an hJ 3;clear bU kZ hJ))
 all_goals
  go_wp2_with fail;go_ret;exact⟨rfl,((Sh.of bp.out).next cF.out).setCell (S:=λk=>k=b) rfl _,dY.out⟩
theorem mO(rs:List bK):dI rs↔rs.Pairwise λa b=>a.m.name≠b.m.name:=by
 have kB:∀j (h:j<rs.length),rs.getD j dr=rs[j]:=λj h=>by simp[Iq,Ie h]
 rw[I5];exact⟨λh i j hi hj jG=>by have:=h i j jG hj;rwa [kB i hi,kB j hj] at this,λh i j jG hj=>by rw[kB i (by omega),kB j hj];exact h i j (by omega) hj jG⟩
theorem zc(rs:List bK):gR rs↔∀r∈rs,within r.told 0 100=true:=by
 have kB:∀j (h:j<rs.length),rs.getD j dr=rs[j]:=λj h=>by simp[Iq,Ie h]
 constructor
 .intro h r hr
  obtain⟨j,hj,rfl⟩:=I3 hr;have:=h j hj;rwa [kB j hj] at this
 .intro h j hj
  rw[kB j hj];exact h _ (IG _)
theorem MR{rs:List bK}(h1:rs.length<=20)(h2:∀r∈rs,r.m.e=0)(h3:∀r∈rs,within r.told 0 100=true)(h4:rs.Pairwise λa b=>a.m.name≠b.m.name):dV rs=0:=by
 have kB:∀j (h:j<rs.length),rs.getD j dr=rs[j]:=λj h=>by simp[Iq,Ie h]
 exact xf h1 (λj hj=>by rw[kB j hj];exact h2 _ (IG _)) ((zc rs).2 h3) ((mO rs).2 h4)
theorem pF{rs:List bK}{m:Mem}{r:bK}(h:r∈ix rs m):r∈rs\/r=⟨m,0⟩:=by
 unfold ix at h;split at h
 .split at h
  .rcases JE.1 h with h|h
   .exact .inl (Qb h)
   .exact .inr (by simpa using h)
  .exact .inl h
 .rcases JE.1 h with h|h
  .exact .inl h
  .exact .inr (by simpa using h)
theorem zd{rs:List bK}{m:Mem}(h:dV rs=0)(hm:m.e=0)(hp:iy rs m=0):dV (ix rs m)=0:=by
 obtain⟨l1,l2,l3,l4⟩:=ki h;have hlen:(ix rs m).length<=20:=by
  unfold iy at hp;split at hp
  .cases hp
  .omega
 rw[zc] at l3;have hd:=(mO rs).1 l4;refine MR hlen (λr hr=>?_) (λr hr=>?_) ?_
 .rcases pF hr with h|rfl
  .exact l2 r h
  .exact hm
 .rcases pF hr with h|rfl
  .exact l3 r h
  .rfl
 .unfold ix
  split
  .rename_i aR
   split
   .rw[QQ]
    refine⟨hd.sublist (List.eraseIdx_sublist _ _),by simp,λa ha b hb=>?_⟩;simp at hb;subst hb;obtain⟨i,hi,aT,rfl⟩:=List.mem_eraseIdx_iff_getElem.1 ha;have:=Sy l4 hi aT
    rwa [show rs.getD i dr=rs[i] by simp[Iq,Ie hi]] at this
   .exact hd
  .rename_i aR
   rw[QQ];refine⟨hd,by simp,λa ha b hb=>?_⟩;simp at hb;subst hb;obtain⟨i,hi,rfl⟩:=I3 ha;have:=Bu aR i hi
   rwa [show rs.getD i dr=rs[i] by simp[Iq,Ie hi]] at this
theorem jR{ms:List Mem}(h1:ms.length<=20)(h2:bl ms)(h3:∀m∈ms,m.e=0):bj ms=0:=by
 have kB:∀j (h:j<ms.length),ms.getD j dm=ms[j]:=λj h=>by simp[Iq,Ie h]
 rw[qZ ms h1 (λj hj=>by rw[kB j hj];exact h3 _ (IG _)),if_pos (jF ms h2)]
theorem Kg{ms:List Mem}{m:Mem}(h:bj ms=0)(hm:m.e=0)(hl:(aQ ms m).length<=20):bj (aQ ms m)=0:=by
 obtain⟨_,h2,_⟩:=af h;refine jR hl (iw ms m h2) (λx hx=>?_);rcases fH ms m x hx with rfl|hx
 .exact hm
 .exact lL h x hx
theorem Ed{ms:List Mem}{m:Mem}(h:bj ms=0)(hm:m.e=0):aE ms [m]=if 20<(aQ ms m).length then 2 else 0:=by
 unfold aE aO;rw[if_pos h,jJ,if_pos hm];rfl
def qA(ms:List Mem)(m:Mem):Bool:=match cK ms m.name with
 |none=>true
 |some k=>eH m k
theorem iz(m:Mem):eH m m=false:=by
 unfold eH oU;simp
theorem pG{ms:List Mem}(hr:bl ms)(m:Mem):qA ms m=true↔aQ ms m≠ms:=by
 have cH:=xe hr m.name;have hf:=Sw hr cH;have hh:=da ms m _ _ cH;unfold qA;rw[hf,hh];rcases he:TY ms m.name with _|_
 .simp only[Bool.false_eq_true,if_false,ne_eq,true_iff]
  intro e;have:=congrArg List.length e;have hle:=cH.le;simp at this;omega
 .simp only[if_true]
  rw[he] at cH;have hp:=(cH.is.1 rfl).1;by_cases hn:eH m (ms.getD (tn ms m.name) dm)=true
  .rw[if_pos hn]
   refine⟨λ_ e=>?_,λ_=>hn⟩;have h2:ms.getD (tn ms m.name) dm=m:=by
    have:(ms.set (tn ms m.name) m).getD (tn ms m.name) dm=m:=by simp[Iq,hp]
    rwa [e] at this
   rw[h2,iz] at hn;cases hn
  .rw[if_neg hn]
   exact⟨λh=>absurd h hn,λh=>absurd rfl h⟩
def jB(n:Nd):Nat:=tn n.ms n.name
def pH(n:Nd):Bool:=TY n.ms n.name
def oI(n:Nd):List Mem:=uS n.ms (jB n) (pH n)
def yf(n:Nd):Mem:=fc (oI n) n.name
def ze(n:Nd):Int:=if jq n.ms (jB n) (pH n)=0 then(if jb n.ms (jB n) (pH n)=true then iy n.rs (yf n) else 0) else jq n.ms (jB n) (pH n)
def vK(n:Nd):Nd:=if jb n.ms (jB n) (pH n)=true then{ n with ms:=oI n,rs:=ix n.rs (yf n) } else{ n with ms:=oI n }
def jt(n:Nd)(m:Mem):Nd:=if qA n.ms m=true then{ n with ms:=aQ n.ms m,rs:=ix n.rs m } else{ n with ms:=aQ n.ms m }
def j7(n:Nd)(m:Mem):Int:=if aE n.ms [m]=0 then(if qA n.ms m=true then iy n.rs m else 0) else aE n.ms [m]
def ma(n:Nd)(m:Mem):Int:=if j7 n m=0 then(if m.name=n.name then ze (jt n m) else 0) else j7 n m
def nG(n:Nd)(m:Mem):Nd:=if m.name=n.name then vK (jt n m) else jt n m
theorem SA{ms:List Mem}{t:ByteArray}{p:Nat}(h:At ms t p true):fc ms t=ms.getD p dm:=kO (gA h)
theorem Bv{ms:List Mem}{t:ByteArray}{p:Nat}(h:At ms t p true){x:Mem}(hx:x.name=t):At (ms.set p x) t p true:=by
 obtain⟨h1,h2⟩:=h.is.1 rfl;have hg:∀j,(ms.set p x).getD j dm=if j=p then x else ms.getD j dm:=λj=>by
  by_cases e:j=p
  .subst e;simp[Iq,h1]
  .simp[Iq,List.getElem?_set_ne (Ne.symm e),e]
 refine⟨by rw[IT];exact h.le,λj hj=>?_,λj hj hl=>?_,⟨λ_=>⟨by rw[IT];exact h1,?_⟩,λ_=>rfl⟩⟩
 .rw[hg j,if_neg (by omega)];exact h.lo j hj
 .rw[hg j]
  split
  .rw[hx,(bR t t).2 rfl];omega
  .rw[IT] at hl;exact h.hi j hj hl
 .rw[hg p,if_pos rfl,hx];exact(bR t t).2 rfl
theorem kC(m:Mem):m.e=0↔ba m.name=true/\within m.state 1 4=true/\within m.aM 1 1000000=true/\within m.addr 0 4294967295=true:=by
 unfold Mem.e uI;constructor
 .intro h
  split at h
  .rename_i h1
   split at h
   .rename_i h2
    split at h
    .rename_i h3
     split at h
     .rename_i h4;exact⟨h1,h2,h3,h4⟩
     .cases h
    .cases h
   .cases h
  .cases h
 .rintro⟨h1,h2,h3,h4⟩
  rw[if_pos h1,if_pos h2,if_pos h3,if_pos h4]
theorem Q2{n a b:Int}:within n a b=true↔a<=n/\n<=b:=by unfold within;rw[IW,decide_eq_true_eq,decide_eq_true_eq]
theorem zh{m:Mem}(h:m.e=0)(hl:m.aM≠1000000):(cL m).e=0:=by
 obtain⟨h1,h2,h3,h4⟩:=(kC m).1 h;rw[Q2] at h3;exact(kC _).2 ⟨h1,rfl,Q2.2 ⟨by show(1:Int)<=m.aM+1;omega,by show m.aM+1<=1000000;omega⟩,h4⟩
theorem pI{n:Nd}(h:bj n.ms=0)(hR:jb n.ms (jB n) (pH n)=true) :
 pH n=true/\At n.ms n.name (jB n) true/\oI n=n.ms.set (jB n) (cL (n.ms.getD (jB n) dm))/\yf n=cL (n.ms.getD (jB n) dm)/\(yf n).e=0/\(n.ms.getD (jB n) dm).name=n.name/\jB n<n.ms.length:=by
 have hr:=(af h).2.1;have cH:At n.ms n.name (jB n) (pH n):=xe hr n.name;have hR2:=hR;unfold jb at hR;rw[IW,IW] at hR;obtain⟨⟨h1,_⟩,h3⟩:=hR;rw[h1] at cH;obtain⟨hp,hc⟩:=cH.is.1 rfl;have hn:=(bR _ _).1 hc;have hL:oI n=n.ms.set (jB n) (cL (n.ms.getD (jB n) dm)):=by unfold oI uS;rw[if_pos hR2]
 have hM:yf n=cL (n.ms.getD (jB n) dm):=by
  unfold yf;rw[hL,SA (Bv cH (x:=cL (n.ms.getD (jB n) dm)) hn)];simp[Iq,hp]
 have he:(n.ms.getD (jB n) dm).e=0:=lL h _ (by rw[show n.ms.getD (jB n) dm=n.ms[jB n] by simp[Iq,Ie hp]];exact IG _);exact⟨h1,cH,hL,hM,by rw[hM];exact zh he (by simpa using h3),hn,hp⟩
theorem MS{ms:List Mem}{p:Nat}{f:Bool}(h:∀m∈ms,m.name.size<=Io):∀m∈uS ms p f,m.name.size<=Io:=by
 intro m hm;unfold uS at hm;split at hm
 .rcases List.mem_or_eq_of_mem_set hm with hm|rfl
  .exact h m hm
  .exact cy h p
 .exact h m hm
theorem xh{ms:List Mem}{p:Nat}{f:Bool}(h:jb ms p f=true):jq ms p f=0:=by
 unfold jb at h;unfold jq;rw[IW] at h;obtain⟨h1,h2⟩:=h;simp only[Bool.not_eq_true'] at h2;rw[h2];simp
theorem Bw(L b:Nat)(n:Nd)(w:World)(h:Wk L w b n)(hL:L<=b)(hU:bj n.ms=0)(nx:dV n.rs=0)(hl:ba n.name=true) :
 aF 108 #[If (AI ⟨b,0,be⟩)] w λe w'=>e=.returned (U O (ze n))/\Sh (λk=>k=b) w w'/\Hid (ze n=0->Wk L w' b (vK n)):=by
 have pD:Hid (Wk L w b n):=h;have aN:=h.lt;obtain⟨vm,vr,vs,vg,vw,h1,h2,h3,h4⟩:=h;have l9:Hid _:=h2.is h4;obtain⟨am,cm,nF,_⟩:=aA h2.ms;subst nF;have HRF:Hid (∀W,Below w.heap.size w W->aF 169 #[J am n.ms.length cm,Y n.name] W λe w'=>∃a k c,e=.returned (Im #[J a k c,Ia (jb n.ms (jB n) (pH n)),U O (jq n.ms (jB n) (pH n))])/\Below W.heap.size W w'/\(jq n.ms (jB n) (pH n)=0->Own W.heap.size w' (J a k c) (oI n))):=λW hW=>by
  refine(zi n.ms _ n.name W (l9.out.ms.below hW) hU h4.name hl (jB n) (pH n) (xe (af hU).2.1 n.name)).mono ?_;rintro e w' ⟨v',rfl,hb,hx,ho⟩;by_cases h0:jq n.ms (jB n) (pH n)=0
  .obtain⟨a,c,rfl,_⟩:=aA (ho h0)
   exact⟨a,_,c,rfl,hb,λ_=>ho h0⟩
  .rw[hx h0]
   exact⟨be,0,0,rfl,hb,λh=>absurd h h0⟩
 have tr:Hid (∀W w1 a k c,Below w.heap.size w W->Below W.heap.size W w1->(jq n.ms (jB n) (pH n)=0->Own W.heap.size w1 (J a k c) (oI n))->jq n.ms (jB n) (pH n)=0->Wk L (w1.setCell ⟨b,2,be⟩ (J a k c)) b { n with ms:=oI n }):=λW w1 a k c hW h1 h2 h0=>
  (pD.out.below hW).H5 (by have:=hW.size;omega) h1 (h2 h0) (MS h4.ms)
 have HX:Hid (∀W,Below w.heap.size w W->W.heap[b]?=AI (.cells (dw n (J am n.ms.length cm) vr vs vg vw) 90 (0,0))):=λW hW=>(hW.block _ aN).trans h1;have MT:Hid (∀W,jb n.ms (jB n) (pH n)=true->Wk L W b { n with ms:=oI n }->aF 107 #[If (AI ⟨b,0,be⟩),Y n.name] W λe w'=>e=.returned (U O (iy n.rs (yf n)))/\Sh (λk=>k=b) W w'/\(iy n.rs (yf n)=0->Wk L w' b { n with ms:=oI n,rs:=ix n.rs (yf n) })):=λW hR hW=>by
  obtain⟨_,_,f3,f4,f5,f6,f7⟩:=pI hU hR;exact tp L b { n with ms:=oI n } n.name (yf n) W hW hL (by show(oI n).length<=1000;rw[f3,IT];have:=(af hU).1;omega) nx rfl f5 (by rw[f4];show(n.ms.getD (jB n) dm).name.size<=Io;rw[f6];exact h4.name)
 have HE:Hid (jb n.ms (jB n) (pH n)=true->ze n=iy n.rs (yf n)/\vK n={ n with ms:=oI n,rs:=ix n.rs (yf n) }):=λhR=>by
  unfold ze vK;rw[if_pos (xh hR),if_pos hR,if_pos hR];exact⟨rfl,rfl⟩
 have kx:Hid (jb n.ms (jB n) (pH n)=false->ze n=jq n.ms (jB n) (pH n)/\vK n={ n with ms:=oI n }):=λhR=>by
  unfold ze vK;rw[hR];simp only[Bool.false_eq_true,if_false];refine⟨?_,trivial⟩;split
  .rename_i h;exact h.symm
  .rfl
 have HEZ:Hid (jb n.ms (jB n) (pH n)=true->jq n.ms (jB n) (pH n)=0):=λhR=>xh hR;have y0:=ae h1 0;have y2:=ae h1 2;have MU:Hid (∀W,Wk L W b { n with ms:=oI n }->W.cell? ⟨b,0,be⟩=AI (Y n.name)):=λW hW=>by
  obtain⟨_,_,_,_,_,g1,_⟩:=hW;exact ae g1 0
 generalize ze n=res at *;generalize jq n.ms (jB n) (pH n)=re at *;generalize jb n.ms (jB n) (pH n)=rr at *;generalize iy n.rs (yf n)=pe at *;generalize CZ:n.ms.length=km at *;clear CZ h1 h2 h3 h4 hU nx;go_enter Tryz.func108,Tryz.ntmps108;go_wp2_with fail;go_region_with (first|(go_at_call 169;refine(HRF.out _ (Below.refl _ _).drew).mono ?_;rintro e w1 ⟨a,k,c,rfl,aB,yN⟩;have aY:Hid (Below w.heap.size w w1):=(Below.refl w.heap.size w).drew.trans aB;have lz:Hid (re=0->Wk L (w1.setCell ⟨b,2,be⟩ (J a k c)) b { n with ms:=oI n }):=tr.out _ _ a k c (Below.refl _ _).drew aB yN;have hJ:=HX.out w1 aY.out;have z2:w1.cell? ⟨b,2,be⟩=AI (J am km cm):=ae hJ 2;have zf:w1.frozen? ⟨b,2,be⟩=false:=an hJ 2;have uJ:Hid (w1.heap[b]?=AI (.cells (dw n (J am km cm) vr vs vg vw) 90 (0,0))):=hJ;clear aB yN hJ))
 all_goals
  obtain⟨W2,bL⟩:∃W2,W2=w1.setCell ⟨b,2,be⟩ (J a k c):=⟨_,rfl⟩;rw[<- bL] at lz;have xi:Hid (Sh (λk=>k=b) w W2):=by rw[bL];exact(Sh.of aY.out).setCell (S:=λk=>k=b) rfl _
  rw[<- bL];clear bL z2 zf y0 y2;cases rr
  .obtain⟨e1,e2⟩:=kx.out rfl
   have HR:Hid _:=e1;have HN:Hid _:=e2;clear e1 e2 HE kx MT;go_wp2_with fail;go_ret;exact⟨ai HR.out.symm,xi.out,λh=>by rw[HN.out];exact lz.out (HR.out.symm.trans h)⟩
  .obtain⟨e1,e2⟩:=HE.out rfl
   have HR:Hid _:=e1;have HN:Hid _:=e2;have C5:=lz.out (HEZ.out rfl);have HTC:Hid (aF _ _ _ _):=MT.out W2 rfl C5;have y0:=MU.out W2 C5;clear e1 e2 HE kx MT C5 lz;go_wp2_with fail;refine HTC.out.mono ?_;rintro e w4 ⟨rfl,D8,TZ⟩;have MV:Hid _:=xi.out.trans D8;have DP:Hid _:=TZ;clear D8 TZ;go_wp2_with fail;go_ret;exact⟨ai HR.out.symm,MV.out,λh=>by rw[HN.out];exact DP.out (HR.out.symm.trans h)⟩
end Go.Proofs.YtfidhgjmifendaaGreatDoor
