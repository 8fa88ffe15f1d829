import Derived.Test.YtfidjlcdlakceaaGreatDoortf30
set_option maxHeartbeats 12800000
set_option maxRecDepth 100000
open Go.Value renaming int→O,tuple→Il,string→I,bool→AI,slice→U,pointer→If
open Go.IntKind renaming i64→J
open Go.Ending renaming returned→sh
open Go.Proofs.Tryz renaming prog→be,func219→Qq,ntmps219→Qc
open List renaming getD→Io,getElem?_eq_getElem→Ic,findIdx_le_length→QW,pairwise_iff_getElem→Jh,length_append→Ii,mem_append→JU,getElem_of_mem→Jw,getElem_mem→IV,pairwise_append→Uf,length_set→Jb
open Bool renaming and_eq_true→IJ
open Option renaming some→Z,none→Y
open Go renaming maxLen→Ij,wp_loop_rounds→JT,rounds_succ→JC
namespace Go.Proofs.YtfidjlcdlakceaaGreatDoor
open Go.RowKit
theorem Kk(m:Int)(w:World)(h:within m 0 20=true) :
 Calls be 106 #[O J m] w λe w'=>e=sh (Il #[O J (3*(Lib.bitLen m.toNat:Nat)),O J 0])/\w'=w:=by
 have hm:0<=m/\m<=20:=by simp[within] at h;omega
 have hl:(Lib.bitLen m.toNat:Int)<=64:=by have:=Lib.bitLen_le m.toNat 64 (by omega) (by omega);omega
 go_enter Tryz.func106,Tryz.ntmps106;go_wp2_with (first|(go_at_call 70;refine(bD _ _ _ _).mono ?_;rintro e w' ⟨rfl,rfl⟩;rw[h])|(go_at_call 159;refine(Tryz.bits_Len _ _ (by omega) (by omega)).mono ?_;rintro e w' ⟨rfl,rfl⟩));go_ret2;exact⟨rfl,rfl⟩
def uF(ms:List Mem)(t:ByteArray):Nat:=ms.findIdx λm => !decide (bz m.name t<0)
def isM(ms:List Mem)(t:ByteArray):Bool:=decide (uF ms t<ms.length)&&decide (bz (ms.getD (uF ms t) dm).name t=0)
theorem DR{ms:List Mem}(hr:bO ms)(t:ByteArray):At ms t (uF ms t) (isM ms t):=by
 have ln:∀j (h:j<ms.length),ms.getD j dm=ms[j]:=λj h=>by simp[Io,Ic h]
 refine⟨QW,λj hj=>?_,λj hj hl=>?_,?_⟩
 .have hl:j<ms.length:=Nat.lt_of_lt_of_le hj QW
  have h:=List.not_of_lt_findIdx hj;rw[ln j hl];simpa using h
 .have hp:uF ms t<ms.length:=by omega
  have h:=List.findIdx_getElem (xs:=ms) (p:=λm:Mem => !decide (bz m.name t<0)) (w:=hp);apply Int.not_lt.1;intro hx;have h2:=dG hr t (uF ms t) j hj hl hx;rw[ln _ hp] at h2;have h3:(!decide (bz (ms[uF ms t]'hp).name t<0))=true:=h;rw[decide_eq_true h2] at h3;cases h3
 .unfold isM
  rw[IJ,decide_eq_true_eq,decide_eq_true_eq]
theorem rT{ms:List Mem}{t:ByteArray}{p:Nat}(h:At ms t p true):du ms t=Z (ms.getD p dm):=by
 obtain⟨h1,h2⟩:=h.is.1 rfl;refine qv h1 (λj hj e=>?_) ((cU _ _).1 h2);have:=h.lo j hj;rw[e,(cU t t).2 rfl] at this;omega
theorem Bn{ms:List Mem}{t:ByteArray}{p:Nat}(hr:bO ms)(h:At ms t p false):du ms t=Y:=by
 refine qu λj hj e=>?_;have ln:∀j (h:j<ms.length),ms.getD j dm=ms[j]:=λj h=>by simp[Io,Ic h]
 have h2:At ms t j true:=by
  refine⟨by omega,λi hi=>?_,λi hi hl=>?_,⟨λ_=>⟨hj,(cU _ _).2 e⟩,λ_=>rfl⟩⟩
  .have:=Jh.1 hr i j (by omega) hj hi
   rw[<- e,fu,ln i (by omega),ln j hj];exact this
  .rcases Nat.lt_or_eq_of_le hi with h3|rfl
   .have:=Jh.1 hr j i hj hl h3
    have h4:0<bz (ms.getD i dm).name t:=by rw[<- e,mV,ln i hl,ln j hj];exact this
    omega
   .rw[(cU _ _).2 e];omega
 have:=(eV h h2).2;cases this
theorem aa2{ms:List Mem}{t:ByteArray}{p:Nat}{f:Bool}(hr:bO ms)(h:At ms t p f):du ms t=if f=true then Z (ms.getD p dm) else Y:=by
 cases f
 .rw[Bn hr h];rfl
 .rw[rT h];rfl
theorem aa3{a b:ByteArray}(h:bz a b<0):a≠b:=λe=>by rw[(cU a b).2 e] at h;omega
theorem pM(x:Mem)(r:List Mem)(t:ByteArray):du (x::r) t=if x.name=t then Z x else du r t:=by
 unfold du;rw[List.find?_cons];by_cases h:x.name=t<;>simp[h]
theorem Bo(m:Mem):∀ms,aZ ms m≠ms->du (aZ ms m) m.name=Z m
 |[],_=>by rw[aZ,pM,if_pos rfl]
 |x::r,h=>by
  rw[aZ] at h ⊢;split
  .rename_i h1
   rw[if_pos h1] at h;rw[pM,if_neg (aa3 h1)];exact Bo m r (λe=>h (by rw[e]))
  .rename_i h1
   rw[if_neg h1] at h;split
   .rename_i h2
    rw[if_pos h2] at h;split
    .rw[pM,if_pos rfl]
    .rename_i h3;rw[if_neg h3] at h;exact absurd rfl h
   .rw[pM,if_pos rfl]
def Bp(rs:List bE)(t:ByteArray):Nat:=rs.findIdx λr=>decide (r.m.name=t)
theorem PT{rs:List bE}{t:ByteArray}{j:Nat}(h:j<Bp rs t):(rs.getD j dr).m.name≠t:=by
 have hl:=Nat.lt_of_lt_of_le h QW;have h:=List.not_of_lt_findIdx h;rw[show rs.getD j dr=rs[j] by simp[Io,Ic hl]];simpa using h
theorem DS{rs:List bE}{t:ByteArray}(h:Bp rs t<rs.length):(rs.getD (Bp rs t) dr).m.name=t:=by
 have h2:=List.findIdx_getElem (xs:=rs) (p:=λr:bE=>decide (r.m.name=t)) (w:=h);rw[show rs.getD (Bp rs t) dr=rs[Bp rs t] by simp[Io,Ic h]];exact of_decide_eq_true h2
theorem DT{rs:List bE}{t:ByteArray}(h:¬ Bp rs t<rs.length):E5 rs t:=λj hj=>PT (by
 have:Bp rs t<=rs.length:=QW
 omega)
theorem aa4{rs:List bE}(hd:ev rs){t:ByteArray}{j:Nat}(hj:j<rs.length)(bu:j≠Bp rs t):(rs.getD j dr).m.name≠t:=by
 rcases Nat.lt_or_ge j (Bp rs t) with h|h
 .exact PT h
 .have aL:Bp rs t<j:=by omega
  intro e;exact hd (Bp rs t) j aL hj (by rw[e];exact DS (by omega))
def iF(rs:List bE)(m:Mem):List bE:=
 if Bp rs m.name<rs.length then(if jG m (rs.getD (Bp rs m.name) dr).m=true then rs.eraseIdx (Bp rs m.name)++[⟨m,0⟩] else rs) else rs++[⟨m,0⟩]
def gW(rs:List bE)(m:Mem):Int:=if 20<(iF rs m).length then 2 else 0
theorem Vn(rs:List bE)(v:Value)(m:Mem)(w:World)(hv:mj w v rs)(hm:m.name.size<=Ij)(h0:ee rs=0)(he:m.e=0) :
 aP 203 #[v,.agg #[I m.name,O J m.state,O J m.aX,O J m.addr,AI m.server]] w λe w'=>∃a k c,e=sh (Il #[U a k c,O J (gW rs m)])/\Below w.heap.size w w'/\(gW rs m=0->cd w.heap.size w' (U a k c) (iF rs m)):=by
 have hl:=(ll h0).1;have sl:∀{W:World} {B:Nat} {u:Value} {l:List bE},cd B W u l->∃a k c,u=U a k c:=λh=>by
  obtain⟨a,c,e⟩:=h.slice;exact⟨a,_,c,e⟩
 by_cases hp:Bp rs m.name<rs.length
 .rcases hn:jG m (rs.getD (Bp rs m.name) dr).m with _|_
  .have e1:iF rs m=rs:=by unfold iF;rw[if_pos hp,if_neg (by rw[hn];simp)]
   have e2:gW rs m=0:=by unfold gW;rw[e1,if_neg (by omega)]
   refine(Vg rs v m w hv hm h0 he _ hp (DS hp) hn).mono ?_;rintro e w' ⟨v',rfl,ho,hb⟩;obtain⟨a,k,c,rfl⟩:=sl ho;exact⟨a,k,c,by rw[e2],hb,λ_=>by rw[e1];exact ho⟩
  .have e1:iF rs m=rs.eraseIdx (Bp rs m.name)++[⟨m,0⟩]:=by unfold iF;rw[if_pos hp,if_pos hn]
   have e2:gW rs m=0:=by unfold gW;rw[e1,if_neg (by rw[Ii,List.length_eraseIdx_of_lt hp];simp;omega)]
   refine(Ke rs v m w hv hm h0 he _ hp (DS hp) hn).mono ?_;rintro e w' ⟨v',rfl,ho,hb⟩;obtain⟨a,k,c,rfl⟩:=sl ho;exact⟨a,k,c,by rw[e2],hb,λ_=>by rw[e1];exact ho⟩
 .have e1:iF rs m=rs++[⟨m,0⟩]:=by unfold iF;rw[if_neg hp]
  by_cases hf:rs.length=20
  .have e2:gW rs m=2:=by unfold gW;rw[e1,if_pos (by rw[Ii];simp;omega)]
   refine(PC rs v m w hv hm h0 he (DT hp) hf).mono ?_;rintro e w' ⟨rfl,hb⟩;exact⟨Y,0,0,by rw[e2],hb,λh=>by rw[e2] at h;cases h⟩
  .have e2:gW rs m=0:=by unfold gW;rw[e1,if_neg (by rw[Ii];simp;omega)]
   refine(Tt rs v m w hv hm h0 he (DT hp) (by omega)).mono ?_;rintro e w' ⟨v',rfl,ho,hb⟩;obtain⟨a,k,c,rfl⟩:=sl ho;exact⟨a,k,c,by rw[e2],hb,λ_=>by rw[e1];exact ho⟩
theorem Vo{rs:List bE}{m:Mem}(h:∀r∈rs,r.m.name.size<=Ij)(hm:m.name.size<=Ij):∀r∈iF rs m,r.m.name.size<=Ij:=by
 intro r hr;unfold iF at hr;split at hr
 .split at hr
  .rcases JU.1 hr with hr|hr
   .exact h r (List.mem_of_mem_eraseIdx hr)
   .simp at hr;subst hr;exact hm
  .exact h r hr
 .rcases JU.1 hr with hr|hr
  .exact h r hr
  .simp at hr;subst hr;exact hm
theorem uG(L b:Nat)(n:Nd)(t:ByteArray)(m:Mem)(w:World)(h:Wk L w b n)(hL:L<=b)(j5:n.ms.length<=1000)(sX:ee n.rs=0)(hm:eD n.ms t=m)(he:m.e=0)(bA:m.name.size<=Ij) :
 aP 145 #[If (Z ⟨b,0,Y⟩),I t] w λe w'=>e=sh (O J (gW n.rs m))/\Sh (λk=>k=b) w w'/\(gW n.rs m=0->Wk L w' b { n with rs:=iF n.rs m }):=by
 have sA:Hid (Wk L w b n):=h;have aU:=h.lt;obtain⟨vm,vr,vs,vg,vw,h1,h2,h3,h4⟩:=h;have ze:Hid _:=h2.is h4;obtain⟨am,cm,sG,_⟩:=az h2.ms;obtain⟨ar,cr,zh,_⟩:=az h2.rs;subst sG zh;have Vj:Hid (nZ 104 #[If (Z ⟨b,0,Y⟩),I t] w (Il #[.agg #[I m.name,O J m.state,O J m.aX,O J m.addr,AI m.server],AI (du n.ms t).isSome])):=by
  have hq:=jW b am n.ms.length cm n.ms t w (af h1 2) ze.out.ms j5;rw[hm] at hq;exact hq
 have SO:Hid (∀W,Below w.heap.size w W->aP _ _ _ _):=λW hW=>Vn n.rs _ m W (ze.out.rs.below hW) bA sX he;have PU:Hid (∀W w1 a k c,Below w.heap.size w W->Below W.heap.size W w1->(gW n.rs m=0->cd W.heap.size w1 (U a k c) (iF n.rs m))->gW n.rs m=0->Wk L (w1.setCell ⟨b,3,Y⟩ (U a k c)) b { n with rs:=iF n.rs m }):=λW w1 a k c hW h1 h2 h0=>
  (sA.out.below hW).PQ (by have:=hW.size;omega) h1 (h2 h0) (Vo h4.rs bA)
 have HX:Hid (∀W,Below w.heap.size w W->W.heap[b]?=Z (.cells (fD n (U am n.ms.length cm) (U ar n.rs.length cr) vs vg vw) 81 (0,0))):=λW hW=>(hW.block _ aU).trans h1;have y2:=af h1 2;generalize gW n.rs m=pe at *;generalize Vp:n.rs.length=kr at *;generalize vu:n.ms.length=km at *;clear Vp vu h1 h2 h3 h4 hm he sX;generalize(du n.ms t).isSome=fd at *;obtain⟨mn,st,lf,ad,sv⟩:=m;simp only at Vj SO bA;go_enter Tryz.func145,Tryz.ntmps145;go_wp2_with fail;refine Vj.out.mono ?_;rintro e w1 ⟨rfl,al⟩;obtain⟨W2,eX⟩:∃W2,W2=w1.alloc (.cells #[I mn,O J st,O J lf,O J ad,AI sv] 70):=⟨_,rfl⟩;have aC:Below w.heap.size w W2:=by rw[eX];exact al.alloc al.size _
 have bw:Hid _:=aC;have iL:W2.heap[w1.heap.size]?=Z (.cells #[I mn,O J st,O J lf,O J ad,AI sv] 70 (0,0)):=by rw[eX];exact heap_alloc_new w1 _
 obtain⟨x0,x1,x2,x3,x4⟩:=zd iL;have y3:=af (HX.out W2 aC) 3;go_upto_region 2 with fail
 rw[<- eX];clear eX al aC iL y2 Vj;have Hz:b<W2.heap.size:=by have:=bw.out.size;omega
 go_region_with (first|(go_at_call 203;refine(SO.out _ bw.out.drew).mono ?_;rintro e w3 ⟨a,k,c,rfl,bf,nf⟩;have da:Hid (Below W2.heap.size W2 w3):=(Below.refl W2.heap.size W2).drew.trans bf;have eB:Hid (pe=0->Wk L (w3.setCell ⟨b,3,Y⟩ (U a k c)) b { n with rs:=iF n.rs ⟨mn,st,lf,ad,sv⟩ }):=PU.out _ _ a k c bw.out.drew bf nf;have eu:=HX.out w3 (bw.out.trans (da.out.mono bw.out.size));have z3:w3.cell? ⟨b,3,Y⟩=Z (U ar kr cr):=af eu 3;have zf:w3.frozen? ⟨b,3,Y⟩=false:=dZ eu 3;clear bf nf eu))
 all_goals
  go_wp2_with fail;go_ret;exact⟨rfl,((Sh.of bw.out).next da.out).setCell (S:=λk=>k=b) rfl _,eB.out⟩
theorem rU(rs:List bE):ev rs↔rs.Pairwise λa b=>a.m.name≠b.m.name:=by
 have ln:∀j (h:j<rs.length),rs.getD j dr=rs[j]:=λj h=>by simp[Io,Ic h]
 rw[Jh];exact⟨λh i j hi hj lO=>by have:=h i j lO hj;rwa [ln i hi,ln j hj] at this,λh i j lO hj=>by rw[ln i (by omega),ln j hj];exact h i j (by omega) hj lO⟩
theorem Bq(rs:List bE):gy rs↔∀r∈rs,within r.told 0 100=true:=by
 have ln:∀j (h:j<rs.length),rs.getD j dr=rs[j]:=λj h=>by simp[Io,Ic h]
 constructor
 .intro h r hr
  obtain⟨j,hj,rfl⟩:=Jw hr;have:=h j hj;rwa [ln j hj] at this
 .intro h j hj
  rw[ln j hj];exact h _ (IV _)
theorem Vq{rs:List bE}(h1:rs.length<=20)(h2:∀r∈rs,r.m.e=0)(h3:∀r∈rs,within r.told 0 100=true)(h4:rs.Pairwise λa b=>a.m.name≠b.m.name):ee rs=0:=by
 have ln:∀j (h:j<rs.length),rs.getD j dr=rs[j]:=λj h=>by simp[Io,Ic h]
 exact EY h1 (λj hj=>by rw[ln j hj];exact h2 _ (IV _)) ((Bq rs).2 h3) ((rU rs).2 h4)
theorem Br{rs:List bE}{m:Mem}{r:bE}(h:r∈iF rs m):r∈rs\/r=⟨m,0⟩:=by
 unfold iF at h;split at h
 .split at h
  .rcases JU.1 h with h|h
   .exact .inl (List.mem_of_mem_eraseIdx h)
   .exact .inr (by simpa using h)
  .exact .inl h
 .rcases JU.1 h with h|h
  .exact .inl h
  .exact .inr (by simpa using h)
theorem Bs{rs:List bE}{m:Mem}(h:ee rs=0)(hm:m.e=0)(hp:gW rs m=0):ee (iF rs m)=0:=by
 obtain⟨l1,l2,l3,l4⟩:=ll h;have hlen:(iF rs m).length<=20:=by
  unfold gW at hp;split at hp
  .cases hp
  .omega
 rw[Bq] at l3;have hd:=(rU rs).1 l4;refine Vq hlen (λr hr=>?_) (λr hr=>?_) ?_
 .rcases Br hr with h|rfl
  .exact l2 r h
  .exact hm
 .rcases Br hr with h|rfl
  .exact l3 r h
  .rfl
 .unfold iF
  split
  .rename_i aL
   split
   .rw[Uf]
    refine⟨hd.sublist (List.eraseIdx_sublist _ _),by simp,λa ha b hb=>?_⟩;simp at hb;subst hb;obtain⟨i,hi,bu,rfl⟩:=List.mem_eraseIdx_iff_getElem.1 ha;have:=aa4 l4 hi bu
    rwa [show rs.getD i dr=rs[i] by simp[Io,Ic hi]] at this
   .exact hd
  .rename_i aL
   rw[Uf];refine⟨hd,by simp,λa ha b hb=>?_⟩;simp at hb;subst hb;obtain⟨i,hi,rfl⟩:=Jw ha;have:=DT aL i hi
   rwa [show rs.getD i dr=rs[i] by simp[Io,Ic hi]] at this
theorem PV{ms:List Mem}(h1:ms.length<=20)(h2:bO ms)(h3:∀m∈ms,m.e=0):ba ms=0:=by
 have ln:∀j (h:j<ms.length),ms.getD j dm=ms[j]:=λj h=>by simp[Io,Ic h]
 rw[rD ms h1 (λj hj=>by rw[ln j hj];exact h3 _ (IV _)),if_pos (Bt ms h2)]
theorem PW{ms:List Mem}{m:Mem}(h:ba ms=0)(hm:m.e=0)(hl:(aZ ms m).length<=20):ba (aZ ms m)=0:=by
 obtain⟨_,h2,_⟩:=aF h;refine PV hl (jC ms m h2) (λx hx=>?_);rcases gX ms m x hx with rfl|hx
 .exact hm
 .exact qR h x hx
theorem Kl{ms:List Mem}{m:Mem}(h:ba ms=0)(hm:m.e=0):aA ms [m]=if 20<(aZ ms m).length then 2 else 0:=by
 unfold aA aJ;rw[if_pos h,jf,if_pos hm];rfl
def uH(ms:List Mem)(m:Mem):Bool:=match du ms m.name with
 |none=>true
 |some k=>jG m k
theorem Km(m:Mem):jG m m=false:=by
 unfold jG Bg;simp
theorem Bu{ms:List Mem}(hr:bO ms)(m:Mem):uH ms m=true↔aZ ms m≠ms:=by
 have cA:=DR hr m.name;have hf:=aa2 hr cA;have hh:=dM ms m _ _ cA;unfold uH;rw[hf,hh];rcases he:isM ms m.name with _|_
 .simp only[Bool.false_eq_true,if_false,ne_eq,true_iff]
  intro e;have:=congrArg List.length e;have hle:=cA.le;simp at this;omega
 .simp only[if_true]
  rw[he] at cA;have hp:=(cA.is.1 rfl).1;by_cases hn:jG m (ms.getD (uF ms m.name) dm)=true
  .rw[if_pos hn]
   refine⟨λ_ e=>?_,λ_=>hn⟩;have h2:ms.getD (uF ms m.name) dm=m:=by
    have:(ms.set (uF ms m.name) m).getD (uF ms m.name) dm=m:=by simp[Io,hp]
    rwa [e] at this
   rw[h2,Km] at hn;cases hn
  .rw[if_neg hn]
   exact⟨λh=>absurd h hn,λh=>absurd rfl h⟩
def lL(n:Nd):Nat:=uF n.ms n.name
def sY(n:Nd):Bool:=isM n.ms n.name
def wQ(n:Nd):List Mem:=Ab n.ms (lL n) (sY n)
def Kn(n:Nd):Mem:=eD (wQ n) n.name
def DU(n:Nd):Int:=if jJ n.ms (lL n) (sY n)=0 then(if jI n.ms (lL n) (sY n)=true then gW n.rs (Kn n) else 0) else jJ n.ms (lL n) (sY n)
def Ko(n:Nd):Nd:=if jI n.ms (lL n) (sY n)=true then{ n with ms:=wQ n,rs:=iF n.rs (Kn n) } else{ n with ms:=wQ n }
def nD(n:Nd)(m:Mem):Nd:=if uH n.ms m=true then{ n with ms:=aZ n.ms m,rs:=iF n.rs m } else{ n with ms:=aZ n.ms m }
def lr(n:Nd)(m:Mem):Int:=if aA n.ms [m]=0 then(if uH n.ms m=true then gW n.rs m else 0) else aA n.ms [m]
def nE(n:Nd)(m:Mem):Int:=if lr n m=0 then(if m.name=n.name then DU (nD n m) else 0) else lr n m
def sZ(n:Nd)(m:Mem):Nd:=if m.name=n.name then Ko (nD n m) else nD n m
theorem aa5{ms:List Mem}{t:ByteArray}{p:Nat}(h:At ms t p true):eD ms t=ms.getD p dm:=kG (rT h)
theorem aa6{ms:List Mem}{t:ByteArray}{p:Nat}(h:At ms t p true){x:Mem}(hx:x.name=t):At (ms.set p x) t p true:=by
 obtain⟨h1,h2⟩:=h.is.1 rfl;have hg:∀j,(ms.set p x).getD j dm=if j=p then x else ms.getD j dm:=λj=>by
  by_cases e:j=p
  .subst e;simp[Io,h1]
  .simp[Io,List.getElem?_set_ne (Ne.symm e),e]
 refine⟨by rw[Jb];exact h.le,λj hj=>?_,λj hj hl=>?_,⟨λ_=>⟨by rw[Jb];exact h1,?_⟩,λ_=>rfl⟩⟩
 .rw[hg j,if_neg (by omega)];exact h.lo j hj
 .rw[hg j]
  split
  .rw[hx,(cU t t).2 rfl];omega
  .rw[Jb] at hl;exact h.hi j hj hl
 .rw[hg p,if_pos rfl,hx];exact(cU t t).2 rfl
theorem zi(m:Mem):m.e=0↔aN m.name=true/\within m.state 1 4=true/\within m.aX 1 1000000=true/\within m.addr 0 4294967295=true:=by
 unfold Mem.e wk;constructor
 .intro h
  split at h
  .rename_i h1
   split at h
   .rename_i h2
    split at h
    .rename_i h3
     split at h
     .rename_i h4;exact⟨h1,h2,h3,h4⟩
     .cases h
    .cases h
   .cases h
  .cases h
 .rintro⟨h1,h2,h3,h4⟩
  rw[if_pos h1,if_pos h2,if_pos h3,if_pos h4]
theorem within_iff{n a b:Int}:within n a b=true↔a<=n/\n<=b:=by unfold within;rw[IJ,decide_eq_true_eq,decide_eq_true_eq]
theorem Bv{m:Mem}(h:m.e=0)(hl:m.aX≠1000000):(eo m).e=0:=by
 obtain⟨h1,h2,h3,h4⟩:=(zi m).1 h;rw[within_iff] at h3;exact(zi _).2 ⟨h1,rfl,within_iff.2 ⟨by show(1:Int)<=m.aX+1;omega,by show m.aX+1<=1000000;omega⟩,h4⟩
theorem Bw{n:Nd}(h:ba n.ms=0)(hR:jI n.ms (lL n) (sY n)=true) :
 sY n=true/\At n.ms n.name (lL n) true/\wQ n=n.ms.set (lL n) (eo (n.ms.getD (lL n) dm))/\Kn n=eo (n.ms.getD (lL n) dm)/\(Kn n).e=0/\(n.ms.getD (lL n) dm).name=n.name/\lL n<n.ms.length:=by
 have hr:=(aF h).2.1;have cA:At n.ms n.name (lL n) (sY n):=DR hr n.name;have hR2:=hR;unfold jI at hR;rw[IJ,IJ] at hR;obtain⟨⟨h1,_⟩,h3⟩:=hR;rw[h1] at cA;obtain⟨hp,hc⟩:=cA.is.1 rfl;have hn:=(cU _ _).1 hc;have hL:wQ n=n.ms.set (lL n) (eo (n.ms.getD (lL n) dm)):=by unfold wQ Ab;rw[if_pos hR2]
 have hM:Kn n=eo (n.ms.getD (lL n) dm):=by
  unfold Kn;rw[hL,aa5 (aa6 cA (x:=eo (n.ms.getD (lL n) dm)) hn)];simp[Io,hp]
 have he:(n.ms.getD (lL n) dm).e=0:=qR h _ (by rw[show n.ms.getD (lL n) dm=n.ms[lL n] by simp[Io,Ic hp]];exact IV _);exact⟨h1,cA,hL,hM,by rw[hM];exact Bv he (by simpa using h3),hn,hp⟩
theorem Vr{ms:List Mem}{p:Nat}{f:Bool}(h:∀m∈ms,m.name.size<=Ij):∀m∈Ab ms p f,m.name.size<=Ij:=by
 intro m hm;unfold Ab at hm;split at hm
 .rcases List.mem_or_eq_of_mem_set hm with hm|rfl
  .exact h m hm
  .exact cB h p
 .exact h m hm
theorem zj{ms:List Mem}{p:Nat}{f:Bool}(h:jI ms p f=true):jJ ms p f=0:=by
 unfold jI at h;unfold jJ;rw[IJ] at h;obtain⟨h1,h2⟩:=h;simp only[Bool.not_eq_true'] at h2;rw[h2];simp
theorem DV(L b:Nat)(n:Nd)(w:World)(h:Wk L w b n)(hL:L<=b)(j5:ba n.ms=0)(sX:ee n.rs=0)(hl:aN n.name=true) :
 aP 146 #[If (Z ⟨b,0,Y⟩)] w λe w'=>e=sh (O J (DU n))/\Sh (λk=>k=b) w w'/\Hid (DU n=0->Wk L w' b (Ko n)):=by
 have sA:Hid (Wk L w b n):=h;have aU:=h.lt;obtain⟨vm,vr,vs,vg,vw,h1,h2,h3,h4⟩:=h;have ze:Hid _:=h2.is h4;obtain⟨am,cm,sG,_⟩:=az h2.ms;subst sG;have HRF:Hid (∀W,Below w.heap.size w W->aP 204 #[U am n.ms.length cm,I n.name] W λe w'=>∃a k c,e=sh (Il #[U a k c,AI (jI n.ms (lL n) (sY n)),O J (jJ n.ms (lL n) (sY n))])/\Below W.heap.size W w'/\(jJ n.ms (lL n) (sY n)=0->Own W.heap.size w' (U a k c) (wQ n))):=λW hW=>by
  refine(Ac n.ms _ n.name W (ze.out.ms.below hW) j5 h4.name hl (lL n) (sY n) (DR (aF j5).2.1 n.name)).mono ?_;rintro e w' ⟨v',rfl,hb,hx,ho⟩;by_cases h0:jJ n.ms (lL n) (sY n)=0
  .obtain⟨a,c,rfl,_⟩:=az (ho h0)
   exact⟨a,_,c,rfl,hb,λ_=>ho h0⟩
  .rw[hx h0]
   exact⟨Y,0,0,rfl,hb,λh=>absurd h h0⟩
 have CB:Hid (∀W w1 a k c,Below w.heap.size w W->Below W.heap.size W w1->(jJ n.ms (lL n) (sY n)=0->Own W.heap.size w1 (U a k c) (wQ n))->jJ n.ms (lL n) (sY n)=0->Wk L (w1.setCell ⟨b,2,Y⟩ (U a k c)) b { n with ms:=wQ n }):=λW w1 a k c hW h1 h2 h0=>
  (sA.out.below hW).PO (by have:=hW.size;omega) h1 (h2 h0) (Vr h4.ms)
 have HX:Hid (∀W,Below w.heap.size w W->W.heap[b]?=Z (.cells (fD n (U am n.ms.length cm) vr vs vg vw) 81 (0,0))):=λW hW=>(hW.block _ aU).trans h1;have Vs:Hid (∀W,jI n.ms (lL n) (sY n)=true->Wk L W b { n with ms:=wQ n }->aP 145 #[If (Z ⟨b,0,Y⟩),I n.name] W λe w'=>e=sh (O J (gW n.rs (Kn n)))/\Sh (λk=>k=b) W w'/\(gW n.rs (Kn n)=0->Wk L w' b { n with ms:=wQ n,rs:=iF n.rs (Kn n) })):=λW hR hW=>by
  obtain⟨_,_,f3,f4,f5,f6,f7⟩:=Bw j5 hR;exact uG L b { n with ms:=wQ n } n.name (Kn n) W hW hL (by show(wQ n).length<=1000;rw[f3,Jb];have:=(aF j5).1;omega) sX rfl f5 (by rw[f4];show(n.ms.getD (lL n) dm).name.size<=Ij;rw[f6];exact h4.name)
 have HE:Hid (jI n.ms (lL n) (sY n)=true->DU n=gW n.rs (Kn n)/\Ko n={ n with ms:=wQ n,rs:=iF n.rs (Kn n) }):=λhR=>by
  unfold DU Ko;rw[if_pos (zj hR),if_pos hR,if_pos hR];exact⟨rfl,rfl⟩
 have iN:Hid (jI n.ms (lL n) (sY n)=false->DU n=jJ n.ms (lL n) (sY n)/\Ko n={ n with ms:=wQ n }):=λhR=>by
  unfold DU Ko;rw[hR];simp only[Bool.false_eq_true,if_false];refine⟨?_,trivial⟩;split
  .rename_i h;exact h.symm
  .rfl
 have HEZ:Hid (jI n.ms (lL n) (sY n)=true->jJ n.ms (lL n) (sY n)=0):=λhR=>zj hR;have y0:=af h1 0;have y2:=af h1 2;have HNM:Hid (∀W,Wk L W b { n with ms:=wQ n }->W.cell? ⟨b,0,Y⟩=Z (I n.name)):=λW hW=>by
  obtain⟨_,_,_,_,_,g1,_⟩:=hW;exact af g1 0
 generalize DU n=res at *;generalize jJ n.ms (lL n) (sY n)=re at *;generalize jI n.ms (lL n) (sY n)=rr at *;generalize gW n.rs (Kn n)=pe at *;generalize vu:n.ms.length=km at *;clear vu h1 h2 h3 h4 j5 sX;go_enter Tryz.func146,Tryz.ntmps146;go_wp2_with fail;go_region_with (first|(go_at_call 204;refine(HRF.out _ (Below.refl _ _).drew).mono ?_;rintro e w1 ⟨a,k,c,rfl,al,wY⟩;have aR:Hid (Below w.heap.size w w1):=(Below.refl w.heap.size w).drew.trans al;have j7:Hid (re=0->Wk L (w1.setCell ⟨b,2,Y⟩ (U a k c)) b { n with ms:=wQ n }):=CB.out _ _ a k c (Below.refl _ _).drew al wY;have eu:=HX.out w1 aR.out;have z2:w1.cell? ⟨b,2,Y⟩=Z (U am km cm):=af eu 2;have zf:w1.frozen? ⟨b,2,Y⟩=false:=dZ eu 2;have jo:Hid (w1.heap[b]?=Z (.cells (fD n (U am km cm) vr vs vg vw) 81 (0,0))):=eu;clear al wY eu))
 all_goals
  obtain⟨W2,eX⟩:∃W2,W2=w1.setCell ⟨b,2,Y⟩ (U a k c):=⟨_,rfl⟩;rw[<- eX] at j7;have zk:Hid (Sh (λk=>k=b) w W2):=by rw[eX];exact(Sh.of aR.out).setCell (S:=λk=>k=b) rfl _
  rw[<- eX];clear eX z2 zf y0 y2;cases rr
  .obtain⟨e1,e2⟩:=iN.out rfl
   have HR:Hid _:=e1;have HN:Hid _:=e2;clear e1 e2 HE iN Vs;go_wp2_with fail;go_ret;exact⟨aj HR.out.symm,zk.out,λh=>by rw[HN.out];exact j7.out (HR.out.symm.trans h)⟩
  .obtain⟨e1,e2⟩:=HE.out rfl
   have HR:Hid _:=e1;have HN:Hid _:=e2;have hwk:=j7.out (HEZ.out rfl);have HTC:Hid (aP _ _ _ _):=Vs.out W2 rfl hwk;have y0:=HNM.out W2 hwk;clear e1 e2 HE iN Vs hwk j7;go_wp2_with fail;refine HTC.out.mono ?_;rintro e w4 ⟨rfl,Db,W8⟩;have DW:Hid _:=zk.out.trans Db;have vD:Hid _:=W8;clear Db W8;go_wp2_with fail;go_ret;exact⟨aj HR.out.symm,DW.out,λh=>by rw[HN.out];exact vD.out (HR.out.symm.trans h)⟩
def uI(a b:Int):Int:=if a<b then -1 else if b<a then 1 else 0
theorem zl(a b:Int)(w:World) :
 Calls be 220 #[O J a,O J b] w λe w'=>e=sh (O J (uI a b))/\w'=w:=by
 go_enter Tryz.func220,Tryz.ntmps220;go_wp2;all_goals
  go_ret;exact⟨aj (by unfold uI;(repeat' split)<;>omega),rfl⟩
def WB(a b:Int):Int:=if a=0 then b else a
theorem CP(a b:Int)(g:Nat)(c:Nat)(w:World)(h0:w.cell? ⟨g,0,Y⟩=Z (O J a))(h1:w.cell? ⟨g,1,Y⟩=Z (O J b)) :
 Calls be 219 #[U (Z ⟨g,0,Y⟩) 2 c] w λe w'=>e=sh (O J (WB a b))/\w'=w:=by
 by_cases ha:a=0
 .subst ha
  by_cases hb:b=0
  .subst hb
   go_enter Qq,Qc;go_wp2_with fail;refine JT 3 ?_;rw[JC];go_wp2_with fail;rw[JC];go_wp2_with fail;rw[JC];go_wp2_with fail;go_ret;exact⟨rfl,rfl⟩
  .have zT:(b !=0)=true:=by simpa using hb
   go_enter Qq,Qc;go_wp2_with fail;refine JT 3 ?_;rw[JC];go_wp2_with fail;rw[JC];go_wp2_with fail;go_ret;exact⟨rfl,rfl⟩
 .have ha':(a !=0)=true:=by simpa using ha
  go_enter Qq,Qc;go_wp2_with fail;refine JT 3 ?_;rw[JC];go_wp2_with fail;go_ret;exact⟨aj (by unfold WB;rw[if_neg ha]),rfl⟩
def cfR(rs:List bE)(i k:Nat):Int:=WB (uI (rs.getD i dr).told (rs.getD k dr).told) (uI k i)
theorem Kr(ti tk:Int)(lb b off n ca i k:Nat)(w:World)(hl:w.cell? ⟨lb,0,Y⟩=Z (U (Z ⟨b,off,Y⟩) n ca))(hi:i<n)(hk:k<n)(T1:w.cell? ⟨b,off+i*6+5,Y⟩=Z (O J ti))(Ks:w.cell? ⟨b,off+k*6+5,Y⟩=Z (O J tk)) :
 Calls be 218 #[O J i,O J k,If (Z ⟨lb,0,Y⟩)] w λe w'=>e=sh (O J (WB (uI ti tk) (uI k i)))/\w'=(w.alloc (.cells #[O J (uI ti tk),O J (uI k i)] 3)).drew:=by
 have ei:(0:Int)<=(i:Int):=Int.natCast_nonneg _;have X0:(i:Int)<(n:Int):=by omega
 have hk0:(0:Int)<=(k:Int):=Int.natCast_nonneg _;have hk1:(k:Int)<(n:Int):=by omega
 have h1:=World.new_ne w _ hl;have h2:=World.new_ne w _ T1;have h3:=World.new_ne w _ Ks;go_enter Tryz.func218,Tryz.ntmps218;go_wp2_with fail;go_region_held3 (λw'=>w'.cell? ⟨lb,0,Y⟩=Z (U (Z ⟨b,off,Y⟩) n ca)/\w'.cell? ⟨b,off+i*6+5,Y⟩=Z (O J ti)/\w'.cell? ⟨b,off+k*6+5,Y⟩=Z (O J tk)) (go_keep) (first|(go_at_call 220;refine(zl _ _ _).mono ?_;rintro e w' ⟨rfl,rfl⟩)|(go_at_call 219;refine(CP (uI ti tk) (uI k i) _ _ _ (cI rfl) (cI rfl)).mono ?_;rintro e w' ⟨rfl,rfl⟩))
 go_wp2_with fail;go_ret;exact⟨rfl,rfl⟩
end Go.Proofs.YtfidjlcdlakceaaGreatDoor
