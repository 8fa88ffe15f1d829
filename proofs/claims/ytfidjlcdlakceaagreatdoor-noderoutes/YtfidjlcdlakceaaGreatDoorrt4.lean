import Derived.Test.YtfidjlcdlakceaaGreatDoorrt3
set_option maxHeartbeats 800000
open Go renaming maxLen→Ii
open Go.Value renaming agg→Ip,string→I,int→O,bool→AT
open Go.IntKind renaming i64→J
open List renaming getD_cons_zero→I4,getD_cons_succ→Jv,pairwise_cons→JF,mem_cons→Jr,rel_of_pairwise_cons→Q2,getD→Io,getElem?_eq_getElem→Ic,foldl_cons→Uc
open Bool renaming true_and→O8,and_eq_true→IJ
namespace Go.Proofs.YtfidjlcdlakceaaGreatDoor
open Go.RowKit
def gX(nm:ByteArray)(st lf ad:Int):Int:=
 if aA nm=true then(if within st 1 4=true then(if within lf 1 1000000=true then(if within ad 0 4294967295=true then 0 else 3) else 3) else 7) else 1
def oZ(sa la aa:Int)(va:Bool)(sb lb ab:Int)(vb:Bool):Bool:=
 if la=lb then(if sa=sb then(if aa=ab then(va&&!vb) else decide (ab<aa)) else decide (sb<sa)) else decide (lb<la)
theorem wo(nm:ByteArray)(st lf ad:Int)(sv:Bool)(w:World)(hs:nm.size<=Ii) :
 aT 175 #[Ip #[I nm,O J st,O J lf,O J ad,AT sv]] w λe w'=>e=.returned (O J (gX nm st lf ad))/\w'=w.alloc (.cells #[I nm,O J st,O J lf,O J ad,AT sv] 70):=by
 rcases h1:aA nm with _|_
 .go_enter Tryz.func175,Tryz.ntmps175
  go_wp2_with (go_at_call 65;refine(aW _ _ hs).mono ?_;rintro e w' ⟨rfl,rfl⟩;rw[h1]);go_ret;exact⟨aj (by simp[gX,h1]),rfl⟩
 .rcases h2:within st 1 4 with _|_
  .go_enter Tryz.func175,Tryz.ntmps175
   go_wp2_with (first|(go_at_call 65;refine(aW _ _ hs).mono ?_;rintro e w' ⟨rfl,rfl⟩;rw[h1])|(go_at_call 70;refine(bw _ _ _ _).mono ?_;rintro e w' ⟨rfl,rfl⟩;rw[h2]));go_ret;exact⟨aj (by simp[gX,h1,h2]),rfl⟩
  .rcases h3:within lf 1 1000000 with _|_
   .go_enter Tryz.func175,Tryz.ntmps175
    go_wp2_with (first|(go_at_call 65;refine(aW _ _ hs).mono ?_;rintro e w' ⟨rfl,rfl⟩;rw[h1])|(go_at_call 70;refine(bw _ _ _ _).mono ?_;rintro e w' ⟨rfl,rfl⟩;first|rw[h2]|rw[h3]));go_ret;exact⟨aj (by simp[gX,h1,h2,h3]),rfl⟩
   .rcases h4:within ad 0 4294967295 with _|_
    all_goals
     go_enter Tryz.func175,Tryz.ntmps175;go_wp2_with (first|(go_at_call 65;refine(aW _ _ hs).mono ?_;rintro e w' ⟨rfl,rfl⟩;rw[h1])|(go_at_call 70;refine(bw _ _ _ _).mono ?_;rintro e w' ⟨rfl,rfl⟩;first|rw[h2]|rw[h3])|(go_at_call 44;refine(dG _ _).mono ?_;rintro e w' ⟨rfl,rfl⟩;rw[h4]));go_ret;exact⟨aj (by simp[gX,h1,h2,h3,h4]),rfl⟩
theorem jv(nm:ByteArray)(st lf ad:Int)(sv:Bool)(w:World)(hs:nm.size<=Ii) :
 aT 81 #[Ip #[I nm,O J st,O J lf,O J ad,AT sv]] w λe w'=>e=.returned (O J (gX nm st lf ad))/\w'=w.alloc (.cells #[I nm,O J st,O J lf,O J ad,AT sv] 70):=by
 rcases h1:aA nm with _|_
 .go_enter Tryz.func81,Tryz.ntmps81
  go_wp2_with (go_at_call 33;refine(aN _ _ hs).mono ?_;rintro e w' ⟨rfl,rfl⟩;rw[h1]);go_ret;exact⟨aj (by simp[gX,h1]),rfl⟩
 .rcases h2:within st 1 4 with _|_
  .go_enter Tryz.func81,Tryz.ntmps81
   go_wp2_with (first|(go_at_call 33;refine(aN _ _ hs).mono ?_;rintro e w' ⟨rfl,rfl⟩;rw[h1])|(go_at_call 82;refine(cj _ _ _ _).mono ?_;rintro e w' ⟨rfl,rfl⟩;rw[h2]));go_ret;exact⟨aj (by simp[gX,h1,h2]),rfl⟩
  .rcases h3:within lf 1 1000000 with _|_
   .go_enter Tryz.func81,Tryz.ntmps81
    go_wp2_with (first|(go_at_call 33;refine(aN _ _ hs).mono ?_;rintro e w' ⟨rfl,rfl⟩;rw[h1])|(go_at_call 82;refine(cj _ _ _ _).mono ?_;rintro e w' ⟨rfl,rfl⟩;first|rw[h2]|rw[h3]));go_ret;exact⟨aj (by simp[gX,h1,h2,h3]),rfl⟩
   .rcases h4:within ad 0 4294967295 with _|_
    all_goals
     go_enter Tryz.func81,Tryz.ntmps81;go_wp2_with (first|(go_at_call 33;refine(aN _ _ hs).mono ?_;rintro e w' ⟨rfl,rfl⟩;rw[h1])|(go_at_call 82;refine(cj _ _ _ _).mono ?_;rintro e w' ⟨rfl,rfl⟩;first|rw[h2]|rw[h3])|(go_at_call 85;refine(bW _ _).mono ?_;rintro e w' ⟨rfl,rfl⟩;rw[h4]));go_ret;exact⟨aj (by simp[gX,h1,h2,h3,h4]),rfl⟩
theorem uS(na nb:ByteArray)(sa la aa:Int)(va:Bool)(sb lb ab:Int)(vb:Bool)(w:World) :
 aT 239 #[Ip #[I na,O J sa,O J la,O J aa,AT va],Ip #[I nb,O J sb,O J lb,O J ab,AT vb]] w λe w'=>e=.returned (AT (oZ sa la aa va sb lb ab vb))/\w'=(w.alloc (.cells #[I na,O J sa,O J la,O J aa,AT va] 70)).alloc (.cells #[I nb,O J sb,O J lb,O J ab,AT vb] 70):=by
 by_cases h1:la=lb
 .subst h1
  by_cases h2:sa=sb
  .subst h2
   by_cases h3:aa=ab
   .subst h3
    cases va
    all_goals
     go_enter Tryz.func239,Tryz.ntmps239;go_wp2;go_ret;exact⟨az (by simp[oZ]),rfl⟩
   .have Vc:(aa !=ab)=true:=by simpa using h3
    go_enter Tryz.func239,Tryz.ntmps239;go_wp2;go_ret;exact⟨az (by simp[oZ,h3]),rfl⟩
  .have vB:(sa !=sb)=true:=by simpa using h2
   go_enter Tryz.func239,Tryz.ntmps239;go_wp2;go_ret;exact⟨az (by simp[oZ,h2]),rfl⟩
 .have GN:(la !=lb)=true:=by simpa using h1
  go_enter Tryz.func239,Tryz.ntmps239;go_wp2;go_ret;exact⟨az (by simp[oZ,h1]),rfl⟩
theorem rj(na nb:ByteArray)(sa la aa:Int)(va:Bool)(sb lb ab:Int)(vb:Bool)(w:World) :
 aT 41 #[Ip #[I na,O J sa,O J la,O J aa,AT va],Ip #[I nb,O J sb,O J lb,O J ab,AT vb]] w λe w'=>e=.returned (AT (oZ sa la aa va sb lb ab vb))/\w'=(w.alloc (.cells #[I na,O J sa,O J la,O J aa,AT va] 70)).alloc (.cells #[I nb,O J sb,O J lb,O J ab,AT vb] 70):=by
 by_cases h1:la=lb
 .subst h1
  by_cases h2:sa=sb
  .subst h2
   by_cases h3:aa=ab
   .subst h3
    cases va
    all_goals
     go_enter Tryz.func41,Tryz.ntmps41;go_wp2;go_ret;exact⟨az (by simp[oZ]),rfl⟩
   .have Vc:(aa !=ab)=true:=by simpa using h3
    go_enter Tryz.func41,Tryz.ntmps41;go_wp2;go_ret;exact⟨az (by simp[oZ,h3]),rfl⟩
  .have vB:(sa !=sb)=true:=by simpa using h2
   go_enter Tryz.func41,Tryz.ntmps41;go_wp2;go_ret;exact⟨az (by simp[oZ,h2]),rfl⟩
 .have GN:(la !=lb)=true:=by simpa using h1
  go_enter Tryz.func41,Tryz.ntmps41;go_wp2;go_ret;exact⟨az (by simp[oZ,h1]),rfl⟩
def Mem.e(m:Mem):Int:=gX m.name m.state m.aP m.addr
def aQ:List Mem->Int
 |[]=>0
 |m::r=>if m.e=0 then aQ r else m.e
theorem bM:∀(ms:List Mem),(∀j,j<ms.length->(ms.getD j dm).e=0)->aQ ms=0
 |[],_=>rfl
 |m::r,h=>by
  have h0:=h 0 (by simp);simp only[I4] at h0;rw[aQ,if_pos h0];exact bM r λj hj=>by have:=h (j+1) (by simpa using hj);simpa using this
theorem dv:∀(ms:List Mem) (k:Nat),k<ms.length->(∀j,j<k->(ms.getD j dm).e=0)->(ms.getD k dm).e≠0->aQ ms=(ms.getD k dm).e
 |[],k,h,_,_=>by simp at h
 |m::r,0,_,_,bE=>by
  simp only[I4] at bE ⊢;rw[aQ,if_neg bE]
 |m::r,k+1,h,hz,bE=>by
  have h0:=hz 0 (by omega);simp only[I4] at h0;rw[aQ,if_pos h0,Jv];rw[Jv] at bE;exact dv r k (by simpa using h) (λj hj=>by have:=hz (j+1) (by omega);simpa using this) bE
def aC:List Mem->Bool
 |a::b::r=>less a.name b.name&&aC (b::r)
 |_=>true
theorem fF:∀(ms:List Mem),(∀j,j+1<ms.length->less (ms.getD j dm).name (ms.getD (j+1) dm).name=true)->aC ms=true
 |[],_=>rfl
 |[_],_=>rfl
 |a::b::r,h=>by
  have h0:=h 0 (by simp);simp only[I4,Jv] at h0;rw[aC,h0,O8];exact fF (b::r) λj hj=>by have:=h (j+1) (by simpa using hj);simpa using this
theorem fG:∀(ms:List Mem),aC ms=true->∀j,j+1<ms.length->less (ms.getD j dm).name (ms.getD (j+1) dm).name=true
 |[],_,j,h=>by simp at h
 |[_],_,j,h=>by simp at h
 |a::b::r,hr,0,_=>by
  rw[aC,IJ] at hr;simpa using hr.1
 |a::b::r,hr,j+1,h=>by
  rw[aC,IJ] at hr;have:=fG (b::r) hr.2 j (by simpa using h);simpa using this
def aM(ms:List Mem):Int:=if 20<ms.length then 2 else if aQ ms=0 then(if aC ms=true then 0 else 4) else aQ ms
theorem ll(ms:List Mem)(k:Nat)(hn:ms.length<=20)(hk:k<ms.length)(hz:∀j,j<k->(ms.getD j dm).e=0)(bE:(ms.getD k dm).e≠0):aM ms=(ms.getD k dm).e:=by
 have h:=dv ms k hk hz bE;rw[aM,if_neg (by omega),h,if_neg bE]
theorem sf(ms:List Mem)(k:Nat)(hn:ms.length<=20)(hz:∀j,j<ms.length->(ms.getD j dm).e=0)(hk:k+1<ms.length)(hl:less (ms.getD k dm).name (ms.getD (k+1) dm).name=false):aM ms=4:=by
 rw[aM,if_neg (by omega),bM ms hz,if_pos rfl,if_neg];intro h;have:=fG ms h k hk;rw[hl] at this;cases this
theorem sg(ms:List Mem)(hn:ms.length<=20)(hz:∀j,j<ms.length->(ms.getD j dm).e=0)(hl:∀j,j+1<ms.length->less (ms.getD j dm).name (ms.getD (j+1) dm).name=true):aM ms=0:=by
 rw[aM,if_neg (by omega),bM ms hz,if_pos rfl,if_pos (fF ms hl)]
structure At(ms:List Mem)(t:ByteArray)(p:Nat)(f:Bool):Prop where
 le:p<=ms.length
 lo:∀j,j<p->bl (ms.getD j dm).name t<0
 hi:∀j,p<=j->j<ms.length->0<=bl (ms.getD j dm).name t
 is:f=true↔p<ms.length/\bl (ms.getD p dm).name t=0
def ik(a b:Mem):Bool:=oZ a.state a.aP a.addr a.server b.state b.aP b.addr b.server
def bB:List Mem->Mem->List Mem
 |[],m=>[m]
 |x::r,m=>if bl x.name m.name<0 then x::bB r m else if bl x.name m.name=0 then(if ik m x=true then m::r else x::r) else m::x::r
abbrev dt(ms:List Mem):Prop:=ms.Pairwise λa b=>less a.name b.name=true
theorem kd:∀ms:List Mem,aC ms=true->dt ms
 |[],_=>.nil
 |[x],_=>by simp[dt]
 |a::b::r,h=>by
  rw[aC,IJ] at h;have ih:=kd (b::r) h.2;refine JF.2 ⟨λc hc=>?_,ih⟩;rcases Jr.1 hc with rfl|hc
  .exact h.1
  .exact fp h.1 (Q2 ih hc)
theorem zv:∀ms:List Mem,dt ms->aC ms=true
 |[],_=>rfl
 |[x],_=>rfl
 |a::b::r,h=>by
  rw[aC,Q2 h (by simp),O8];exact zv (b::r) (List.Pairwise.of_cons h)
theorem gk{ms:List Mem}(h:dt ms)(t:ByteArray):∀i j,i<=j->j<ms.length->bl (ms.getD j dm).name t<0->bl (ms.getD i dm).name t<0:=by
 intro i j kR hj aB;rcases Nat.lt_or_eq_of_le kR with Vo|rfl
 .have hp:=List.pairwise_iff_getElem.1 h i j (by omega) hj Vo
  rw[dx] at aB ⊢;have e1:ms.getD i dm=ms[i]:=by simp[Io,Ic (show i<ms.length by omega)]
  have e2:ms.getD j dm=ms[j]:=by simp[Io,Ic hj]
  rw[e1];rw[e2] at aB;exact fp hp aB
 .exact aB
theorem lj:∀(ms:List Mem) (m:Mem) (p:Nat) (f:Bool),At ms m.name p f ->
 bB ms m=if f=true then(if ik m (ms.getD p dm)=true then ms.set p m else ms) else ms.take p++m::ms.drop p
 |[],m,p,f,h=>by
  have hp:p=0:=by have:=h.le;simpa using this
  subst hp;have hf:f=false:=by
   cases f
   .rfl
   .have:=h.is.1 rfl;simp at this
  subst hf;simp[bB]
 |x::r,m,0,f,h=>by
  have h0:=h.hi 0 (Nat.le_refl _) (by simp);simp only[I4] at h0;rw[bB,if_neg (by omega)];cases f
  .have bE:¬ bl x.name m.name=0:=λe=>by have:=h.is.2 ⟨by simp,by simpa using e⟩;cases this
   rw[if_neg bE];simp
  .have he:=(h.is.1 rfl).2
   simp only[I4] at he;rw[if_pos he];simp only[I4,List.set_cons_zero,if_pos]
 |x::r,m,p+1,f,h=>by
  have h0:=h.lo 0 (by omega);simp only[I4] at h0;have hr:At r m.name p f:=⟨by have:=h.le;simpa using this,λj hj=>by have:=h.lo (j+1) (by omega);simpa using this,
   λj hj hl=>by have:=h.hi (j+1) (by omega) (by simpa using hl);simpa using this,by have:=h.is;simpa using this⟩
  rw[bB,if_pos h0,lj r m p f hr];cases f
  .simp
  .simp only[if_pos,Jv,List.set_cons_succ]
   split<;>rfl
theorem jV:∀(ms:List Mem) (m x:Mem),x∈bB ms m->x=m\/x∈ms
 |[],m,x,h=>by simp[bB] at h;exact .inl h
 |y::r,m,x,h=>by
  rw[bB] at h;split at h
  .rcases Jr.1 h with rfl|h
   .exact .inr (by simp)
   .rcases jV r m x h with h|h
    .exact .inl h
    .exact .inr (by simp[h])
  .split at h
   .split at h
    .rcases Jr.1 h with h|h
     .exact .inl h
     .exact .inr (by simp[h])
    .exact .inr h
   .rcases Jr.1 h with h|h
    .exact .inl h
    .exact .inr h
theorem nC:∀(ms:List Mem) (m:Mem),dt ms->dt (bB ms m)
 |[],m,_=>by simp[bB]
 |x::r,m,h=>by
  have hx:=JF.1 h;rw[bB];split
  .rename_i aB
   refine JF.2 ⟨λy hy=>?_,nC r m hx.2⟩;rcases jV r m y hy with rfl|hy
   .exact(dx _ _).1 aB
   .exact hx.1 y hy
  .rename_i aB
   split
   .rename_i he
    have hn:=(cK _ _).1 he;split
    .exact JF.2 ⟨λy hy=>by rw[<- hn];exact hx.1 y hy,hx.2⟩
    .exact h
   .rename_i he
    have hg:less m.name x.name=true:=(rz _ _).1 (by omega);refine JF.2 ⟨λy hy=>?_,h⟩;rcases Jr.1 hy with rfl|hy
    .exact hg
    .exact fp hg (hx.1 y hy)
theorem oY:∀(ms:List Mem) (m:Mem),ms.length<=(bB ms m).length/\(bB ms m).length<=ms.length+1
 |[],m=>by simp[bB]
 |x::r,m=>by
  have:=oY r m;rw[bB];split
  .simp;omega
  .split
   .split<;>simp
   .simp
def aZ(a b:List Mem):List Mem:=b.foldl bB a
theorem sd:∀(b a:List Mem),dt a->dt (aZ a b)
 |[],_,h=>h
 |m::r,a,h=>sd r (bB a m) (nC a m h)
theorem lS:∀(b a:List Mem),(aZ a b).length<=a.length+b.length
 |[],_=>by simp[aZ]
 |m::r,a=>by
  have h1:=lS r (bB a m);have h2:=oY a m;simp only[aZ,Uc,List.length_cons] at *;omega
theorem j4{ms:List Mem}{nm:ByteArray}{p q:Nat}{f e:Bool}(h:At ms nm p f)(k:At ms nm q e):p=q/\f=e:=by
 have hpq:p=q:=by
  rcases Nat.lt_trichotomy p q with aB|rfl|aB
  .have h1:=k.lo p aB
   have h2:=h.hi p (Nat.le_refl _) (by have:=k.le;omega);omega
  .rfl
  .have h1:=h.lo q aB
   have h2:=k.hi q (Nat.le_refl _) (by have:=h.le;omega);omega
 subst hpq;refine⟨rfl,?_⟩;rw[Bool.eq_iff_iff,h.is,k.is]
theorem Cr{ms:List Mem}{m:Mem}(h:∀m∈ms,m.name.size<=Ii)(hm:m.name.size<=Ii):∀x∈bB ms m,x.name.size<=Ii:=by
 intro x hx;rcases jV ms m x hx with rfl|hx
 .exact hm
 .exact h x hx
theorem Co:∀(b a:List Mem),(∀m∈a,m.name.size<=Ii)->(∀m∈b,m.name.size<=Ii)->∀x∈aZ a b,x.name.size<=Ii
 |[],_,ha,_=>ha
 |m::r,a,ha,hb=>Co r (bB a m) (Cr ha (hb m (by simp))) (λx hx=>hb x (by simp[hx]))
theorem Ar(a b:List Mem)(j:Nat)(hj:j<b.length):aZ a (b.take (j+1))=bB (aZ a (b.take j)) (b.getD j dm):=by
 have e:b.getD j dm=b[j]:=by simp[Io,Ic hj]
 rw[e,List.take_succ_eq_append_getElem hj,aZ,List.foldl_append,aZ];rfl
theorem tG:∀(a:List Mem) (m:Mem),(∀x∈a,less x.name m.name=true)->bB a m=a++[m]
 |[],_,_=>rfl
 |x::r,m,h=>by
  rw[bB,if_pos ((dx _ _).2 (h x (by simp))),tG r m (λy hy=>h y (by simp[hy]))];rfl
theorem vS:∀(b a:List Mem),dt (a++b)->aZ a b=a++b
 |[],a,_=>by simp[aZ]
 |m::r,a,h=>by
  have h1:=tG a m λx hx=>(List.pairwise_append.1 h).2.2 x hx m (by simp);have h2:=vS r (a++[m]) (by simpa using h);simp only[aZ,Uc,h1] at h2 ⊢;rw[h2];simp
theorem Ec(b:List Mem)(h:dt b):aZ [] b=b:=vS b [] h
theorem aI{ms:List Mem}(h:aM ms=0):ms.length<=20/\dt ms/\aQ ms=0:=by
 unfold aM at h;split at h
 .omega
 .split at h
  .rename_i h1 h2
   split at h
   .rename_i h3
    exact⟨by omega,kd ms h3,h2⟩
   .omega
  .rename_i h1 h2;exact absurd h h2
def aY(a b:List Mem):Int:=if aM a=0 then aM b else aM a
def qJ(a b:List Mem)(k:Nat):List Mem:=if k=0 then[] else if k=1 then a else aZ a b
def aX(a b:List Mem):Int:=if aY a b=0 then(if 20<(aZ a b).length then 2 else 0) else aY a b
theorem dM(ms:List Mem)(h:∀j,j+1<ms.length->bl (ms.getD j dm).name (ms.getD (j+1) dm).name<0):aC ms=true:=fF ms λj hj=>(dx _ _).1 (h j hj)
theorem dL(ms:List Mem)(h:aC ms=true):∀j,j+1<ms.length->bl (ms.getD j dm).name (ms.getD (j+1) dm).name<0:=λj hj=>(dx _ _).2 (fG ms h j hj)
theorem ja(ms:List Mem)(hn:ms.length<=20)(hz:∀j,j<ms.length->(ms.getD j dm).e=0):aM ms=if aC ms=true then 0 else 4:=by
 rw[aM,if_neg (by omega),bM ms hz,if_pos rfl]
end Go.Proofs.YtfidjlcdlakceaaGreatDoor
