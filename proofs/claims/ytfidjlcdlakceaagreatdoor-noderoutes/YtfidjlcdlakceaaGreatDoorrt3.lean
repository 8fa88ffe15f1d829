import Derived.Test.YtfidjlcdlakceaaGreatDoorrt2
open Go.Value renaming string→I,int→O
open Option renaming none→Y,some→Z
open Array renaming getElem?_eq_some_iff→Ib
open List renaming getD→Io,getElem?_eq_getElem→Ic,getD_cons_zero→I4,getD_cons_succ→Jv
namespace Go.Proofs.YtfidjlcdlakceaaGreatDoor
open Go.RowKit
theorem vC(a:ByteArray):bl a a=0:=(cK a a).2 rfl
theorem pJ(a b:ByteArray):0<bl a b↔bl b a<0:=by rw[rz,dx]
theorem nx(a b c:ByteArray)(h1:bl a b<0)(h2:bl b c<0):bl a c<0:=by
 rw[dx] at *;exact fp h1 h2
namespace RL
section
variable {α:Type}
theorem mv(f:α->ByteArray):Keyed λa b=>bl (f a) (f b) where
 refl a:=vC _
 gt a b:=pJ _ _
 trans a b c h1 h2:=nx _ _ _ h1 h2
 left a b c h:=by rw[(cK _ _).1 h]
 right a b c h:=by rw[(cK _ _).1 h]
def bI(b:Bool):Int:=if b=true then 1 else 0
def lex(o p:α->α->Int)(a b:α):Int:=if o a b=0 then p a b else o a b
theorem Fw{o p:α->α->Int}(h:Keyed o)(k:Keyed p):Keyed (lex o p) where
 refl a:=by rw[lex,if_pos (h.refl a),k.refl a]
 gt a b:=by
  unfold lex;by_cases e:o a b=0
  .rw[if_pos e,if_pos (h.symm e)];exact k.gt a b
  .rw[if_neg e,if_neg (λe2=>e (h.symm e2))];exact h.gt a b
 trans a b c h1 h2:=by
  unfold lex at *;by_cases e:o a b=0
  .rw[if_pos e] at h1
   by_cases e2:o b c=0
   .rw[if_pos e2] at h2
    rw[if_pos (h.eqt e e2)];exact k.trans _ _ _ h1 h2
   .rw[if_neg e2] at h2
    rw[if_neg (λe3=>e2 (h.eqt (h.symm e) e3)),h.left a b c e];exact h2
  .rw[if_neg e] at h1
   by_cases e2:o b c=0
   .rw[if_neg (λe3=>e (h.eqt e3 (h.symm e2))),<- h.right b c a e2];exact h1
   .rw[if_neg e2] at h2
    have h3:=h.trans _ _ _ h1 h2;rw[if_neg (by omega)];exact h3
 left a b c e:=by
  unfold lex at *;by_cases e1:o a b=0
  .rw[if_pos e1] at e
   rw[h.left a b c e1,k.left a b c e]
  .rw[if_neg e1] at e;exact absurd e e1
 right a b c e:=by
  unfold lex at *;by_cases e1:o a b=0
  .rw[if_pos e1] at e
   rw[h.right a b c e1,k.right a b c e]
  .rw[if_neg e1] at e;exact absurd e e1
end
end RL
end Go.Proofs.YtfidjlcdlakceaaGreatDoor
namespace Go.Proofs.YtfidjlcdlakceaaGreatDoor
namespace Gw
open Go.RowKit
structure cW where
 ai:ByteArray
 addr:Int
 version:Int
def dm:cW:=⟨ByteArray.empty,0,0⟩
def cW.ok(m:cW):Prop:=m.ai.size<=maxLen
theorem nY:dm.ok:=by simp[cW.ok,dm]
abbrev As(w:World)(b o:Nat)(m:cW):Prop:=w.cell? ⟨b,o,Y⟩=Z (I m.ai)/\w.cell? ⟨b,o+1,Y⟩=Z (O .i64 m.addr)/\w.cell? ⟨b,o+2,Y⟩=Z (O .i64 m.version)
theorem As.re{w:World}{b o:Nat}{m:cW}(h:As w b o m):∀d os,As (Go.Sort.grow (redrawn w d) os) b o m:=λd os=>by
 obtain⟨c0,c1,c2⟩:=h;exact⟨cell_regrown c0 d os,cell_regrown c1 d os,cell_regrown c2 d os⟩
theorem As.eq{w w':World}{b o:Nat}{m:cW}(h:As w b o m)(e:∀o,w'.cell? ⟨b,o,Y⟩=w.cell? ⟨b,o,Y⟩):As w' b o m:=by
 obtain⟨c0,c1,c2⟩:=h;exact⟨(e _).trans c0,(e _).trans c1,(e _).trans c2⟩
def Row(w:World)(b off:Nat)(ms:List cW):Prop:=∀j,j<ms.length->As w b (off+j*3) (ms.getD j dm)
def Sl(w:World)(v:Value)(ms:List cW):Prop:=
 ∃(a:Option Addr) (cap:Nat),v=.slice a ms.length cap/\(∀j,(ms.getD j dm).ok) /\
  (ms=[]\/∃b off,a=Z ⟨b,off,Y⟩/\b<w.heap.size/\Row w b off ms)
def cW.cs(m:cW):List Value:=[I m.ai,O .i64 m.addr,O .i64 m.version]
def fl(ms:List cW):List Value:=ms.flatMap cW.cs
theorem bL(m:cW):m.cs.length=3:=rfl
theorem bJ(m:cW)(r:List cW):fl (m::r)=m.cs++fl r:=by simp[fl]
theorem cS:∀ms:List cW,(fl ms).length=ms.length*3
 |[]=>rfl
 |m::r=>by rw[bJ,List.length_append,cS r,bL,List.length_cons];omega
theorem da(m:cW):∀v∈m.cs,v.oneCell'=true:=by
 intro v hv;simp[cW.cs] at hv;rcases hv with rfl|rfl|rfl<;>rfl
theorem fL(ms:List cW):∀v∈fl ms,v.oneCell'=true:=by
 intro v hv;obtain⟨m,_,h⟩:=List.mem_flatMap.1 hv;exact da m v h
theorem eD(ms:List cW)(j:Nat)(hj:j<ms.length)(t:Nat)(ht:t<3):(fl ms)[j*3+t]?=(ms.getD j dm).cs[t]?:=by
 induction ms generalizing j with
 |nil=>simp at hj
 |cons m r ih=>
  rw[bJ];cases j with
  |zero=>rw[List.getElem?_append_left (by rw[bL];omega)];simp
  |succ j=>
   rw[List.getElem?_append_right (by rw[bL];omega),bL,show(j+1)*3+t-3=j*3+t by omega,ih j (by simpa using hj)];simp
abbrev Own(base:Nat)(w:World)(v:Value)(ms:List cW):Prop:=w.ownsRow base 49 3 v ms.length (fl ms)
theorem Own.sl{base:Nat}{w:World}{v:Value}{ms:List cW}(h:Own base w v ms)(hs:∀j,(ms.getD j dm).ok):Sl w v ms:=by
 rcases h.2 with⟨rfl,h0⟩|⟨g,c,cur,rfl,dN,hg,fa,dO,cJ,aV⟩
 .exact⟨Y,0,by rw[h0],hs,.inl (List.eq_nil_of_length_eq_zero h0)⟩
 .refine⟨_,c,rfl,hs,.inr ⟨g,0,rfl,(Ib.1 hg).1,λj hj=>?_⟩⟩
  have hc:∀t,t<3->w.cell? ⟨g,0+j*3+t,Y⟩=(ms.getD j dm).cs[t]?:=λt ht=>by
   rw[af hg,<- eD ms j hj t ht,<- aV,List.getElem?_take_of_lt (by omega)];simp
  exact⟨hc 0 (by omega),hc 1 (by omega),hc 2 (by omega)⟩
theorem Own.below{base:Nat}{w w':World}{v:Value}{ms:List cW}(h:Own base w v ms)(hb:Below w.heap.size w w'):Own base w' v ms:=by
 rcases h.2 with⟨rfl,h0⟩|⟨g,c,cur,rfl,dN,hg,fa,dO,cJ,aV⟩
 .exact⟨h.1,.inl ⟨rfl,h0⟩⟩
 .have aB:=(Ib.1 hg).1
  exact⟨h.1,.inr ⟨g,c,cur,rfl,dN,(hb.block g aB).trans hg,fa,dO,cJ,aV⟩⟩
theorem Own.lt{base:Nat}{w:World}{v:Value}{ms:List cW}(h:Own base w v ms)(k:Nat)(hk:v.ownBlock=Z k):base<=k/\k<w.heap.size:=World.ownsRow.lt h k hk
theorem Sl.below{w w':World}{v:Value}{ms:List cW}(h:Sl w v ms)(hb:Below w.heap.size w w'):Sl w' v ms:=by
 obtain⟨a,cap,rfl,hs,h⟩:=h;refine⟨a,cap,rfl,hs,?_⟩;rcases h with h|⟨b,off,rfl,aB,hr⟩
 .exact .inl h
 .refine .inr ⟨b,off,rfl,Nat.lt_of_lt_of_le aB hb.size,λj hj=>?_⟩
  exact(hr j hj).eq (λo=>(cD hb).1 b o aB)
theorem Row.later{w w':World}{b off:Nat}{ms:List cW}(hr:Row w b off ms)(hb:Below w.heap.size w w')(aB:b<w.heap.size):Row w' b off ms:=λj hj=>(hr j hj).eq (λo=>(cD hb).1 b o aB)
theorem Own.mono{base jc:Nat}{w:World}{v:Value}{ms:List cW}(h:Own base w v ms)(hb:jc<=base):Own jc w v ms:=by
 rcases h.2 with⟨rfl,h0⟩|⟨g,c,cur,rfl,dN,hg,fa,dO,cJ,aV⟩
 .exact⟨h.1,.inl ⟨rfl,h0⟩⟩
 .exact⟨h.1,.inr ⟨g,c,cur,rfl,Nat.le_trans hb dN,hg,fa,dO,cJ,aV⟩⟩
theorem bz(base:Nat)(w:World):Own base w (.slice Y 0 0) []:=World.ownsRow_nil w base 49 3
theorem eK{ms:List cW}(h:∀j,(ms.getD j dm).ok):∀m∈ms,(m).ok:=by
 intro m hm;obtain⟨j,hj,rfl⟩:=List.getElem_of_mem hm;have:=h j;simpa[Io,Ic hj] using this
theorem bN{ms:List cW}(h:∀m∈ms,(m).ok):∀j,(ms.getD j dm).ok:=by
 intro j;by_cases hj:j<ms.length
 .have:=h ms[j] (List.getElem_mem hj)
  simpa[Io,Ic hj] using this
 .rw[Io,List.getElem?_eq_none (Nat.le_of_not_lt hj)];exact nY
end Gw
namespace Gw
open Go.RowKit
theorem Tryz.VU:(Tryz.prog.info? 49).map (λi=>(i.zero,i.size,i.bytes))=Z (Z (.agg #[I ⟨#[]⟩,O .i64 0,O .i64 0]),3,32):=by kernel_rfl
end Gw
namespace Gw
open Go.RowKit
def ord(a b:cW):Int:=bl a.ai b.ai
theorem keyed:RL.Keyed ord:=RL.mv cW.ai
def VV:cW->cW->Int:=RL.lex (λa b=>a.version-b.version) (λa b=>a.addr-b.addr)
def fX(a b:cW):Bool:=decide (0<VV a b)
abbrev dt(ms:List cW):Prop:=RL.dt ord ms
abbrev aZ(a b:List cW):List cW:=RL.join ord fX a b
abbrev At(ms:List cW)(t:cW)(p:Nat)(f:Bool):Prop:=RL.At ord dm ms t p f
abbrev aC(ms:List cW):Bool:=RL.aC ord ms
theorem gk{ms:List cW}(h:dt ms)(t:cW):∀i j,i<=j->j<ms.length->ord (ms.getD j dm) t<0->ord (ms.getD i dm) t<0:=RL.gk ord dm keyed h t
theorem dM(ms:List cW)(h:∀j,j+1<ms.length->ord (ms.getD j dm) (ms.getD (j+1) dm)<0):aC ms=true:=RL.fF ord dm ms h
theorem dL(ms:List cW)(h:aC ms=true):∀j,j+1<ms.length->ord (ms.getD j dm) (ms.getD (j+1) dm)<0:=RL.fG ord dm ms h
theorem Ba(ms:List cW)(hr:dt ms)(t:cW):∃p f,At ms t p f:=RL.Ba ord dm keyed ms hr t
theorem j4{ms:List cW}{t:cW}{p q:Nat}{f e:Bool}(h:At ms t p f)(k:At ms t q e):p=q/\f=e:=RL.j4 ord dm h k
def cW.e(m:cW):Int:=if aA m.ai=true then(if within m.addr 0 4294967295=true then(if within m.version 1 1000000=true then 0 else 3) else 3) else 1
def aQ:List cW->Int
 |[]=>0
 |m::r=>if m.e=0 then aQ r else m.e
theorem bM:∀(ms:List cW),(∀j,j<ms.length->(ms.getD j dm).e=0)->aQ ms=0
 |[],_=>rfl
 |m::r,h=>by
  have h0:=h 0 (by simp);simp only[I4] at h0;rw[aQ,if_pos h0];exact bM r λj hj=>by have:=h (j+1) (by simpa using hj);simpa using this
theorem dv:∀(ms:List cW) (k:Nat),k<ms.length->(∀j,j<k->(ms.getD j dm).e=0)->(ms.getD k dm).e≠0->aQ ms=(ms.getD k dm).e
 |[],k,h,_,_=>by simp at h
 |m::r,0,_,_,bE=>by
  simp only[I4] at bE ⊢;rw[aQ,if_neg bE]
 |m::r,k+1,h,hz,bE=>by
  have h0:=hz 0 (by omega);simp only[I4] at h0;rw[aQ,if_pos h0,Jv];rw[Jv] at bE;exact dv r k (by simpa using h) (λj hj=>by have:=hz (j+1) (by omega);simpa using this) bE
def aM(ms:List cW):Int:=if 6<ms.length then 2 else if aQ ms=0 then(if aC ms=true then 0 else 4) else aQ ms
theorem ll(ms:List cW)(k:Nat)(hn:ms.length<=6)(hk:k<ms.length)(hz:∀j,j<k->(ms.getD j dm).e=0)(bE:(ms.getD k dm).e≠0):aM ms=(ms.getD k dm).e:=by
 have h:=dv ms k hk hz bE;rw[aM,if_neg (by omega),h,if_neg bE]
theorem ja(ms:List cW)(hn:ms.length<=6)(hz:∀j,j<ms.length->(ms.getD j dm).e=0):aM ms=if aC ms=true then 0 else 4:=by
 rw[aM,if_neg (by omega),bM ms hz,if_pos rfl]
theorem sf(ms:List cW)(k:Nat)(hn:ms.length<=6)(hz:∀j,j<ms.length->(ms.getD j dm).e=0)(hk:k+1<ms.length)(hl:¬ ord (ms.getD k dm) (ms.getD (k+1) dm)<0):aM ms=4:=by
 rw[ja ms hn hz,if_neg];intro h;exact hl (dL ms h k hk)
theorem sg(ms:List cW)(hn:ms.length<=6)(hz:∀j,j<ms.length->(ms.getD j dm).e=0)(hl:∀j,j+1<ms.length->ord (ms.getD j dm) (ms.getD (j+1) dm)<0):aM ms=0:=by
 rw[ja ms hn hz,if_pos (dM ms hl)]
theorem aI{ms:List cW}(h:aM ms=0):ms.length<=6/\dt ms/\aQ ms=0:=by
 unfold aM at h;split at h
 .omega
 .split at h
  .rename_i h1 h2
   split at h
   .rename_i h3
    exact⟨by omega,RL.kd ord keyed ms h3,h2⟩
   .omega
  .rename_i h1 h2;exact absurd h h2
def aY(a b:List cW):Int:=if aM a=0 then aM b else aM a
def aX(a b:List cW):Int:=if aY a b=0 then(if 6<(aZ a b).length then 2 else 0) else aY a b
end Gw
namespace Gw
open Go.RowKit
set_option maxHeartbeats 400000 in
theorem eO(a b:cW)(w:World) :
 aT 185 #[.agg #[I a.ai,O .i64 a.addr,O .i64 a.version],.agg #[I b.ai,O .i64 b.addr,O .i64 b.version]] w λe w'=>e=.returned (O .i64 (ord a b))/\Below w.heap.size w w':=by
 go_enter Tryz.func185,Tryz.ntmps185;go_wp2_with (go_at_call 110;refine(fC _ _ _).mono ?_;rintro e w' ⟨rfl,rfl⟩);go_ret;exact⟨rfl,((Below.refl _ _).alloc (Nat.le_refl _) _).alloc (by simp) _⟩
end Gw
end Go.Proofs.YtfidjlcdlakceaaGreatDoor
