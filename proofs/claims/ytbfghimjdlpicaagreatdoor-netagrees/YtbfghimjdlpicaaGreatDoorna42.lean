import Derived.Test.YtbfghimjdlpicaaGreatDoorna41
import Derived.Deep.CutBlock
set_option maxHeartbeats 25600000
set_option maxRecDepth 100000
open Option renaming some→AI,none→be
open List renaming getD→Ir,getElem?_eq_getElem→Ic,mem_append→Jk,mem_singleton→IY,mem_map_of_mem→J0,mem_of_mem_eraseIdx→Jr,mem_map→JV,length_map→JJ,range→JC,length_append→Ii,map_append→O9,getElem_of_mem→IT,pairwise_iff_getElem→Jb
open Nat renaming le_trans→Is,zero_le→IF,le_refl→Ie
open Go renaming maxLen→Io,heap_alloc_new→Ij
open Go.Value renaming string→Y,int→U,agg→Ik,slice→J,bool→Ia,tuple→Ip
open Go.IntKind renaming i64→O,wrap_i64→I1
open Go.Ending renaming returned→AT
open Go.Proofs.Tryz renaming prog→AS,underlying9→Jd,underlying3→IH,underlying4→JS
open Array renaming getElem?_eq_some_iff→BY,getElem?_toList→Oy
open Go.Obj renaming cells→By
open List.cons renaming injEq→Qe
open Go.Value.slice renaming injEq→I2
open Go.DataW renaming trod_string→QP,trod_int→J9
namespace Go.Proofs.YtbfghimjdlpicaaGreatDoor
open Go.RowKit
structure PF(t:Nt):Prop where
 ns:∀x∈t.ns,∀g∈x.gw,g.av∈t.ns.map (·.av)
 ls:∀l∈t.ls,∀p,sx l.text.data.toList=AI p->∀g∈p.gw,g.av∈t.ns.map (·.av)
theorem B3{ns:List Nd}{j:Nat}{n':Nd}(hj:j<ns.length)(h:n'.av=(ns.getD j aM).av):(ns.set j n').map (·.av)=ns.map (·.av):=by
 rw[List.map_set,h];have e:(ns.getD j aM).av=(ns.map (·.av))[j]'(by simpa using hj):=by simp[Ir,Ic hj]
 rw[e,List.set_getElem_self]
theorem PG{t t':Nt}(hr:bE t)(h:PF t)(hn:AE t t'):PF t':=by
 have z3:=(Nt.aD hr.e).2.2.1;have put:∀{j:Nat} {n':Nd} {ls:List Lt.fy},j<t.ns.length->n'.av=(t.ns.getD j aM).av->(∀g∈n'.gw,g.av∈t.ns.map (·.av))->(∀l∈ls,∀p,sx l.text.data.toList=AI p->∀g∈p.gw,g.av∈t.ns.map (·.av))->PF ⟨t.ns.set j n',ls⟩:=λ{j n' ls} hj hc h1 h3=>by
  have e:=B3 hj hc;refine⟨λx hx g hg=>?_,λl hl p hp g hg=>?_⟩
  .show g.av∈(t.ns.set j n').map _
   rw[e];rcases List.mem_or_eq_of_mem_set hx with h4|rfl
   .exact h.ns x h4 g hg
   .exact h1 g hg
  .show g.av∈(t.ns.set j n').map _
   rw[e];exact h3 l hl p hp g hg
 have add:∀{x:Lt.fy} {p:Pk},p.e=0->x.text=p.T->(∀g∈p.gw,g.av∈t.ns.map (·.av))->∀l∈t.ls++[x],∀q,sx l.text.data.toList=AI q->∀g∈q.gw,g.av∈t.ns.map (·.av):=λ{x p} hp hx hT l hl q hq=>by
  rcases Jk.1 hl with h1|h1
  .exact h.ls l h1 q hq
  .rw[IY.1 h1,hx,iD hp] at hq
   rw[<- Option.some.inj hq];exact hT
 rcases hn with⟨j,n',hj,hb,rfl⟩|⟨j,q,l,rest,hj,eJ,h20,ht,rfl⟩|⟨j,q,hj,eJ,h20,rfl⟩|⟨j,q,p,hj,eJ,BR,hh,rfl⟩|⟨j,rfl⟩|⟨j,hj,h20,rfl⟩
 .have hjg:=h.ns _ (ai hj aM)
  rcases hb with⟨a,b,c,hb,_,h0,rfl⟩|⟨h0,rfl⟩|⟨a,p,r,h0,rfl⟩|⟨d,h1,h0,rfl⟩|⟨d,h1,h0,rfl⟩
  .exact put hj (dA _ _).av (λg hg=>hjg g (by rw[<- (dA _ _).gw];exact hg)) h.ls
  .exact put hj (dA _ _).av (λg hg=>hjg g (by rw[<- (dA _ _).gw];exact hg)) h.ls
  .exact put hj rfl hjg h.ls
  .exact put hj rfl hjg h.ls
  .refine put hj rfl (λg hg=>?_) h.ls
   rcases Gw.dJ _ _ _ hg with h2|h2
   .exact hjg g h2
   .rw[IY.1 h2,h1];exact J0 (ai hj aM)
 .exact put hj rfl (h.ns (t.ns.getD j aM) (ai hj aM)) (add (mD (z3 _ (ai hj aM)) ht).2 rfl (λg hg=>by cases hg))
 .exact⟨h.ns,add (kA (z3 _ (ai hj aM))) rfl (h.ns _ (ai hj aM))⟩
 .refine put eJ (np _ _).av (λg hg=>?_) (λl hl=>h.ls l (Jr hl))
  rcases Gw.dJ _ _ _ hg with h2|h2
  .exact h.ns _ (ai eJ aM) g h2
  .exact h.ls _ (ai hj Lt.dm) p BR g h2
 .exact⟨h.ns,λl hl=>h.ls l (Jr hl)⟩
 .refine⟨h.ns,λl hl=>h.ls l ?_⟩
  rcases Jk.1 hl with h1|h1
  .exact h1
  .rw[IY.1 h1];exact ai hj Lt.dm
theorem B4{α:Type}{o:α->α->Int}{nw:α->α->Bool}:∀(l:List (List α)) (acc:List α) (x:α),x∈l.foldl (RL.join o nw) acc->x∈acc\/∃y∈l,x∈y
 |[],_,_,h=>.inl h
 |y::r,acc,x,h=>by
  rcases B4 r _ x h with h1|⟨z,hz,h1⟩
  .rcases RL.nY o nw _ _ _ h1 with h2|h2
   .exact .inl h2
   .exact .inr ⟨y,List.mem_cons_self ..,h2⟩
  .exact .inr ⟨z,List.mem_cons_of_mem _ hz,h1⟩
theorem PH{t:Nt}(hr:bE t)(h:PF t):(nH t).length<=6:=by
 have hR:Gw.aT (nH t):=(kJ hr).2.1;have hn:((nH t).map (·.av)).Nodup:=by
  rw[List.Nodup,List.pairwise_map];exact List.Pairwise.imp (λ{a b} h e=>by
   have:Gw.ord a b=0:=(bL _ _).2 e
   omega) hR
 have h1:=hn.length_le_of_subset (l₂:=t.ns.map (·.av)) (λx hx=>by
  obtain⟨g,hg,rfl⟩:=JV.1 hx;rcases B4 _ _ _ hg with h2|⟨y,hy,h2⟩
  .cases h2
  .obtain⟨n,hn,rfl⟩:=JV.1 hy
   exact h.ns n hn g h2)
 rw[JJ,JJ] at h1;exact Is h1 (Nt.aD hr.e).1
structure Kept(k:Nat)(t:Nt):Prop where
 wC:pU k t
 PI:yG t
 X7:PF t
theorem Kept.more{k:Nat}{t:Nt}(h:Kept k t):Kept (k+1) t:=⟨h.wC.more,h.PI,h.X7⟩
theorem so{k:Nat}{t t':Nt}(hr:bE t)(hg:wi t t')(h:Kept k t)(hn:AE t t'):Kept (k+1) t':=⟨tf hr hg h.wC hn,KP hr hg h.wC.nW h.PI hn,PG hr h.X7 hn⟩
def Dk(i k a b:Nat):Prop:=a<i\/(a=i/\b<k)
theorem Tq.mono{t0 t:Nt}{A:List Sv.aV}{G:List Gw.bN}{D E:Nat->Nat->Prop}(h:Tq t0 A G D t)(hE:∀a b,a<t.ns.length->b<t.ns.length->E a b->D a b):Tq t0 A G E t:=⟨h.right,h.len,h.nm,h.XX,h.base,λa b ha hb he=>h.cov a b ha hb (hE a b ha hb he),h.up⟩
theorem Fin.mono{t:Nt}{A:List Sv.aV}{G:List Gw.bN}{D E:Nat->Nat->Prop}(h:Fin A G D t)(hE:∀a b,a<t.ns.length->b<t.ns.length->E a b->D a b):Fin A G E t:=⟨h.right,h.top,λa b ha hb he=>h.uz a b ha hb (hE a b ha hb he),h.all⟩
structure Ag(t0:Nt)(T i k:Nat)(t:Nt):Prop where
 ls:t.ls=[]
 right:bE t
 len:t.ns.length=t0.ns.length
 nm:∀j,(t.ns.getD j aM).name=(t0.ns.getD j aM).name
 kept:∃q,q<=60+2*(36*T+6*i+k)/\Kept q t
 left:∀j,(own t j).state=4↔(own t0 j).state=4
 tur:T=0->Tq t0 (lu t0) (nH t0) (Dk i k) t
 fin:T=1->Fin (lu t0) (nH t0) (Dk i k) t
 done:2<=T->Fin (lu t0) (nH t0) (λ_ _=>True) t
theorem PJ{t0:Nt}{q:Nat}(hr:bE t0)(hl:t0.ls=[])(hk:Kept q t0)(hq:q<=60):Ag t0 0 0 0 t0:=
 ⟨hl,hr,rfl,λ_=>rfl,⟨q,by omega,hk⟩,λ_=>Iff.rfl,λ_=>(KN hr).mono (λa b _ _ h=>by rcases h with h|⟨_,h⟩<;>omega),λh=>(by cases h),λh=>(by omega)⟩
theorem aeb{t0 t:Nt}{T i k:Nat}(Ej:bE t0)(h:Ag t0 T i k t):∀j,j<t.ns.length->Sub Sv.ord Sv.bF (t.ns.getD j aM).sv (lu t0)/\Sub Gw.ord Gw.bF (t.ns.getD j aM).gw (nH t0):=λj hj=>by
 have hF:∀{D},Fin (lu t0) (nH t0) D t->Sub Sv.ord Sv.bF (t.ns.getD j aM).sv (lu t0)/\Sub Gw.ord Gw.bF (t.ns.getD j aM).gw (nH t0):=λhf=>by
  rw[(hf.all j hj).1,(hf.all j hj).2];exact⟨Sub.refl (kJ Ej).1.1 Sv.keyed Sv.cR,Sub.refl (kJ Ej).2.1 Gw.keyed Gw.cR⟩
 rcases Nat.lt_or_ge T 2 with hT|hT
 .rcases Nat.eq_zero_or_pos T with h1|h1
  .exact(h.tur h1).up j hj
  .exact hF (h.fin (by omega))
 .exact hF (h.done hT)
theorem X8{t0 t:Nt}{T i k:Nat}(Ej:bE t0)(hS:(lu t0).length<=40)(hG:(nH t0).length<=6)(hT3:T<3)(h:Ag t0 T i k t)(gP:∀n∈t.ns,iE n)(hi:i<t.ns.length)(hk:k<t.ns.length) :
 nr (t.ns.getD k aM) (bJ (t.ns.getD i aM))=0/\bE ⟨t.ns,[⟨((k:Nat):Int),(bJ (t.ns.getD i aM)).T⟩]⟩/\Ag t0 T i (k+1) (rf t i k):=by
 obtain⟨f1,f2⟩:=kJ Ej;obtain⟨q,hq,hK⟩:=h.kept;have z1:=(Nt.aD h.right.e).1;have h0:=Ps h.right hK.wC (by omega) hi hk f1.1 hS f2.1 hG (aeb Ej h);obtain⟨r1,r2,l2⟩:=KO h.right gP hK.wC h.ls hi hk h0;have hD:∀a b,a<(rf t i k).ns.length->b<(rf t i k).ns.length->Dk i (k+1) a b->Dk i k a b\/(a=i/\b=k):=λa b _ _ h=>by
  rcases h with h|⟨h1,h2⟩
  .exact .inl (.inl h)
  .by_cases e:b=k
   .exact .inr ⟨h1,e⟩
   .exact .inl (.inr ⟨h1,by omega⟩)
 have n1:AE t ⟨t.ns,[⟨((k:Nat):Int),(bJ (t.ns.getD i aM)).T⟩]⟩:=.inr (.inr (.inl ⟨i,k,hi,hk,by rw[h.ls];decide,by rw[h.ls];rfl⟩));have g1:=mF h.right gP n1;have k1:=so h.right g1 hK n1;have n2:AE ⟨t.ns,[⟨((k:Nat):Int),(bJ (t.ns.getD i aM)).T⟩]⟩ (rf t i k):=.inr (.inr (.inr (.inl ⟨0,k,bJ (t.ns.getD i aM),Nat.zero_lt_one,hk,iD (kA ((Nt.aD h.right.e).2.2.1 _ (ai hi aM))),h0,rfl⟩)));have k2:=so g1.right (mF g1.right gP n2) k1 n2;refine⟨h0,r1,rfl,r2,(fa t i k).trans h.len,λj=>(jR hk j).trans (h.nm j),⟨q+2,by omega,k2⟩,λj=>(Pt h.right r2 hK.wC.nW hK.PI hi hk h0 j).trans (h.left j),λhz=>(Tr Ej f1.1 f2.1 (h.tur hz) hi hk h0 r2).mono hD,λhz=>(FY (h.fin hz) hi hk h0 r2).1.mono hD,λhz=>(FY (h.done hz) hi hk h0 r2).1.mono (λ_ _ _ _ _=>.inl trivial)⟩
theorem X9{t0 t:Nt}{T i k:Nat}(h:Ag t0 T i k t)(hk:k=t.ns.length):Ag t0 T (i+1) 0 t:=by
 obtain⟨q,hq,hK⟩:=h.kept;have z1:=(Nt.aD h.right.e).1;have hD:∀a b,a<t.ns.length->b<t.ns.length->Dk (i+1) 0 a b->Dk i k a b:=λa b _ hb h=>by
  rcases h with h|⟨_,h⟩
  .by_cases e:a=i
   .exact .inr ⟨e,by omega⟩
   .exact .inl (by omega)
  .omega
 exact⟨h.ls,h.right,h.len,h.nm,⟨q,by omega,hK⟩,h.left,λhz=>(h.tur hz).mono hD,λhz=>(h.fin hz).mono hD,h.done⟩
theorem Tv{t0 t:Nt}{T i:Nat}(Ej:bE t0)(h:Ag t0 T i 0 t)(hi:i=t.ns.length):Ag t0 (T+1) 0 0 t:=by
 obtain⟨q,hq,hK⟩:=h.kept;have z1:=(Nt.aD h.right.e).1;have hD:∀a b,a<t.ns.length->b<t.ns.length->Dk i 0 a b:=λa b ha _=>.inl (by omega);refine⟨h.ls,h.right,h.len,h.nm,⟨q,by omega,hK⟩,h.left,λhz=>(by omega),λhz=>?_,λhz=>?_⟩
 .have hT0:T=0:=by omega
  have ht:=h.tur hT0;exact⟨h.right,Ts Ej ht hD,λa b _ _ hd=>by rcases hd with hd|⟨_,hd⟩<;>omega,λk hk=>Tt Ej ht hD hk⟩
 .by_cases hT1:T=1
  .exact(h.fin hT1).mono (λa b ha hb _=>hD a b ha hb)
  .exact h.done (by omega)
theorem aaa{t0 t:Nt}(h:Ag t0 3 0 0 t):(∀a b,a<t.ns.length->b<t.ns.length->(t.ns.getD a aM).ms=(t.ns.getD b aM).ms)/\(∀k,k<t.ns.length->(t.ns.getD k aM).sv=lu t0/\(t.ns.getD k aM).gw=nH t0)/\∀j,j<t.ns.length->∃u,(∀k,k<t.ns.length->bX (t.ns.getD k aM).ms (t0.ns.getD j aM).name=AI u)/\(u.state=4↔(own t0 j).state=4)/\(u.state=4\/u.state=1):=by
 have hf:=h.done (by omega);obtain⟨q,_,hK⟩:=h.kept;refine⟨λa b ha hb=>Pr hf (λ_ _ _ _=>trivial) hK.wC.ns ha hb,hf.all,λj hj=>⟨own t j,λk hk=>?_,h.left j,?_⟩⟩
 .rw[<- h.nm];exact hf.uz j k hj hk trivial
 .obtain⟨o1,o2,o3⟩:=lr h.right hj
  have he:=(Nt.aD h.right.e).2.2.1 _ (ai hj aM);have:=pt (jX (Nd.parts (Nd.aD he).1).ms _ (dH o1).1);omega
def xB(i:Nat):ByteArray:=[(⟨#[97]⟩:ByteArray),⟨#[98]⟩,⟨#[101]⟩,⟨#[102]⟩,⟨#[103]⟩,⟨#[104]⟩].getD i ⟨#[]⟩
def wD(c i:Nat):ByteArray:=if i%(1+c)=0 then⟨#[99]⟩ else⟨#[100]⟩
def l9(c i:Nat):Nd:=LP (xB i) (wD c i) (i:Int) (decide (i%2=0))
theorem aec(c i:Nat)(hc:c<=1)(hi:i<6):SH (xB i) (wD c i) (i:Int)=0:=by
 rcases(by omega:c=0\/c=1) with rfl|rfl<;>rcases(by omega:i=0\/i=1\/i=2\/i=3\/i=4\/i=5) with rfl|rfl|rfl|rfl|rfl|rfl<;>kernel_rfl
theorem VT(c k:Nat)(hc:c<=1)(hk:k<=5):(Nt.mk ((JC (k+1)).map (l9 c)) []).e=0:=by
 rcases(by omega:c=0\/c=1) with rfl|rfl<;>rcases(by omega:k=0\/k=1\/k=2\/k=3\/k=4\/k=5) with rfl|rfl|rfl|rfl|rfl|rfl<;>kernel_rfl
theorem ajX(c i:Nat):(wD c i).size<=Io:=by unfold wD;split<;>decide
theorem ajY(c i:Nat)(hc:c<=1):(#[Y ⟨#[99]⟩,Y ⟨#[100]⟩]:Array Value)[i%(1+c)]?=AI (Y (wD c i)):=by
 unfold wD;split
 .rename_i h;rw[h];rfl
 .rename_i h
  have:i%(1+c)=1:=by have:=Nat.mod_lt i (by omega:0<1+c);omega
  rw[this];rfl
def K5(c n:Int):Int:=if c<0 then(-(c+1)).tmod n else c.tmod n
theorem Es(c:Int){n:Int}(hn:0<n):0<=K5 c n/\K5 c n<n:=by
 unfold K5;split
 .exact⟨Int.tmod_nonneg _ (by omega),Int.tmod_lt_of_pos _ hn⟩
 .exact⟨Int.tmod_nonneg _ (by omega),Int.tmod_lt_of_pos _ hn⟩
theorem yI(c n:Int)(w:World)(hn:0<n)(XS:n<=1000)(hc : -9223372036854775808<=c)(BL:c<=9223372036854775807) :
 Calls AS 20 #[U O c,U O n] w λe w'=>e=AT (U O (K5 c n))/\w'=w:=by
 have hb:=Es c hn;have h0:(n==0)=false:=by
  have h:n≠0:=by omega
  simpa using h
 unfold K5 at hb ⊢;by_cases h:c<0
 .rw[if_pos h] at hb ⊢
  have h1:IntKind.i64.wrap (c+1)=c+1:=by rw[I1];omega
  have h2:IntKind.i64.wrap (-(c+1)) = -(c+1):=by rw[I1];omega
  have h5:IntKind.i64.wrap ((-(c+1)).tmod n)=(-(c+1)).tmod n:=by rw[I1];omega
  have h3:=decide_eq_true h;go_enter Tryz.func20,Tryz.ntmps20;go_wp2_with fail;go_ret;exact⟨by rw[Int.neg_tmod];rfl,rfl⟩
 .rw[if_neg h] at hb ⊢
  have h5:IntKind.i64.wrap (c.tmod n)=c.tmod n:=by rw[I1];omega
  have h3:=decide_eq_false h;go_enter Tryz.func20,Tryz.ntmps20;go_wp2_with fail;go_ret;exact⟨by rw[Int.tmod_eq_emod_of_nonneg (by omega)];rfl,rfl⟩
theorem aed:∀i,i<6->(xB i).size<=Io
 |0,_=>by decide
 |1,_=>by decide
 |2,_=>by decide
 |3,_=>by decide
 |4,_=>by decide
 |5,_=>by decide
 |i+6,h=>absurd h (by omega)
theorem aee:∀i,i<6->(#[Y ⟨#[97]⟩,Y ⟨#[98]⟩,Y ⟨#[101]⟩,Y ⟨#[102]⟩,Y ⟨#[103]⟩,Y ⟨#[104]⟩]:Array Value)[i]?=AI (Y (xB i))
 |0,_=>rfl
 |1,_=>rfl
 |2,_=>rfl
 |3,_=>rfl
 |4,_=>rfl
 |5,_=>rfl
 |i+6,h=>absurd h (by omega)
theorem Tryz.aab:(Tryz.prog.info? 50).map (λi=>(i.zero,i.size,i.bytes))=AI (AI (Ik #[Y ⟨#[]⟩,Y ⟨#[]⟩,J be 0 0,J be 0 0,J be 0 0,J be 0 0,U O 0,U O 0,U O 0,U O 0,U O 0,J be 0 0]),12,192):=by kernel_rfl
theorem Tw(c i:Nat)(hc:c<=1)(hi:i<6)(W:World) :
 Calls AS 14 #[Y (xB i),Y (wD c i),U O (i:Int),Ia (decide (i%2=0))] W λe w'=>Below W.heap.size W w'/\∃a2 wN oO a3 wO pI a4 wP oP a5 wQ oQ a6 wR wS,e=AT (Ip #[Ik #[Y (xB i),Y (wD c i),J a2 wN oO,J a3 wO pI,J a4 wP oP,J a5 wQ oQ,U O 0,U O 0,U O 0,U O 0,U O 1000,J a6 wR wS],U O 0])/\Hid (cZ W.heap.size w' (l9 c i) (J a2 wN oO) (J a3 wO pI) (J a4 wP oP) (J a5 wQ oQ) (J a6 wR wS)/\iE (l9 c i)):=by
 refine(uu (xB i) (wD c i) (i:Int) (decide (i%2=0)) W (aed i hi) (ajX c i)).mono ?_;rintro e w' ⟨hb,⟨aP,_⟩|⟨_,aP,_⟩|⟨_,_,um,ur,us,ug,uw,rfl,ho,hk⟩⟩
 .exact absurd (aec c i hc hi) aP
 .exact absurd rfl aP
 .obtain⟨x2,y2,e2⟩:=aQ ho.ms
  obtain⟨x3,y3,e3⟩:=aQ ho.rs;obtain⟨x4,y4,e4⟩:=aQ ho.sv;obtain⟨x5,y5,e5⟩:=aQ ho.gw;obtain⟨x6,y6,e6⟩:=aQ ho.wh;subst e2 e3 e4 e5 e6;exact⟨hb,_,_,_,_,_,_,_,_,_,_,_,_,_,_,_,rfl,ho,hk⟩
structure Grw(C:Nat)(w:World)(v:Value)(L:List Nx):Prop where
 row:w.ownsRow C 50 12 v L.length (jP L)
 own:∀x∈L,cZ C w x.n x.vm x.vr x.vs x.vg x.vw/\iE x.n
theorem Grw.below{C:Nat}{w w':World}{v:Value}{L:List Nx}(h:Grw C w v L)(hb:Below w.heap.size w w'):Grw C w' v L:=
 ⟨eS h.row (λb _ _ e=>(hb.block b (BY.1 e).1).trans e),λx hx=>⟨(h.own x hx).1.below hb,(h.own x hx).2⟩⟩
theorem cZ.grown{B:Nat}{w w':World}{n:Nd}{vm vr vs vg vw:Value}{row:Option Nat}(h:cZ B w n vm vr vs vg vw)(hg:w.grownBy w' row)(hr:∀b,row=AI b->∃cs,w.heap[b]?=AI (By cs 50 (0,0))):cZ B w' n vm vr vs vg vw:=by
 have hq:∀(q:Nat) (c:Array Value) (T:TypeId) (f:Nat×Nat),T≠50->w.heap[q]?=AI (By c T f)->w'.heap[q]?=AI (By c T f):=λq c T f hT e=>(hg.block q (BY.1 e).1 (λe2=>by
  obtain⟨cs,h2⟩:=hr q e2.symm;rw[h2] at e;simp at e;exact hT e.2.1.symm)).trans e
 exact⟨eS h.ms (λq c f e=>hq q c _ f (by decide) e),eS h.rs (λq c f e=>hq q c _ f (by decide) e),eS h.sv (λq c f e=>hq q c _ f (by decide) e),eS h.gw (λq c f e=>hq q c _ f (by decide) e),eS h.wh (λq c f e=>hq q c _ f (by decide) e)⟩
theorem Grw.nsl{C:Nat}{w:World}{v:Value}{L:List Nx}(h:Grw C w v L):xv w v (L.map (·.n)):=by
 rcases h.row.2 with⟨rfl,h0⟩|⟨b,c,cur,rfl,eX,hb,hn,et,cE,CO⟩
 .have:L=[]:=List.eq_nil_of_length_eq_zero h0
  subst this;exact⟨be,0,rfl,.inl rfl⟩
 .refine⟨AI ⟨b,0,be⟩,c,by rw[JJ],.inr ⟨b,0,rfl,(BY.1 hb).1,λj hj=>?_⟩⟩
  have Ko:j<L.length:=by simpa using hj
  have XS:(L.getD j cz).n=(L.map (·.n)).getD j aM:=by
   rw[Ir,Ir,List.getElem?_map,Ic Ko];rfl
  have ho:=h.own _ (ik Ko);rw[<- XS];refine⟨_,_,_,_,_,ho.1.is ho.2,λi hi=>?_⟩;have hg:=nF L j Ko i hi;rw[ae hb,show 0+j*12+i=j*12+i by omega,<- Oy,<- List.getElem?_take_of_lt (show j*12+i<L.length*12 by omega),CO,hg,Nx.cs,Oy]
theorem Et(nodes eE:Int)(k z:Nat)(hk:k<=5)(hc:z<=1)(w:World)(hV:Rv w.heap.size w)(ji:∀W:World,Calls AS 20 #[U O nodes,U O 6] W λe w'=>e=AT (U O (k:Int))/\w'=W)(BL:∀W:World,Calls AS 20 #[U O eE,U O 2] W λe w'=>e=AT (U O (z:Int))/\w'=W) :
 Calls AS 6 #[U O nodes,U O eE] w λe w'=>Below w.heap.size w w'/\∃a l c2 d m q,e=AT (Ip #[Ik #[J a l c2,J d m q],Ia true])/\Hid (fC w' ⟨(JC (k+1)).map (l9 z),[]⟩ (J a l c2) (J d m q)):=by
 obtain⟨i0,fH,dt,gJ,gB⟩:=info_parts Tryz.aab;have he:=VT z k hc hk;have HNW:Hid (∀W v,Below w.heap.size w W->xv W v ((JC (k+1)).map (l9 z))->Calls AS 15 #[v] W λe w'=>Below W.heap.size W w'/\∃a l c d m q,e=AT (Ip #[Ik #[J a l c,J d m q],U O 0])/\Hid (eP W.heap.size w' ⟨(JC (k+1)).map (l9 z),[]⟩ (J a l c) (J d m q))):=λW v hW hv=>by
  refine(vR _ v W (hV.after hW) hv).mono ?_;rintro e w' ⟨hb,⟨_,a,l,c,d,m,q,nb,L,rfl,ho⟩|⟨aP,_⟩⟩
  .have hns:L.map (·.n)=(JC (k+1)).map (l9 z):=ho.ns
   have hLn:L.length=((JC (k+1)).map (l9 z)).length:=by rw[<- hns,JJ]
   exact⟨hb,_,_,_,_,_,_,rfl,nb,L,by rw[hLn];exact ho.un,ho.ns,⟨ho.le,ho.row,λx hx=>(ho.own x hx).mono (by have:=ho.le;omega),λx hx=>hv.ok _ (by rw[<- hns];exact J0 hx)⟩,Lt.Own.mono ho.ls (by have:=ho.le;omega)⟩
  .exact absurd he aP
 have HCH:Hid _:=ji;have rR:Hid _:=BL;have hwc:IntKind.i64.wrap (1+(z:Int))=1+(z:Int):=by rw[I1];omega
 have uk:(1+(z:Int)==0)=false:=by
  have h:1+(z:Int)≠0:=by omega
  simpa using h
 have nR:IntKind.i64.wrap (1+(k:Int))=1+(k:Int):=by rw[I1];omega
 clear hV he ji BL;obtain⟨W0,bP,bK,-,hz⟩:=bV w #[J be 0 0,J be 0 0] 27;have tW:Hid (w.heap.size+1<=W0.heap.size):=by show _<=_;rw[bP];simp
 have df:Hid (Below w.heap.size w W0/\W0.heap[w.heap.size]?=AI (By #[J be 0 0,J be 0 0] 27 (0,0))):=⟨bK,hz⟩;clear bK hz;go_enter Tryz.func6,Tryz.ntmps6;go_wp2_with fail;rw[<- bP];clear bP;go_loopw [6,7] (λv i wr=>∃(j:Nat) (L:List Nx) (a:Option Addr) (c:Nat),j<=k+1/\i=U O j/\v=J a j c/\Hid (L.map (·.n)=(JC j).map (l9 z)/\L.length=j)/\Hid (Grw (w.heap.size+1) wr (J a j c) L)/\Hid (Below w.heap.size w wr/\wr.heap[w.heap.size]?=AI (By #[J be 0 0,J be 0 0] 27 (0,0)))) (λ_ i _=>k+1-(intOf i).toNat)
 case atStart=>exact⟨0,[],be,0,IF _,rfl,rfl,⟨rfl,rfl⟩,⟨World.ownsRow_nil _ _ _ _,λx hx=>by cases hx⟩,df⟩
 case round=>
  obtain⟨j,L,a,c,hj,rfl,rfl,HL,HG,HB⟩:=hrel;by_cases aX:j<k+1
  .have hd:=decide_eq_true (by omega)
   have hj6:j<6:=by omega
   obtain⟨r,hr⟩:∃r,r=j%(1+z):=⟨_,rfl⟩;have mI:r<2:=by have:=Nat.mod_lt j (by omega:0<1+z);omega
   have rC:(j:Int)%(1+(z:Int))=(r:Int):=by rw[hr,Int.natCast_emod];rfl
   have hm2:=(Int.tmod_eq_emod_of_nonneg (by omega)).trans rC;have hmw:IntKind.i64.wrap (r:Int)=(r:Int):=by rw[I1];omega
   have hr3:(r:Int)<2:=by omega
   have KQ:(0:Int)<=(r:Int):=by omega
   have hr5:((r:Int)).toNat=r:=by omega
   have Wf:=(ajY z j hc).trans rfl;rw[<- hr] at Wf;clear hr mI;have hm4:((j:Int)%2==0)=decide (j%2=0):=by
    by_cases h:j%2=0
    .rw[decide_eq_true h]
     have:(j:Int)%2=0:=by omega
     simpa using this
    .rw[decide_eq_false h]
     have:(j:Int)%2≠0:=by omega
     simpa using this
   have HM4:Hid _:=hm4;clear hm4;have HNO:=Tw z j hc hj6;have aef:Hid _:=HNO;clear HNO;go_wp2_with fail;refine(HCH.out wr).mono ?_;rintro e w' ⟨rfl,MS⟩;have PK:=MS.symm;subst PK;go_wp2_with fail;obtain⟨W1,db⟩:∃W1,W1=wr.alloc (By #[Y ⟨#[99]⟩,Y ⟨#[100]⟩] 9):=⟨_,rfl⟩;rw[<- db];refine(rR.out W1).mono ?_;rintro e w' ⟨rfl,MS⟩;have PK:=MS.symm;subst PK;have hx1:W1.heap[wr.heap.size]?=AI (By #[Y ⟨#[99]⟩,Y ⟨#[100]⟩] 9 (0,0)):=by rw[db];exact Ij wr _
   have aZ:Hid (Below wr.heap.size wr W1):=by show Below _ _ _;rw[db];exact(Below.refl _ _).alloc (Ie _) _
   have x0:=(ae hx1 r).trans Wf;have y0:(W1.alloc (By #[Y ⟨#[97]⟩,Y ⟨#[98]⟩,Y ⟨#[101]⟩,Y ⟨#[102]⟩,Y ⟨#[103]⟩,Y ⟨#[104]⟩] 9)).cell? ⟨W1.heap.size,j,be⟩=AI (Y (xB j)):=(ae (Ij W1 _) j).trans (aee j hj6);have hj7:(j:Int)<6:=by omega
   clear db hx1;go_wp2_with fail;obtain⟨W2,bO⟩:∃W2,W2=W1.alloc (By #[Y ⟨#[97]⟩,Y ⟨#[98]⟩,Y ⟨#[101]⟩,Y ⟨#[102]⟩,Y ⟨#[103]⟩,Y ⟨#[104]⟩] 9):=⟨_,rfl⟩;rw[<- bO];have bA:Hid (Below wr.heap.size wr W2):=by show Below _ _ _;rw[bO];exact aZ.out.alloc aZ.out.size _
   rw[HM4.out];refine Calls.mono (aef.out W2) ?_;rintro e w3 ⟨bY,a2,wN,oO,a3,wO,pI,a4,wP,oP,a5,wQ,oQ,a6,wR,wS,rfl,HN3⟩;have cF:Hid _:=bA.out.trans (bY.mono bA.out.size);clear bY bO x0 y0 aef;generalize cY:xB j=nm at *;generalize Ms:wD z j=ct at *;have R9:Hid (xB j=nm/\wD z j=ct):=⟨cY,Ms⟩;clear cY Ms;have cB:=cF.out.size;obtain⟨W4,nU,eV,-,LY⟩:=bV w3 #[Y nm,Y ct,J a2 wN oO,J a3 wO pI,J a4 wP oP,J a5 wQ oQ,U O 0,U O 0,U O 0,U O 0,U O 1000,J a6 wR wS] 50;have gC:Hid _:=cF.out.trans (eV.mono cF.out.size);have qp:Hid _:=HB.out.1.trans (gC.out.mono HB.out.1.size);have Fa:=(HG.out.below gC.out);have cL:W4.ownsRow (w.heap.size+1) 50 12 (J a j c) j (jP L):=by have h:=Fa.row;rw[HL.out.2] at h;exact h
   have pB:Hid (cZ (w.heap.size+1) W4 (l9 z j) (J a2 wN oO) (J a3 wO pI) (J a4 wP oP) (J a5 wQ oQ) (J a6 wR wS)/\iE (l9 z j)):=⟨(HN3.out.1.below eV).mono (by have:=bA.out.size;have:=HB.out.1.size;have:=(BY.1 HB.out.2).1;omega),HN3.out.2⟩;have HOO:Hid _:=Fa.own;obtain⟨p0,p1,p2,p3,p4,p5,p6,p7,p8,p9,p10,p11⟩:=bQ LY;have Va:Hid _:=(gC.out.block _ (BY.1 HB.out.2).1).trans HB.out.2;have hbs:w.heap.size+1<=W4.heap.size:=by have:=gC.out.size;have:=(BY.1 HB.out.2).1;omega
   clear eV LY Fa HN3;go_upto_region 7 with fail
   rw[<- nU];clear nU;have P6:Hid (∀b,(J a j c).ownBlock=AI b->∃cs,W4.heap[b]?=AI (By cs 50 (0,0))):=λb e=>(jx cL e).2;have HRL:Hid (∀b,(J a j c).ownBlock=AI b->w.heap.size+1<=b):=λb e=>(jx cL e).1;have h63:j+1<=Io:=by unfold Io;omega
   have Nl:(j+1)*192<=140737488355328:=by omega
   go_wp2_with (at_builtin;refine wpList_append_lies _ rfl _ _ 24 rfl (w.heap.size+1) 50 i0 _ 12 192 Tryz.underlying24 fH dt gJ gB rfl (by omega) (J a j c) j (jP L) rfl (World.ownsRow.alloc cL _) ⟨W4.heap.size,0,be⟩ 1 1 [Y nm,Y ct,J a2 wN oO,J a3 wO pI,J a4 wP oP,J a5 wQ oQ,U O 0,U O 0,U O 0,U O 0,U O 1000,J a6 wR wS] rfl rfl (World.news_of_block (cs:=#[Y nm,Y ct,J a2 wN oO,J a3 wO pI,J a4 wP oP,J a5 wQ oQ,U O 0,U O 0,U O 0,U O 0,U O 1000,J a6 wR wS]) (t:=50) (fr:=(0,0)) (Ij W4 _)) (by simp[Value.oneCell']) (by omega) h63 Nl (by simp;omega) (W4.heap.size+1) (by simp) ?_;intro gg cap w5 hown gI cA X6);have hbA:Below W4.heap.size W4 (W4.alloc (By #[Y nm,Y ct,J a2 wN oO,J a3 wO pI,J a4 wP oP,J a5 wQ oQ,U O 0,U O 0,U O 0,U O 0,U O 1000,J a6 wR wS] 50)):=(Below.refl _ _).alloc (Ie _) _;have HGR:Hid (Grw (w.heap.size+1) w5 (J (AI ⟨gg,0,be⟩) (j+1) cap) (L++[⟨l9 z j,J a2 wN oO,J a3 wO pI,J a4 wP oP,J a5 wQ oQ,J a6 wR wS⟩])):=by
    have hrb:∀b,(J a j c).ownBlock=AI b->∃cs,(W4.alloc (By #[Y nm,Y ct,J a2 wN oO,J a3 wO pI,J a4 wP oP,J a5 wQ oQ,U O 0,U O 0,U O 0,U O 0,U O 1000,J a6 wR wS] 50)).heap[b]?=AI (By cs 50 (0,0)):=λb e=>by
     obtain⟨cs,h2⟩:=P6.out b e;exact⟨cs,(hbA.block b (BY.1 h2).1).trans h2⟩
    refine⟨?_,λx hx=>?_⟩
    .have hl:(L++[(⟨l9 z j,J a2 wN oO,J a3 wO pI,J a4 wP oP,J a5 wQ oQ,J a6 wR wS⟩:Nx)]).length=j+1:=by rw[Ii,HL.out.2];rfl
     rw[hl,lN,uv];have cE:(⟨l9 z j,J a2 wN oO,J a3 wO pI,J a4 wP oP,J a5 wQ oQ,J a6 wR wS⟩:Nx).cs=[Y nm,Y ct,J a2 wN oO,J a3 wO pI,J a4 wP oP,J a5 wQ oQ,U O 0,U O 0,U O 0,U O 0,U O 1000,J a6 wR wS]:=by rw[<- R9.out.1,<- R9.out.2];rfl
     rw[cE];exact hown
    .rcases Jk.1 hx with h1|h1
     .exact⟨((HOO.out x h1).1.below hbA).grown gI hrb,(HOO.out x h1).2⟩
     .rw[IY] at h1
      subst h1;exact⟨(pB.out.1.below hbA).grown gI hrb,pB.out.2⟩
   have Hu:Hid ((L++[(⟨l9 z j,J a2 wN oO,J a3 wO pI,J a4 wP oP,J a5 wQ oQ,J a6 wR wS⟩:Nx)]).map (·.n)=(JC (j+1)).map (l9 z)/\(L++[(⟨l9 z j,J a2 wN oO,J a3 wO pI,J a4 wP oP,J a5 wQ oQ,J a6 wR wS⟩:Nx)]).length=j+1):=⟨by rw[O9,HL.out.1,List.range_succ,O9];rfl,by rw[Ii,HL.out.2];rfl⟩;have hlw:=(BY.1 Va.out).1;have HBF:Hid (Below w.heap.size w w5/\w5.heap[w.heap.size]?=AI (By #[J be 0 0,J be 0 0] 27 (0,0))):=⟨(qp.out.trans (hbA.mono qp.out.size)).grown gI (by simp;omega) (λb e=>by have:=HRL.out b e;omega),((gI.block _ (by simp;omega) (λe=>by have:=HRL.out _ e.symm;omega)).trans (hbA.block _ hlw)).trans Va.out⟩;clear hown gI cA X6 hbA cL p0 p1 p2 p3 p4 p5 p6 p7 p8 p9 p10 p11 HOO pB Va qp gC cF bA aZ P6 HRL HL HG HB hlw hbs;go_wp2_with fail;go_roundw
   case rel=>exact⟨j+1,_,AI ⟨gg,0,be⟩,cap,by omega,by go_num,rfl,Hu,HGR,HBF⟩
   case measure=>simp[intOf];omega
  .have hd:=decide_eq_false (by omega)
   have Ro:j=k+1:=by omega
   have hN:=HG.out.nsl;rw[HL.out.1,Ro] at hN;have HC:=HNW.out wr _ HB.out.1 hN;rw[<- Ro] at HC;have HJK:Hid _:=Ro;clear HG HL hN HNW rR Ro;go_wp2_with fail;refine(HCH.out wr).mono ?_;rintro e w' ⟨rfl,MS⟩;have PK:=MS.symm;subst PK;go_wp2_with fail;refine Calls.mono HC ?_;rintro e w1 ⟨aC,a1,l1,c1,d1,m1,q1,rfl,Gv⟩;have aZ:Hid _:=HB.out.1.trans (aC.mono HB.out.1.size);have dD:=(aC.block _ (BY.1 HB.out.2).1).trans HB.out.2;have DS:=(BY.1 HB.out.2).1;clear aC HC HB HCH;obtain⟨W2,bO,aL,-,dO⟩:=bV w1 #[J a1 l1 c1,J d1 m1 q1] 27;have pA:=(aL.block _ (BY.1 dD).1).trans dD;obtain⟨W3,ee⟩:∃W3,W3=aF w.heap.size [J a1 l1 c1,J d1 m1 q1] 0 W2:=⟨_,rfl⟩;have kV:W3.heap[w.heap.size]?=AI (By #[J a1 l1 c1,J d1 m1 q1] 27 (0,0)):=by rw[ee];exact bB [J a1 l1 c1,J d1 m1 q1] [] [J be 0 0,J be 0 0] pA rfl
   have iO:Hid (Below w.heap.size w W3/\fC W3 ⟨(JC (k+1)).map (l9 z),[]⟩ (J a1 l1 c1) (J d1 m1 q1)):=by
    refine⟨by rw[ee];exact aU (Ie _) _ _ (aZ.out.trans (aL.mono aZ.out.size)),by rw[<- HJK.out];exact((Gv.out.fN (w':=W2) (λq hq hl=>aL.block q hl)).fN (w':=W3) (λq hq _=>by rw[ee];exact bc (by omega) _ _ _)).is (λl hl=>by cases hl)⟩
   have x0:=ae dO 0;have x1:=ae dO 1;have g0:=ae pA 0;have g1:=ae pA 1;have f0:=aA pA 0;have f1:=aA pA 1;have q0:=ae kV 0;have q1':=ae kV 1;clear aL dO pA dD kV Gv aZ DS;go_upto_region 11 with fail
   rw[<- bO];clear bO;go_wp2_with fail;simp only[aF,Nat.zero_add] at ee;rw[<- ee];clear ee x0 x1 g0 g1 f0 f1;exact bodyPost_ret (v:=Ip #[Ik #[J a1 l1 c1,J d1 m1 q1],Ia true]) (by simp[results,Tryz.results6,go_sem,q0,q1']) rfl ⟨iO.out.1,_,_,_,_,_,_,rfl,iO.out.2⟩
theorem Eu(nodes eE:Int)(w:World)(hV:Rv w.heap.size w)(hn : -9223372036854775808<=nodes/\nodes<=9223372036854775807)(hc : -9223372036854775808<=eE/\eE<=9223372036854775807) :
 Calls AS 6 #[U O nodes,U O eE] w λe w'=>Below w.heap.size w w'/\∃t a m c d l q,e=AT (Ip #[Ik #[J a m c,J d l q],Ia true])/\Hid (fC w' t (J a m c) (J d l q)/\bE t/\Kept 0 t/\0<t.ns.length):=by
 have b1:=Es nodes (show(0:Int)<6 by omega);have b2:=Es eE (show(0:Int)<2 by omega);have e1:=Int.toNat_of_nonneg b1.1;have e2:=Int.toNat_of_nonneg b2.1;refine(Et nodes eE (K5 nodes 6).toNat (K5 eE 2).toNat (by omega) (by omega) w hV (λW=>?_) (λW=>?_)).mono ?_
 .rw[e1];exact yI nodes 6 W (by omega) (by omega) hn.1 hn.2
 .rw[e2];exact yI eE 2 W (by omega) (by omega) hc.1 hc.2
 .rintro e w' ⟨hb,a,m,c,d,l,q,rfl,HN⟩
  have hr:bE ⟨(JC ((K5 nodes 6).toNat+1)).map (l9 (K5 eE 2).toNat),[]⟩:=⟨VT _ _ (by omega) (by omega),λl hl=>by cases hl⟩;have one:∀x∈(JC ((K5 nodes 6).toNat+1)).map (l9 (K5 eE 2).toNat),(∀m∈x.ms,m.name=x.name/\m.aI=1/\m.state=1)/\x.sv=[]/\x.gw=[]:=λx hx=>by
   obtain⟨i,_,rfl⟩:=JV.1 hx;exact⟨λm hm=>by rw[IY.1 hm];exact⟨rfl,rfl,rfl⟩,rfl,rfl⟩
  obtain⟨_,_,z3,z4,_⟩:=Nt.aD hr.e;have hT:pT ⟨(JC ((K5 nodes 6).toNat+1)).map (l9 (K5 eE 2).toNat),[]⟩:=by
   refine⟨λo ho x hx=>⟨λm hm e=>?_,λs hs=>(by rw[(one x hx).2.1] at hs;cases hs)⟩,λo _ l hl=>(by cases hl)⟩;obtain⟨i,hi,rfl⟩:=IT hx;obtain⟨j,hj,rfl⟩:=IT ho;by_cases jS:i=j
   .subst jS;exact(yD (z3 _ hx)).ms m hm e
   .have:=oL z4 jS hi hj
    rw[RL.gD aM hi,RL.gD aM hj] at this;exact absurd (((one _ hx).1 m hm).1.symm.trans e) this
  refine⟨hb,_,_,_,_,_,_,_,rfl,HN.out,hr,⟨⟨hT,λx hx m hm=>?_,λl hl=>(by cases hl),λo ho m hm _=>?_⟩,⟨λo _ x hx m hm _ h4=>?_,λo _ l hl=>(by cases hl)⟩,⟨λx hx g hg=>?_,λl hl=>(by cases hl)⟩⟩,by simp⟩
  .rw[((one x hx).1 m hm).1];exact J0 hx
  .rw[((one o ho).1 m hm).2.1];decide
  .rw[((one x hx).1 m hm).2.2] at h4;cases h4
  .rw[(one x hx).2.2] at hg;cases hg
theorem K6(t:Nt)(vn vl:Value)(v:Ev)(w:World)(j:Nat)(hV:Rv w.heap.size w)(h:fC w t vn vl)(hr:bE t)(hk:v.kind=4)(hw:v.which=(j:Int))(hj:j<t.ls.length) :
 Calls AS 9 #[Ik #[vn,vl],Ik (Cv v)] w (lp w ⟨t.ns,t.ls.eraseIdx j⟩):=by
 refine(sn t False (λx=>x=⟨t.ns,t.ls.eraseIdx j⟩) vn vl v w hV h hr.short hr.e (λW C g nb ul L hW hwC hC hN oN hP=>?_)).mono (λe w' h=>h.says);have hp:pH t v C g nb ul L W:=⟨hC,hN,oN,hP,hr⟩;obtain⟨a,c,hu,hq⟩:=hp.cells;have h20:=(Nt.aD hr.e).2.1;refine sd 76 #[.pointer (AI ⟨g,0,be⟩)] #[] (enters_of Tryz.func76 (by kernel_rfl) rfl) g 4 (λer w'=>Below C W w'/\Hid (iZ C w' g nb L v False (λx=>x=⟨t.ns,t.ls.eraseIdx j⟩) er)) W (by decide) rfl (by rw[<- hk];exact ae hP.hg 2) (λW2 bO=>?_) (λW2 bO _=>?_)
 .obtain⟨q0,q1,q2,q3,q4⟩:=hq W2 bO
  have:=vT 4 (.inr (.inl rfl)) g t.ls.length _ _ v.which W2 q1 (by rw[<- hk];exact q2) q3 h20;rw[hw,lq hj] at this;exact this
 .have h2:=hp.below bO
  refine(rV C g j _ ul t.ls v W2 h2.P h20 hw hj).mono ?_;rintro e w' ⟨rfl,hm,a,kk,c,qW⟩;exact⟨0,rfl,(bO.mono hC).trans hm.below,⟨λh=>absurd rfl h,λ_=>⟨_,rfl,a,kk,c,L,rfl,oN,h2.N.mv hm,qW⟩⟩⟩
def Rq:Ev:=⟨0,0,0,0,⟨#[]⟩,⟨0,0,0,0,0⟩,⟨⟨#[]⟩,⟨#[]⟩,⟨#[]⟩,⟨#[]⟩,0,0,false,0,false⟩⟩
structure K7(w:World)(a:Option Addr)(l:List Ev):Prop where
 ok:∀v∈l,v.Ok
 row:∀k,k<l.length->∃G off,a=AI ⟨G,off,be⟩/\w.rangeAt G (off+k*19) (Cv (l.getD k Rq)).toList
theorem xC{P:Program}{a:Act}{o:Oper}{W:World}(ty:TypeId)(x:Operand)(ho:o.op=.load ty x)(b off:Nat)(hx:a.eval x=.pointer (AI ⟨b,off,be⟩))(cs:List Value)(d:TypeDesc)(hc:W.rangeAt b off cs)(hu:P.underlying ty=AI d)(hd:d.isRow=true)(hi:(P.info? ty).map (·.size)=AI cs.length):(execOp a.eval o).run P W=.ok (.value (Ik cs.toArray)) W:=by
 unfold execOp;simp only[ho,hx,run_loadAt_mid W b off ty cs d hc hu hd hi,Sem.run_bind,Sem.run_pure,Result.andThen_ok]
theorem tI{w W:World}{b off:Nat}{cs:List Value}(h:w.rangeAt b off cs)(hb:Below w.heap.size w W):W.rangeAt b off cs:=λi v hi=>by
 have h1:=h i v hi;exact(hb.cell (World.block_lt_of_cell? w _ h1)).trans h1
theorem sq{C:Nat}{w:World}{t:Nt}{un ul:Value}(h:eP C w t un ul)(hr:bE t):fC w t un ul:=h.is (λl hl=>by
 have:=hr.sh l hl;show _<=Io;unfold Io;omega)
theorem Inv.is{w wr:World}{t:Nt}{un ul:Value}{C:Nat}(h:fC w t un ul\/eP C wr t un ul)(hr:bE t)(hb:Below w.heap.size w wr):fC wr t un ul:=h.elim (·.below hb) (sq · hr)
theorem eP.mono{A C:Nat}{w:World}{t:Nt}{un ul:Value}(h:eP C w t un ul)(hA:A<=C):eP A w t un ul:=by
 obtain⟨nb,L,h1,h2,h3,h4⟩:=h;exact⟨nb,L,h1,h2,h3.mono hA,Lt.Own.mono h4 hA⟩
structure qR(g:Nat)(w w':World):Prop where
 os:w'.os=w.os
 tape:w'.tape=w.tape
 output:w'.output=w.output
 size:w.heap.size<=w'.heap.size
 block:∀b,b<w.heap.size->b≠g->w'.heap[b]?=w.heap[b]?
theorem qR.refl(g:Nat)(w:World):qR g w w:=⟨rfl,rfl,rfl,Ie _,λ_ _ _=>rfl⟩
theorem qR.of{g:Nat}{w w':World}(h:Below w.heap.size w w'):qR g w w':=⟨h.os,h.tape,h.output,h.size,λb hb _=>h.block b hb⟩
theorem qR.trans{g:Nat}{a b c:World}(h:qR g a b)(k:qR g b c):qR g a c:=⟨k.os.trans h.os,k.tape.trans h.tape,k.output.trans h.output,Is h.size k.size,λx hx hg=>(k.block x (Nat.lt_of_lt_of_le hx h.size) hg).trans (h.block x hx hg)⟩
theorem qR.set{g:Nat}{w:World}(L:List Value)(j:Nat):qR g w (aF g L j w):=by
 have h:=aU (B:=0) (b:=g) (IF _) L j (Below.refl 0 w);exact⟨h.os,h.tape,h.output,h.size,λb _ hb=>bc hb L j w⟩
theorem qR.below{g n:Nat}{w w':World}(h:qR g w w')(hn:n<=g)(hw:n<=w.heap.size):Below n w w':=⟨h.os,h.tape,h.output,h.size,λb hb=>h.block b (by omega) (by omega)⟩
def Af(g:Nat)(w:World)(t:Nt)(vn vl:Value):Prop:=∀w',qR g w w'->fC w' t vn vl
theorem Af.is{g:Nat}{w:World}{t:Nt}{vn vl:Value}(h:Af g w t vn vl):fC w t vn vl:=h w (qR.refl _ _)
theorem Af.bar{g:Nat}{w w':World}{t:Nt}{vn vl:Value}(h:Af g w t vn vl)(hb:qR g w w'):Af g w' t vn vl:=λw2 h2=>h w2 (hb.trans h2)
theorem Af.aeg{g:Nat}{u w:World}{t:Nt}{vn vl:Value}(h:fC u t vn vl)(hb:Below u.heap.size u w)(hg:u.heap.size<=g):Af g w t vn vl:=λ_ h2=>h.below (hb.trans (h2.below hg hb.size))
theorem Af.Ew{C g:Nat}{w:World}{t:Nt}{vn vl:Value}(h:eP C w t vn vl)(hr:bE t)(hg:g<C):Af g w t vn vl:=λ_ h2=>sq (h.fN λb hb hs=>h2.block b hs (by omega)) hr
theorem K8{t:Nt}{q:Nat}(h:bE t)(hk:Kept q t)(gP:∀n∈t.ns,iE n)(j:Nat):bE ⟨t.ns,t.ls.eraseIdx j⟩/\Kept (q+1) ⟨t.ns,t.ls.eraseIdx j⟩:=by
 have n1:AE t ⟨t.ns,t.ls.eraseIdx j⟩:=.inr (.inr (.inr (.inr (.inl ⟨j,rfl⟩))));have g1:=mF h gP n1;exact⟨g1.right,so h g1 hk n1⟩
theorem K9{ms:List Mem}(hr:aT ms){i j:Nat}(hi:i<ms.length)(hj:j<ms.length)(h:(ms.getD i dm).name=(ms.getD j dm).name):i=j:=by
 have e:∀k (hk:k<ms.length),ms.getD k dm=ms[k]:=λk hk=>by simp[Ir,Ic hk]
 rw[e i hi,e j hj] at h;rcases Nat.lt_trichotomy i j with h1|h1|h1
 .have h2:=Jb.1 hr i j hi hj h1
  rw[h,ep] at h2;cases h2
 .exact h1
 .have h2:=Jb.1 hr j i hj hi h1
  rw[h,ep] at h2;cases h2
theorem iX.three{W:World}{N:Nd}{t0 t1:ByteArray}{p2 p3 p4 p5 p11:Option Addr}{k2 c2 k3 c3 k4 c4 k5 c5 k11 c11:Nat}{i6 i7 i8 i9 i10:Int}(h:iX W N #[Y t0,Y t1,J p2 k2 c2,J p3 k3 c3,J p4 k4 c4,J p5 k5 c5,U O i6,U O i7,U O i8,U O i9,U O i10,J p11 k11 c11]):Sl W (J p2 k2 c2) N.ms/\Sv.Sl W (J p4 k4 c4) N.sv/\Gw.Sl W (J p5 k5 c5) N.gw:=by
 obtain⟨vm,vr,vs,vg,vw,hA,hi⟩:=h;simp only[dE,Array.mk.injEq,Qe,and_true] at hA;obtain⟨e0,e1,e2,e3,e4,e5,e6,e7,e8,e9,e10,e11⟩:=hA;exact⟨by rw[e2];exact hi.ms,by rw[e4];exact hi.sv,by rw[e5];exact hi.gw⟩
theorem rowAt{w:World}{p:Option Addr}{k c:Nat}{ms:List Mem}(h:Sl w (J p k c) ms):k=ms.length/\(0<k->∃g o,p=AI ⟨g,o,be⟩/\g<w.heap.size/\(∀j,j<k->j<ms.length)/\Row w g o ms):=by
 obtain⟨a,c',e,_,hr⟩:=h;simp only[I2] at e;obtain⟨rfl,rfl,rfl⟩:=e;refine⟨rfl,λh0=>?_⟩;rcases hr with rfl|⟨g,o,h1,h2,h3⟩
 .simp at h0
 .exact⟨g,o,h1,h2,λ_ h=>h,h3⟩
theorem xv.at{w:World}{a:Option Addr}{n c:Nat}{ns:List Nd}(h:xv w (J a n c) ns){i:Nat}(hi:i<ns.length):∃b off,a=AI ⟨b,off,be⟩/\∃A,iX w (ns.getD i aM) A/\∀j,j<12->w.cell? ⟨b,off+i*12+j,be⟩=A[j]?:=by
 obtain⟨p,c',e,h⟩:=h;rcases h with rfl|⟨b,off,rfl,_,hr⟩
 .simp at hi
 .obtain⟨vm,vr,vs,vg,vw,h1,h2⟩:=hr i hi
  simp only[I2] at e;exact⟨b,off,e.1,_,⟨vm,vr,vs,vg,vw,rfl,h1⟩,h2⟩
theorem xv.len{w:World}{a:Option Addr}{n c:Nat}{ns:List Nd}(h:xv w (J a n c) ns):n=ns.length:=by
 obtain⟨p,c',e,_⟩:=h;simp only[I2] at e;exact e.2.1
abbrev MAt(ms:List Mem)(t:ByteArray)(r:Int):Prop:=∀W v,Sl W v ms->Calls AS 11 #[v,Y t] W λe w'=>e=AT (U O r)/\Below W.heap.size W w'
theorem B5{ms:List Mem}(hc:bp ms=0){t:ByteArray}{m:Mem}(hm:bX ms t=AI m):∃q:Nat,q<ms.length/\ms.getD q dm=m/\MAt ms t q:=by
 obtain⟨h1,h2⟩:=dH hm;obtain⟨q,hq,hqe⟩:=IT h1;have hg:ms.getD q dm=m:=by rw[<- hqe];simp[Ir,Ic hq]
 have hz:=aj hc;refine⟨q,hq,hg,λW v hv=>?_⟩;refine(La ms v t W hv (by have:=hz.1;omega)).mono ?_;rintro e w' ⟨r,rfl,cA,rfl⟩;rcases cA.out with⟨k0,yW,rfl,hf⟩|⟨_,hf⟩
 .rw[hm] at hf
  injection hf with hf;have h3:=K9 hz.2.1 yW hq (by rw[<- hf,hg]);exact⟨by rw[h3],Below.refl _ _⟩
 .rw[hm] at hf;cases hf
theorem xv.at2{w:World}{a:Option Addr}{n c:Nat}{ns:List Nd}(h:xv w (J a n c) ns):n=ns.length/\(0<n->∃b o,a=AI ⟨b,o,be⟩/\∀k,k<n->∃A,iX w (ns.getD k aM) A/\∀W,Below w.heap.size w W->∀j,j<12->W.cell? ⟨b,o+k*12+j,be⟩=A[j]?):=by
 have hl:=h.len;refine⟨hl,λh0=>?_⟩;obtain⟨b,o,e,_⟩:=h.at (i:=0) (by omega);subst e;refine⟨b,o,rfl,λk hk=>?_⟩;obtain⟨b1,o1,e1,A,hA,hc⟩:=h.at (i:=k) (by omega);obtain⟨rfl,rfl⟩:b=b1/\o=o1:=by simpa using e1
 have sA:A.size=12:=by obtain⟨_,_,_,_,_,rfl,_⟩:=hA;rfl
 refine⟨A,hA,λW hW j hj=>?_⟩;have h1:=hc j hj;rw[Array.getElem?_eq_getElem (by omega)] at h1 ⊢;exact(hW.cell (World.block_lt_of_cell? w _ h1)).trans h1
def qS(t:Nt)(k:Nat):List Sv.aV:=((t.ns.map (·.sv)).take k).foldl (RL.join Sv.ord Sv.bF) []
theorem yJ{t:Nt}{k:Nat}(hk:k<t.ns.length):qS t (k+1)=Sv.aB (qS t k) (t.ns.getD k aM).sv:=by
 unfold qS;rw[List.take_succ_eq_append_getElem (by simpa using hk),List.foldl_append,List.getElem_map,RL.gD aM hk];rfl
theorem wF{t:Nt}(hr:bE t):∀k,k<=t.ns.length->Sv.aT (qS t k)/\(qS t k).length<=40*k
 |0,_=>⟨by unfold qS;exact List.Pairwise.nil,by unfold qS;simp⟩
 |k+1,h=>by
  have z3:=(Nt.aD hr.e).2.2.1 _ (ai (show k<t.ns.length by omega) aM);have h1:=wF hr k (by omega);have h2:=(Sv.aj (Nd.parts (Nd.aD z3).1).sv).1;have h3:=Sv.dj (t.ns.getD k aM).sv (qS t k);rw[yJ (by omega)];exact⟨Sv.dz _ _ h1.1,by omega⟩
theorem Ah(t:Nt)(a d:Option Addr)(n c l q:Nat)(w:World)(h:fC w t (J a n c) (J d l q))(hr:bE t) :
 Calls AS 10 #[Ik #[J a n c,J d l q]] w λe w'=>Below w.heap.size w w'/\∃p m r,e=AT (J p m r)/\Hid (Sv.Sl w' (J p m r) (lu t)):=by
 obtain⟨hn,cA⟩:=h.ns.at2;have hz:=Nt.aD hr.e;have AD:n<=6:=by rw[hn];exact hz.1
 have HL:Hid (qS t n=lu t):=by
  show _=_;unfold qS lu;rw[List.take_of_length_le (by simp;omega)]
 have fm:Hid (∀k,k<n->∃b o p4 k4 c4,a=AI ⟨b,o,be⟩/\(∀W,Below w.heap.size w W->W.cell? ⟨b,o+k*12+4,be⟩=AI (J p4 k4 c4))/\Sv.Sl w (J p4 k4 c4) (t.ns.getD k aM).sv):=λk hk=>by
  obtain⟨b,o,e,hA⟩:=cA (by omega);obtain⟨A,hA,hC⟩:=hA k hk;obtain⟨VA,t1a,VB,D2,Rj,p3a,k3a,c3a,VC,VD,VE,p5a,k5a,c5a,i6a,i7a,i8a,i9a,NP,NQ,NR,NT,rfl⟩:=hA.letters;exact⟨b,o,VC,VD,VE,e,λW hW=>hC W hW 4 (by omega),hA.three.2.1⟩
 have HJ:Hid (∀k,k<n->∀W v v',Sv.Sl W v (qS t k)->Sv.Sl W v' (t.ns.getD k aM).sv->Calls AS 24 #[v,v'] W λe w'=>∃p m r,e=AT (J p m r)/\Hid (Sv.Sl w' (J p m r) (qS t (k+1)))/\Below W.heap.size W w'):=λk hk W v v' h1 h2=>by
  have z3:=(Nt.aD hr.e).2.2.1 _ (ai (show k<t.ns.length by omega) aM);have f1:=wF hr k (by omega);have f2:=(Sv.aj (Nd.parts (Nd.aD z3).1).sv).1;refine(Sv.Bs _ _ _ _ W h1 h2 (by omega) (by omega) f1.1).mono ?_;rintro e w' ⟨v,rfl,hs,hb⟩;rw[<- yJ (by omega)] at hs;obtain⟨p,r,rfl,_⟩:=id hs.out;exact⟨p,_,r,rfl,hs,hb⟩
 clear h hr hz cA hn;obtain⟨W0,bP,bK,-,k0⟩:=bV w #[J a n c,J d l q] 27;have uh:Hid (W0.heap[w.heap.size]?=AI (By #[J a n c,J d l q] 27 (0,0))):=k0;have HI0:Hid (Sv.Sl W0 (J be 0 0) (qS t 0)/\Below w.heap.size w W0):=⟨Sv.WD _,bK⟩;clear bK k0;go_enter Tryz.func10,Tryz.ntmps10;go_upto_region 1 with fail
 rw[<- bP];clear bP;generalize iH:w.heap.size=gx at *;go_wp2_with fail;go_loopw [3,4] (λv i wr=>∃(k m r:Nat) (p:Option Addr),k<=n/\v=J p m r/\i=U O k/\Hid (Sv.Sl wr (J p m r) (qS t k)/\Below gx w wr/\wr.heap[gx]?=AI (By #[J a n c,J d l q] 27 (0,0)))) (λ_ i _=>n-(intOf i).toNat)
 case atStart=>exact⟨0,0,0,be,IF _,rfl,rfl,HI0.out.1,HI0.out.2,uh.out⟩
 case round=>
  obtain⟨k,m,r,p,hk,rfl,rfl,HR⟩:=hrel;have x0:=ae HR.out.2.2 0;by_cases aX:k<n
  .have hd:=decide_eq_true (p:=(k:Int)<(n:Int)) (by omega)
   have fH:(k:Int)<(n:Int):=by omega
   obtain⟨b,o,p4,k4,c4,e,h4,hs⟩:=fm.out k aX;subst e iH;have x4:=h4 wr HR.out.2.1;have HC:=HJ.out k aX wr _ _ HR.out.1 (hs.below HR.out.2.1);have Gy:Hid (k<n):=aX;clear h4 hs HJ fm;go_wp2_with fail;refine HC.mono ?_;rintro e w1 ⟨p1,m1,r1,rfl,fO,aC⟩;have yQ:Hid (Sv.Sl w1 (J p1 m1 r1) (qS t (k+1))/\Below w.heap.size w w1/\w1.heap[w.heap.size]?=AI (By #[J (AI ⟨b,o,be⟩) n c,J d l q] 27 (0,0))):=⟨fO.out,HR.out.2.1.trans (aC.mono HR.out.2.1.size),(aC.block _ (BY.1 HR.out.2.2).1).trans HR.out.2.2⟩;clear aC x0 x4 HC HR fO;go_wp2_with fail;go_roundw
   case rel=>exact⟨k+1,m1,r1,p1,Gy.out,rfl,by go_num,yQ⟩
   case measure=>simp[intOf];have:=Gy.out;omega
  .have hd:=decide_eq_false (p:=(k:Int)<(n:Int)) (by omega)
   have HF:Hid (Sv.Sl wr (J p m r) (lu t)/\Below w.heap.size w wr):=by
    have e:k=n:=by omega
    obtain⟨h1,h2,_⟩:=HR.out;rw[e,HL.out] at h1;subst iH;exact⟨h1,h2⟩
   clear HJ fm HL;go_wp2_with fail;go_ret;exact⟨HF.out.2,p,m,r,rfl,HF.out.1⟩
theorem K7.below{w W:World}{a:Option Addr}{l:List Ev}(h:K7 w a l)(hb:Below w.heap.size w W):K7 W a l:=⟨h.ok,λk hk=>by
 obtain⟨G,off,e,hr⟩:=h.row k hk;exact⟨G,off,e,tI hr hb⟩⟩
end Go.Proofs.YtbfghimjdlpicaaGreatDoor
namespace Go.Proofs.YtbfghimjdlpicaaGreatDoor
namespace Sv
open Go.ChangeShapes Go.WideShapes Go.ChangeAt Go.RowKit
section
variable {H:Type} {enc:TypeId × Value→H} {w:World} {base:Nat} {spare:Nat→Bool} {held:Bool}
theorem Tryz.kcT:Tryz.prog.cellsOf 38=9:=by kernel_rfl
theorem Tryz.kc9:Tryz.prog.cellsOf 9=1:=by kernel_rfl
theorem Tryz.Tx:Tryz.prog.cellsOf 3=1:=by kernel_rfl
theorem Tryz.kc4:Tryz.prog.cellsOf 4=1:=by kernel_rfl
theorem B6{fuel:Nat}{cs:List Value}{x:DataW H×List MemPlace}(h:DataW.trod enc AS w base spare held fuel 38 cs=AI x) :
 ∃m:aV,cs=[Y m.node,Y m.bf,Y m.name,Y m.tag,U O m.addr,U O m.port,Ia m.af,U O m.version,Ia m.gone]/\(m).ok:=by
 obtain⟨xs,n,_,_,hl,hlen,hf⟩:=DataW.trod_struct Tryz.underlying38 h;rw[Tryz.kcT] at hl
 match cs,hl with
 |[c0,c1,c2,c3,c4,c5,c6,c7,c8],_=>
  match xs,hlen with
  |[y0,y1,y2,y3,y4,y5,y6,y7,y8],_=>
   have h0:=hf 0 _ rfl;have h1:=hf 1 _ rfl;have h2:=hf 2 _ rfl;have h3:=hf 3 _ rfl;have h4:=hf 4 _ rfl;have h5:=hf 5 _ rfl;have h6:=hf 6 _ rfl;have h7:=hf 7 _ rfl;have h8:=hf 8 _ rfl;simp[Tryz.kc9] at h0;simp[Tryz.kc9] at h1;simp[Tryz.kc9] at h2;simp[Tryz.kc9] at h3;simp[Tryz.Tx] at h4;simp[Tryz.Tx] at h5;simp[Tryz.kc4] at h6;simp[Tryz.Tx] at h7;simp[Tryz.kc4] at h8;obtain⟨z0,e0,_,g0⟩:=QP Jd h0;obtain⟨z1,e1,_,g1⟩:=QP Jd h1;obtain⟨z2,e2,_,g2⟩:=QP Jd h2;obtain⟨z3,e3,_,g3⟩:=QP Jd h3;obtain⟨z4,e4,_⟩:=J9 IH h4;obtain⟨z5,e5,_⟩:=J9 IH h5;obtain⟨z6,e6,_⟩:=DataW.trod_bool JS h6;obtain⟨z7,e7,_⟩:=J9 IH h7;obtain⟨z8,e8,_⟩:=DataW.trod_bool JS h8;simp only[Qe,and_true] at e0 e1 e2 e3 e4 e5 e6 e7 e8;subst e0 e1 e2 e3 e4 e5 e6 e7 e8;exact⟨⟨z0,z1,z2,z3,z4,z5,z6,z7,z8⟩,rfl,⟨g0,g1,g2,g3⟩⟩
end
end Sv
namespace Wh
open Go.ChangeShapes Go.WideShapes Go.ChangeAt Go.RowKit
section
variable {H:Type} {enc:TypeId × Value→H} {w:World} {base:Nat} {spare:Nat→Bool} {held:Bool}
theorem Tryz.Tx:Tryz.prog.cellsOf 3=1:=by kernel_rfl
theorem kcP:Tryz.prog.cellsOf 36=5:=by kernel_rfl
theorem B7{fuel:Nat}{cs:List Value}{x:DataW H×List MemPlace}(h:DataW.trod enc AS w base spare held fuel 36 cs=AI x) :
 ∃a b c d e:Int,cs=[U O a,U O b,U O c,U O d,U O e]:=by
 obtain⟨xs,n,_,_,hl,hlen,hf⟩:=DataW.trod_struct Tryz.underlying36 h;rw[kcP] at hl
 match cs,hl with
 |[c0,c1,c2,c3,c4],_=>
  match xs,hlen with
  |[y0,y1,y2,y3,y4],_=>
   have h0:=hf 0 _ rfl;have h1:=hf 1 _ rfl;have h2:=hf 2 _ rfl;have h3:=hf 3 _ rfl;have h4:=hf 4 _ rfl;simp[Tryz.Tx] at h0;simp[Tryz.Tx] at h1;simp[Tryz.Tx] at h2;simp[Tryz.Tx] at h3;simp[Tryz.Tx] at h4;obtain⟨a,e0,_,_⟩:=J9 IH h0;obtain⟨b,e1,_,_⟩:=J9 IH h1;obtain⟨c,e2,_,_⟩:=J9 IH h2;obtain⟨d,e3,_,_⟩:=J9 IH h3;obtain⟨e,e4,_,_⟩:=J9 IH h4;simp only[Qe,and_true] at e0 e1 e2 e3 e4;subst e0 e1 e2 e3 e4;exact⟨a,b,c,d,e,rfl⟩
end
end Wh
end Go.Proofs.YtbfghimjdlpicaaGreatDoor
namespace Go.Proofs.YtbfghimjdlpicaaGreatDoor
open Go.ChangeShapes Go.WideShapes Go.ChangeAt Go.RowKit
section
variable {H:Type} {enc:TypeId × Value→H} {w:World} {base:Nat} {spare:Nat→Bool} {held:Bool}
theorem Tryz.kcE:Tryz.prog.cellsOf 40=19:=by kernel_rfl
theorem Tryz.aj3:Tryz.prog.cellsOf 38=9:=by kernel_rfl
theorem Tryz.Ty:Tryz.prog.cellsOf 3=1:=by kernel_rfl
theorem Tryz.aj4:Tryz.prog.cellsOf 9=1:=by kernel_rfl
theorem Ex{fuel:Nat}{cs:List Value}{x:DataW H×List MemPlace}(h:DataW.trod enc AS w base spare held fuel 40 cs=AI x) :
 ∃v:Ev,cs=(Cv v).toList/\v.Ok:=by
 obtain⟨xs,n,_,_,hl,hlen,hf⟩:=DataW.trod_struct Tryz.underlying40 h;rw[Tryz.kcE] at hl
 match cs,hl with
 |[c0,c1,c2,c3,c4,c5,c6,c7,c8,c9,c10,c11,c12,c13,c14,c15,c16,c17,c18],_=>
  match xs,hlen with
  |[y0,y1,y2,y3,y4,y5,y6],_=>
   have h0:=hf 0 _ rfl;have h1:=hf 1 _ rfl;have h2:=hf 2 _ rfl;have h3:=hf 3 _ rfl;have h4:=hf 4 _ rfl;have h5:=hf 5 _ rfl;have h6:=hf 6 _ rfl;simp[Tryz.Ty] at h0;simp[Tryz.Ty] at h1;simp[Tryz.Ty] at h2;simp[Tryz.Ty] at h3;simp[Tryz.aj4] at h4;simp[Wh.kcP] at h5;simp[Tryz.aj3] at h6;obtain⟨i0,e0,_,w0⟩:=J9 IH h0;obtain⟨i1,e1,_,_⟩:=J9 IH h1;obtain⟨i2,e2,_,_⟩:=J9 IH h2;obtain⟨i3,e3,_,_⟩:=J9 IH h3;obtain⟨s,e4,_,w4⟩:=QP Jd h4;obtain⟨a,b,c,d,e,e5⟩:=Wh.B7 h5;obtain⟨sv,e6,w6⟩:=Sv.B6 h6;simp only[Qe,and_true] at e0 e1 e2 e3 e4 e5 e6;obtain⟨r1,r2,r3,r4,r5⟩:=e5;obtain⟨q1,q2,q3,q4,q5,q6,q7,q8,q9⟩:=e6;subst e0 e1 e2 e3 e4 r1 r2 r3 r4 r5 q1 q2 q3 q4 q5 q6 q7 q8 q9;exact⟨⟨i0,i1,i2,i3,s,⟨a,b,c,d,e⟩,sv⟩,rfl,w0,w4,w6⟩
theorem AF{r:Reach}{b0:Nat}{v:Value}{d:DataW H}{p:List MemPlace}(hv:Value.okWide AS w r b0 22 v)(h:DataW.Trod enc AS w base spare held 22 v d p) :
 ∃(l:List Ev) (a:Option Addr) (c:Nat),v=J a l.length c/\K7 w a l/\l.length<=Io:=by
 obtain⟨a,len,cap,rfl⟩:=okWide_slice Tryz.underlying22 hv;obtain⟨fuel,hf⟩:=h;rcases Go.Deep.open_slice Tryz.underlying22 hf with⟨cE,_⟩|⟨x,aqZ,aq0,m,n,D,Pl,cE,hb,hl,hm,CC,_,hx⟩
 .simp only[Value.cells,Qe,and_true,I2] at cE
  obtain⟨rfl,rfl,rfl⟩:=cE;exact⟨[],be,0,rfl,⟨λv hv=>(by cases hv),λk hk=>absurd hk (by simp)⟩,by simp⟩
 .simp only[Value.cells,Qe,and_true,I2] at cE
  obtain⟨rfl,rfl,rfl⟩:=cE;have Rn:len<=m:=by rw[CC];split<;>omega
  have ki:∀i,i<len->∃q:Ev,q.Ok/\∀t,t<19->w.cell? (x.add (i*19+t))=(Cv q).toList[t]?:=λi hi=>by
   obtain⟨cs',h1,h2⟩:=hx i (by omega);obtain⟨q,hq,hs⟩:=Ex h2;rw[Tryz.kcE] at h1;obtain⟨_,_,h3⟩:=World.cells?_some h1;refine⟨q,hs,λt ht=>?_⟩;rw[<- Go.Deep.add_add,h3 t ht,hq]
  have aih:Inhabited Ev:=⟨Rq⟩;obtain⟨F,hF⟩:=Go.Deep.choose_lt (α:=Ev) (p:=λi q=>q.Ok/\∀t,t<19->w.cell? (x.add (i*19+t))=(Cv q).toList[t]?) ki;have lQ:∀j,j<len->((JC len).map F).getD j Rq=F j:=λj hj=>by simp[Ir,hj]
  refine⟨(JC len).map F,AI x,cap,by simp,⟨λv hv=>?_,λk hk=>?_⟩,by simp;omega⟩
  .obtain⟨j,hj,rfl⟩:=JV.1 hv
   exact(hF j (List.mem_range.1 hj)).1
  .have SF:k<len:=by simpa using hk
   obtain⟨b,off,spot⟩:=x;have hc0:=(hF 0 (by omega)).2 0 (by omega);have aeh:spot=be:=by simpa[Addr.add] using World.cell?_spot hc0
   subst aeh;refine⟨b,off,rfl,λi v hi=>?_⟩;rw[lQ k SF] at hi;have hi2:=(List.getElem?_eq_some_iff.1 hi).1;have:=(hF k SF).2 i hi2;rw[Go.WideShapes.add_plain,<- Nat.add_assoc,hi] at this;exact this
end
end Go.Proofs.YtbfghimjdlpicaaGreatDoor
