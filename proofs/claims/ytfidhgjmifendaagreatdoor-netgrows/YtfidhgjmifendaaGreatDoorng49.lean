import Derived.Test.YtfidhgjmifendaaGreatDoorng48
import Derived.Test.YtfidhgjmifendaaGreatDoorng47
set_option maxHeartbeats 25600000
set_option maxRecDepth 100000
open Go.Value renaming slice→J,int→U,agg→Ik,string→Y,bool→Ia
open Go.IntKind renaming i64→O
open Go.Obj renaming cells→By
open Option renaming none→be,some→AI
open Go.Ending renaming returned→AT
open Go.Proofs.Tryz renaming prog→AS
open Go.World renaming drew→JB,block_lt_of_cell?→Iy
open Array renaming getElem?_eq_some_iff→BY
open List renaming getElem?_eq_getElem→Ie,getD→Iq,getElem_of_mem→I3,mem_or_eq_of_mem_set→JS,getElem_mem→IG,length_append→Ih,length_set→IT,mem_of_mem_eraseIdx→Qb
open Go renaming heap_alloc_new→Ii,cell_regrown→Ig,redrawn→Iv,below_regrown→J1
open Go.Sort renaming grow→Ij
namespace Go.Proofs.YtfidhgjmifendaaGreatDoor
open Go.RowKit
theorem FB(g nb n j:Nat)(R:Array Value)(v0 v1 v2 v3 v4 v5 v6 v7 v8 v9 v10 v11:Value)(u0 u1:ByteArray)(b2 b3 b4 b5 b11:Option Addr)(m2 e2 m3 e3 m4 e4 m5 e5 m11 e11:Nat)(u6 u7 u8 u9 u10:Int)(w:World)(hj:j<n)(g0:w.cell? ⟨g,0,be⟩=AI (J (AI ⟨nb,0,be⟩) n n))(g3:w.cell? ⟨g,3,be⟩=AI (U O (j:Int)))(cO:w.heap[nb]?=AI (By R 42 (0,0)))(Md:nb≠g)(c0:R[j*12]?=AI v0)(c1:R[j*12+1]?=AI v1)(c2:R[j*12+2]?=AI v2)(c3:R[j*12+3]?=AI v3)(c4:R[j*12+4]?=AI v4)(c5:R[j*12+5]?=AI v5)(c6:R[j*12+6]?=AI v6)(c7:R[j*12+7]?=AI v7)(c8:R[j*12+8]?=AI v8)(c9:R[j*12+9]?=AI v9)(c10:R[j*12+10]?=AI v10)(c11:R[j*12+11]?=AI v11) :
 Calls AS 84 #[.pointer (AI ⟨g,0,be⟩),Ik #[Y u0,Y u1,J b2 m2 e2,J b3 m3 e3,J b4 m4 e4,J b5 m5 e5,U O u6,U O u7,U O u8,U O u9,U O u10,J b11 m11 e11],U O 0] w λe w'=>e=AT (U O 0)/\w'=JB (aD nb [Y u0,Y u1,J b2 m2 e2,J b3 m3 e3,J b4 m4 e4,J b5 m5 e5,U O u6,U O u7,U O u8,U O u9,U O u10,J b11 m11 e11] (j*12) (w.alloc (By #[Y u0,Y u1,J b2 m2 e2,J b3 m3 e3,J b4 m4 e4,J b5 m5 e5,U O u6,U O u7,U O u8,U O u9,U O u10,J b11 m11 e11] 42))):=by
 have di:=Iy w _ g0;have aN:=(BY.1 cO).1;obtain⟨V,hV,NC,-,uZ⟩:=bV w #[Y u0,Y u1,J b2 m2 e2,J b3 m3 e3,J b4 m4 e4,J b5 m5 e5,U O u6,U O u7,U O u8,U O u9,U O u10,J b11 m11 e11] 42;have nO:=(NC.block nb aN).trans cO;have a0:=(NC.cell (p:=⟨g,0,be⟩) di).trans g0;have a3:=(NC.cell (p:=⟨g,3,be⟩) di).trans g3;have d0:=(ae nO _).trans c0;have z0:V.frozen? ⟨nb,j*12,be⟩=false:=an nO _;have d1:V.cell? ⟨nb,j*12+1,be⟩=AI v1:=(ae nO _).trans c1;have z1:V.frozen? ⟨nb,j*12+1,be⟩=false:=an nO _;have d2:V.cell? ⟨nb,j*12+2,be⟩=AI v2:=(ae nO _).trans c2;have z2:V.frozen? ⟨nb,j*12+2,be⟩=false:=an nO _;have d3:V.cell? ⟨nb,j*12+3,be⟩=AI v3:=(ae nO _).trans c3;have z3:V.frozen? ⟨nb,j*12+3,be⟩=false:=an nO _;have d4:V.cell? ⟨nb,j*12+4,be⟩=AI v4:=(ae nO _).trans c4;have z4:V.frozen? ⟨nb,j*12+4,be⟩=false:=an nO _;have d5:V.cell? ⟨nb,j*12+5,be⟩=AI v5:=(ae nO _).trans c5;have z5:V.frozen? ⟨nb,j*12+5,be⟩=false:=an nO _;have d6:V.cell? ⟨nb,j*12+6,be⟩=AI v6:=(ae nO _).trans c6;have z6:V.frozen? ⟨nb,j*12+6,be⟩=false:=an nO _;have d7:V.cell? ⟨nb,j*12+7,be⟩=AI v7:=(ae nO _).trans c7;have z7:V.frozen? ⟨nb,j*12+7,be⟩=false:=an nO _;have d8:V.cell? ⟨nb,j*12+8,be⟩=AI v8:=(ae nO _).trans c8;have z8:V.frozen? ⟨nb,j*12+8,be⟩=false:=an nO _;have d9:V.cell? ⟨nb,j*12+9,be⟩=AI v9:=(ae nO _).trans c9;have z9:V.frozen? ⟨nb,j*12+9,be⟩=false:=an nO _;have d10:V.cell? ⟨nb,j*12+10,be⟩=AI v10:=(ae nO _).trans c10;have z10:V.frozen? ⟨nb,j*12+10,be⟩=false:=an nO _;have d11:V.cell? ⟨nb,j*12+11,be⟩=AI v11:=(ae nO _).trans c11;have z11:V.frozen? ⟨nb,j*12+11,be⟩=false:=an nO _;obtain⟨y0,y1,y2,y3,y4,y5,y6,y7,y8,y9,y10,y11⟩:=bu uZ;have Va:nb≠w.heap.size:=by omega
 have Cz:(j:Int)<(n:Int):=by omega
 have PN:(0:Int)<=(j:Int):=by omega
 have hjt:((j:Int)).toNat=j:=by omega
 obtain⟨W5,iV⟩:∃W5,W5=JB (aD nb [Y u0,Y u1,J b2 m2 e2,J b3 m3 e3,J b4 m4 e4,J b5 m5 e5,U O u6,U O u7,U O u8,U O u9,U O u10,J b11 m11 e11] (j*12) V):=⟨_,rfl⟩;rw[<- hV,<- iV];clear NC uZ nO g0 g3 cO di aN hj c0 c1 c2 c3 c4 c5 c6 c7 c8 c9 c10 c11;simp only[aD,Nat.add_assoc,Nat.reduceAdd] at iV;go_enter Tryz.func84,Tryz.ntmps84;go_upto_region 1 with fail
 rw[<- hV];clear hV;go_wp2_with fail;go_region_held3 (λw'=>w'.cell? ⟨g,0,be⟩=AI (J (AI ⟨nb,0,be⟩) n n)/\w'.cell? ⟨g,3,be⟩=AI (U O (j:Int))/\w'.cell? ⟨w.heap.size,0,be⟩=AI (Y u0)/\w'.cell? ⟨w.heap.size,1,be⟩=AI (Y u1)/\w'.cell? ⟨w.heap.size,2,be⟩=AI (J b2 m2 e2)/\w'.cell? ⟨w.heap.size,3,be⟩=AI (J b3 m3 e3)/\w'.cell? ⟨w.heap.size,4,be⟩=AI (J b4 m4 e4)/\w'.cell? ⟨w.heap.size,5,be⟩=AI (J b5 m5 e5)/\w'.cell? ⟨w.heap.size,6,be⟩=AI (U O u6)/\w'.cell? ⟨w.heap.size,7,be⟩=AI (U O u7)/\w'.cell? ⟨w.heap.size,8,be⟩=AI (U O u8)/\w'.cell? ⟨w.heap.size,9,be⟩=AI (U O u9)/\w'.cell? ⟨w.heap.size,10,be⟩=AI (U O u10)/\w'.cell? ⟨w.heap.size,11,be⟩=AI (J b11 m11 e11)) (simp only[World.cell?_setCell_far,World.cell?_drew,ne_eq,Md,Va,not_false_eq_true,a0,a3,y0,y1,y2,y3,y4,y5,y6,y7,y8,y9,y10,y11,and_self]) (fail)
 go_wp2_with fail;rw[<- iV];go_ret;exact⟨rfl,rfl⟩
theorem Ck(C g nb j:Nat)(ul:Value)(ls:List Lt.fg)(v:Ev)(L:List Nx)(y:Nx)(w:World)(h:ky C w g (J (AI ⟨nb,0,be⟩) L.length L.length) ul ls v)(hN:cG C w nb L)(hC:C<=w.heap.size)(hv:v.which=(j:Int))(hj:j<L.length)(ho:cJ C w y.n y.vm y.vr y.vs y.vg y.vw)(hk:iq y.n) :
 Calls AS 84 #[.pointer (AI ⟨g,0,be⟩),Ik (dw y.n y.vm y.vr y.vs y.vg y.vw),U O 0] w λe w'=>e=AT (U O 0)/\Below C w w'/\cG C w' nb (L.set j y)/\ky C w' g (J (AI ⟨nb,0,be⟩) L.length L.length) ul ls v/\∀q,q≠nb->q<w.heap.size->w'.heap[q]?=w.heap[q]?:=by
 have dF:w.cell? ⟨g,0,be⟩=AI (J (AI ⟨nb,0,be⟩) L.length L.length):=ae h.hg 0;have lh:w.cell? ⟨g,3,be⟩=AI (U O (j:Int)):=by rw[<- hv];exact ae h.hg 3
 have Md:nb≠g:=λe=>by
  have h1:=hN.row;rw[e,h.hg] at h1;simp at h1
 have hc:=λi hi=>lR L j hj i hi;have bZ:∀i,i<12->∃u,(iS L).toArray[j*12+i]?=AI u:=λi hi=>by
  refine⟨(L.getD j bW).cs[i]'(by rw[jv];exact hi),?_⟩;rw[List.getElem?_toArray,hc i hi,Ie]
 obtain⟨v0,c0⟩:=bZ 0 (by omega);obtain⟨v1,c1⟩:=bZ 1 (by omega);obtain⟨v2,c2⟩:=bZ 2 (by omega);obtain⟨v3,c3⟩:=bZ 3 (by omega);obtain⟨v4,c4⟩:=bZ 4 (by omega);obtain⟨v5,c5⟩:=bZ 5 (by omega);obtain⟨v6,c6⟩:=bZ 6 (by omega);obtain⟨v7,c7⟩:=bZ 7 (by omega);obtain⟨v8,c8⟩:=bZ 8 (by omega);obtain⟨v9,c9⟩:=bZ 9 (by omega);obtain⟨v10,c10⟩:=bZ 10 (by omega);obtain⟨v11,c11⟩:=bZ 11 (by omega);have hb:Below w.heap.size w (w.alloc (By (dw y.n y.vm y.vr y.vs y.vg y.vw) 42)):=(Below.refl _ _).alloc (Nat.le_refl _) _;have et:∀q,q≠nb->(JB (aD nb y.cs (j*12) (w.alloc (By (dw y.n y.vm y.vr y.vs y.vg y.vw) 42)))).heap[q]?=(w.alloc (By (dw y.n y.vm y.vr y.vs y.vg y.vw) 42)).heap[q]?:=λq hq=>by rw[dA];exact aV hq _ _ _
 have HF:Below C w (JB (aD nb y.cs (j*12) (w.alloc (By (dw y.n y.vm y.vr y.vs y.vg y.vw) 42))))/\cG C (JB (aD nb y.cs (j*12) (w.alloc (By (dw y.n y.vm y.vr y.vs y.vg y.vw) 42)))) nb (L.set j y)/\ky C (JB (aD nb y.cs (j*12) (w.alloc (By (dw y.n y.vm y.vr y.vs y.vg y.vw) 42)))) g (J (AI ⟨nb,0,be⟩) L.length L.length) ul ls v/\∀q,q≠nb->q<w.heap.size->(JB (aD nb y.cs (j*12) (w.alloc (By (dw y.n y.vm y.vr y.vs y.vg y.vw) 42)))).heap[q]?=w.heap[q]? :=
  ⟨cA (aP hN.le _ _ (hb.mono hC)),hN.turn hb hC hj (ho.below hb) hk,(h.below hb).row (hN.below hb hC).row et,λq hq hl=>(et q hq).trans (hb.block q hl)⟩
 obtain⟨⟨nm,ct,ms,rs,sv,gw,⟨px,py,pz,ph,pq⟩,wh⟩,vm,vr,vs,vg,vw⟩:=y;obtain⟨a2,x2,h2⟩:=aJ ho.ms;obtain⟨a3,x3,h3⟩:=aJ ho.rs;obtain⟨a4,x4,h4⟩:=aJ ho.sv;obtain⟨a5,x5,h5⟩:=aJ ho.gw;obtain⟨a11,x11,h11⟩:=aJ ho.wh;simp only at h2 h3 h4 h5 h11;subst h2 h3 h4 h5 h11;refine(FB g nb L.length j (iS L).toArray v0 v1 v2 v3 v4 v5 v6 v7 v8 v9 v10 v11 _ _ _ _ _ _ _ _ _ _ _ _ _ _ _ _ _ _ _ _ _ _ w hj dF lh hN.row Md c0 c1 c2 c3 c4 c5 c6 c7 c8 c9 c10 c11).mono ?_;rintro e w' ⟨rfl,rfl⟩;exact⟨rfl,HF⟩
theorem tZ{L:List Nx}{ns:List Nd}(hm:L.map (·.n)=ns){j:Nat}(hj:j<L.length):(L.getD j bW).n=ns.getD j ek:=by
 rw[<- hm,Iq,Iq,List.getElem?_map,Ie hj];rfl
theorem lU{k n:Nat}(h:k<n):within (k:Int) 0 ((n:Int)-1)=true:=by
 unfold within;simp;omega
def pW(nm:ByteArray)(l:List Mem):Pk:=⟨nm,false,l,[],[],[]⟩
def afn(C:Nat)(n:Nd)(l:List Mem)(V:World)(xs:List Value)(q:Value):Prop:=(∃y:Nx,xs=y.cs/\y.n=n/\cJ C V y.n y.vm y.vr y.vs y.vg y.vw/\iq y.n)/\Own C V q l
theorem xQ{n n':Nd}(he:n.e=0)(h1:n'.name=n.name)(h2:n'.aC=n.aC)(h3:n'.ms=n.ms)(h4:dV n'.rs=0)(ha:∀r∈n'.rs,fM n.ms r=false)(h5:Sv.bj n'.sv=0)(h6:Gw.bj n'.gw=0)(h7:dZ n'.p=0)(h8:Wh.bj n'.wh=0):n'.e=0:=by
 have hp:=Nd.parts (Nd.bc he).1;obtain⟨m,m1,m2,m3,_⟩:=Nd.pK (Nd.bc he).2;exact Nd.SE (Nd.mL.pe ⟨by rw[h1];exact hp.name,by rw[h2];exact hp.aC,by rw[h3];exact hp.ms,h4,h5,h6,h7,h8⟩) (Nd.Da (by rw[h3,h1];exact m1) m2 m3 (λr hr=>by rw[h3];exact ha r hr))
theorem aab{n:Nd}(he:n.e=0):dV n.rs=0/\∀r∈n.rs,fM n.ms r=false:=by
 obtain⟨m,_,_,_,m4⟩:=Nd.pK (Nd.bc he).2;exact⟨(Nd.parts (Nd.bc he).1).rs,m4⟩
theorem pX{a b:Nd}(ha:a.e=0)(h:b.ms=a.ms)(hs:T5 Sv.ord Sv.bN Sv.dm a.sv b.sv)(hg:T5 Gw.ord Gw.bN Gw.dm a.gw b.gw):fA a b:=
 ⟨λm hm=>by rw[h];exact⟨m,tT (af (Nd.parts (Nd.bc ha).1).ms).2.1 hm,iz m⟩,hs,hg⟩
theorem aac{ms:List Sv.aW}(hr:Sv.bl ms){t x:Sv.aW}{p:Nat}{f:Bool}(cH:Sv.At ms t p f)(hx:x∈ms)(h:Sv.ord x t=0):f=true/\ms.getD p Sv.dm=x:=by
 obtain⟨k,hk,rfl⟩:=I3 hx;have e:=RL.oL Sv.dm hk;obtain⟨rfl,rfl⟩:=Sv.ed cH (RL.yj Sv.ord Sv.dm Sv.keyed hr hk (by rw[e];exact h));exact⟨rfl,e⟩
def Tu(ms:List Sv.aW)(nm:ByteArray)(d:Sv.aW):Prop:=d.node=nm/\∀x∈ms,Sv.ord x d=0->x.version<d.version
def xR(n n':Nd):Prop:=
 (∃t a b,within b 1 4=true/\ts n t a b=0/\n'=zj n t b)\/(Dp n=0/\n'=Gx n)\/(∃t p r,Cd n t p r=0/\n'=Gy n t p r) \/
 (∃d,Tu n.sv n.name d/\Sv.aE n.sv [d]=0/\n'={ n with sv:=Sv.av n.sv [d] })\/(∃d,Gw.aE n.gw [d]=0/\n'={ n with gw:=Gw.av n.gw [d] })
structure ow(n n':Nd):Prop where
 e:n'.e=0
 nm:n'.name=n.name
 le:fA n n'
theorem N3{wh:List Wh.bJ}{x:Wh.bJ}(h:Wh.bj wh=0)(hx:x.e=0)(hl:(Wh.aQ wh x).length<=20):Wh.bj (Wh.aQ wh x)=0:=by
 have hz:=Wh.af h;refine Wh.jR hl (Wh.iw wh x hz.2.1) (λm hm=>?_);rcases Wh.fH wh x m hm with h|h
 .rw[h];exact hx
 .exact Wh.bb _ hz.2.2 m h
theorem aad{t:ByteArray}{p:Pl}(h1:ba t=true)(h2:dZ p=0):(KY t p).e=0:=(if_pos h1).trans h2
theorem xS{n n':Nd}(he:n.e=0)(h:xR n n'):ow n n':=by
 have hp:=Nd.parts (Nd.bc he).1;obtain⟨lg,qU⟩:=aab he;have lS:=iT _ _ Sv.dm Sv.keyed Sv.iB (Sv.af hp.sv).2.1;have lG:=iT _ _ Gw.dm Gw.keyed Gw.iB (Gw.af hp.gw).2.1;rcases h with⟨t,a,b,hb,h0,rfl⟩|⟨h0,rfl⟩|⟨t,p,r,h0,rfl⟩|⟨d,_,h0,rfl⟩|⟨d,h0,rfl⟩
 .exact⟨(Dr he hb h0).1,(ju _ _).name,(Dr he hb h0).2⟩
 .exact⟨(Ds he h0).1,(ju _ _).name,(Ds he h0).2⟩
 .have h1:ba t=true/\dZ p=0/\(Wh.aQ n.wh (KY t p)).length<=20:=by
   unfold Cd at h0;split at h0
   .split at h0
    .split at h0
     .cases h0
     .split at h0
      .rename_i a1 a2 _ _
       refine⟨a1,a2,?_⟩;unfold PM at h0;split at h0
       .cases h0
       .omega
      .cases h0
    .cases h0
   .cases h0
  exact⟨xQ he rfl rfl rfl lg qU hp.sv hp.gw ((nj _).2 (Tv _)) (N3 hp.wh (aad h1.1 h1.2.1) h1.2.2),rfl,pX he rfl lS lG⟩
 .have hk:=(Sv.jQ h0)
  exact⟨xQ he rfl rfl rfl lg qU (Sv.mJ h0) hp.gw hp.p hp.wh,rfl,pX he rfl (pQ _ _ _ Sv.keyed Sv.iB (Sv.af hp.sv).2.1 (Sv.af hk.2.1).2.1) lG⟩
 .have hk:=(Gw.jQ h0)
  exact⟨xQ he rfl rfl rfl lg qU hp.sv (Gw.mJ h0) hp.p hp.wh,rfl,pX he rfl lS (pQ _ _ _ Gw.keyed Gw.iB (Gw.af hp.gw).2.1 (Gw.af hk.2.1).2.1)⟩
theorem zP(l:List bK)(i:Nat):gS (eM l i)=gS l:=by
 unfold gS eM;rw[List.map_set];by_cases hi:i<l.length
 .have:(l.getD i dr).m=(l.map (·.m))[i]'(by simpa using hi):=by simp[Iq,Ie hi]
  show(l.map (·.m)).set i (l.getD i dr).m=_;rw[this,List.set_getElem_self]
 .rw[List.set_eq_of_length_le (by simpa using hi)]
theorem ua:∀(is:List Nat) (l:List bK),gS (is.foldl eM l)=gS l
 |[],_=>rfl
 |i::r,l=>by rw[List.foldl_cons,ua r,zP]
theorem wj:∀(is:List Nat) (l:List bK),(∀r∈l,0<=r.told)->∀r∈is.foldl eM l,0<=r.told
 |[],_,h,r,hr=>h r hr
 |i::is,l,h,r,hr=>by
  refine wj is (eM l i) (λx hx=>?_) r hr;rcases JS hx with h1|rfl
  .exact h x h1
  .show 0<=(l.getD i dr).told+1
   by_cases hi:i<l.length
   .have:=h (l.getD i dr) (by rw[Iq,Ie hi];exact IG hi)
    omega
   .rw[Iq,List.getElem?_eq_none (by omega)];decide
theorem cS{α:Type}{l:List α}{i:Nat}(h:i<l.length)(d:α):l.getD i d∈l:=by rw[Iq,Ie h];exact IG h
theorem rv{rs:List bK}:dI rs↔(gS rs).Pairwise (λa b=>a.name≠b.name):=by rw[mO,gS,List.pairwise_map]
theorem FC{rs:List bK}{times:Int}{told:List Mem}{rest:List bK}(h:qL rs times told rest)(h0:dV rs=0)(ht:times<=100):dV rest=0/\∀r∈rest,∃x∈rs,x.m=r.m:=by
 obtain⟨z1,z2,z3,z4⟩:=fG h0;rcases h with⟨rfl,_,rfl⟩|⟨_,ord,ho,_,rfl⟩
 .exact⟨h0,λr hr=>by cases hr⟩
 .have hm:=ua (ord.take (min 5 rs.length)) rs
  have Tw:(gS ((bump rs ord (min 5 rs.length)).filter (ei times))).Sublist (gS rs):=by
   rw[<- hm];exact List.Sublist.map _ List.filter_sublist
  have nK:∀r∈(bump rs ord (min 5 rs.length)).filter (ei times),∃x∈rs,x.m=r.m:=λr hr=>by
   have h1:=Tw.subset (List.mem_map_of_mem hr);obtain⟨x,hx,e⟩:=List.mem_map.1 h1;exact⟨x,hx,e⟩
  refine⟨xf ?_ (λj hj=>?_) (λj hj=>?_) (rv.2 ((rv.1 z4).sublist Tw)),nK⟩
  .have:=Tw.length_le
   rw[kL,kL] at this;omega
  .obtain⟨x,hx,e⟩:=nK _ (cS hj dr)
   rw[<- e];obtain⟨k,hk,rfl⟩:=I3 hx;have:=z2 k hk
   rwa [Iq,Ie hk] at this
  .have hr:=List.mem_filter.1 (cS hj dr)
   have h1:=wj (ord.take (min 5 rs.length)) rs (λr hr=>by
    obtain⟨k,hk,rfl⟩:=I3 hr;have:=z3 k hk;rw[Iq,Ie hk] at this;exact(Q2.1 this).1) _ hr.1
   have h2:=of_decide_eq_true hr.2;exact Q2.2 ⟨h1,by omega⟩
theorem aae{n:Nd}(h:bj n.ms=0):T2 n<=100:=by
 have aN:∀m,m<21->Lib.bitLen m<=5:=by decide
 have h1:=aN (eC n.ms).length (by have:=zN (af h).1;omega);unfold T2;omega
theorem FD{n:Nd}{l:List Mem}{rest:List bK}(he:n.e=0)(h:jT n l rest):ow n { n with rs:=rest }/\(pW n.name l).e=0:=by
 have hp:=Nd.parts (Nd.bc he).1;obtain⟨lg,qU⟩:=aab he;obtain⟨z1,z2,z3,z4⟩:=fG lg;obtain⟨told,ht,hpm,_⟩:=h;obtain⟨t1,t2⟩:=FC ht lg (aae hp.ms);have lS:=iT _ _ Sv.dm Sv.keyed Sv.iB (Sv.af hp.sv).2.1;have lG:=iT _ _ Gw.dm Gw.keyed Gw.iB (Gw.af hp.gw).2.1;have hl5:l.length<=5:=by rw[hpm.length_eq];exact tN ht
 have hle:∀m∈l,m.e=0:=λm hm=>by
  have h1:=hpm.mem_iff.1 hm;rcases ht with⟨_,rfl,_⟩|⟨_,ord,ho,rfl,_⟩
  .cases h1
  .obtain⟨r,hr,rfl⟩:=vV ho h1
   obtain⟨k,hk,rfl⟩:=I3 hr;have:=z2 k hk
   rwa [Iq,Ie hk] at this
 have so:mq l:=by
  have h1:=(hpm.pairwise_iff (λh e=>h e.symm)).2 (xC ht z4);intro i j jG hj;have:=List.pairwise_iff_getElem.1 h1 i j (by omega) hj jG
  rwa [Iq,Iq,Ie hj,Ie (by omega:i<l.length)]
 refine⟨⟨xQ he rfl rfl rfl t1 (λr hr=>?_) hp.sv hp.gw hp.p hp.wh,rfl,pX he rfl lS lG⟩,?_⟩
 .obtain⟨x,hx,e⟩:=t2 r hr
  have:=qU x hx;unfold fM at this ⊢;rw[<- e];exact this
 .have h1:(pW n.name l).mE=0:=by
   show(if(false:Bool)=true then bj l else lx l)=0;rw[if_neg (by simp)];exact CC hl5 (λ_ hj=>hle _ (cS hj dm)) so
  unfold Pk.e;rw[if_pos (by show(ba n.name&&(false||Pk.alone (pW n.name l)))=true;rw[hp.name];rfl),if_pos h1];rfl
theorem N4{n:Nd}(he:n.e=0):(eu n).e=0:=by
 have hp:=Nd.parts (Nd.bc he).1;have h1:(eu n).mE=0:=hp.ms;unfold Pk.e;rw[if_pos (by show(ba n.name&&(true||_))=true;rw[hp.name];rfl),if_pos h1,if_pos (show Sv.bj (eu n).sv=0 from hp.sv),if_pos (show Gw.bj (eu n).gw=0 from hp.gw)];exact hp.wh
theorem FE{p:Pk}(h:p.e=0):BM p.T.data.toList=AI p:=by
 have:p.T.data.toList=p.B:=by unfold Pk.T;rw[if_pos h]
 rw[this];exact kT.2 ⟨rfl,h⟩
theorem zQ{p:Pk}(h:p.e=0):p.T.size<=16777216:=by
 have hw:=nX h;have e:p.T.size=p.L.length:=by
  rw[p.Vv];unfold Pk.T;rw[if_pos h];simp[Lib.byteCells,ByteArray.size]
 have h1:=dK p.ms hw.ms.2;have h2:=Sv.dK p.sv hw.sv.2;have h3:=Gw.dK p.gw hw.gw.2;have h4:=Wh.dK p.wh hw.wh.2;have b1:=hw.ms.1;have b2:=hw.sv.1;have b3:=hw.gw.1;have b4:=hw.wh.1;have b5:=hw.cT;have n1:=dG (cU (n:=p.ms.length) (by omega));have n2:=dG (cU (n:=p.sv.length) (by omega));have n3:=dG (cU (n:=p.gw.length) (by omega));have n4:=dG (cU (n:=p.wh.length) (by omega));have t1:=dH (s:=p.cT) (by omega);have f1:=iN p.whole;rw[e];unfold Pk.L;simp only[Ih];omega
def Rw(t t':Nt):Prop:=
 (∃j n',j<t.ns.length/\xR (t.ns.getD j ek) n'/\t'=⟨t.ns.set j n',t.ls⟩) \/
 (∃j k l rest,j<t.ns.length/\k<t.ns.length/\t.ls.length<20/\jT (t.ns.getD j ek) l rest/\t'=⟨t.ns.set j { t.ns.getD j ek with rs:=rest },t.ls++[⟨((k:Nat):Int),(pW (t.ns.getD j ek).name l).T⟩]⟩) \/
 (∃j k,j<t.ns.length/\k<t.ns.length/\t.ls.length<20/\t'=⟨t.ns,t.ls++[⟨((k:Nat):Int),(eu (t.ns.getD j ek)).T⟩]⟩) \/
 (∃j k p,j<t.ls.length/\k<t.ns.length/\BM (t.ls.getD j Lt.dm).text.data.toList=AI p/\pJ (t.ns.getD k ek) p=0/\t'=⟨t.ns.set k (rJ (t.ns.getD k ek) p),t.ls.eraseIdx j⟩) \/
 (∃j,t'=⟨t.ns,t.ls.eraseIdx j⟩)\/(∃j,j<t.ls.length/\t.ls.length<20/\t'=⟨t.ns,t.ls++[t.ls.getD j Lt.dm]⟩)
structure eU(t:Nt):Prop where
 e:t.e=0
 sh:∀l∈t.ls,l.text.size<=16777216
theorem eU.short{t:Nt}(h:eU t):t.Di:=λ_=>h.sh
theorem zS{t:Nt}(h1:t.ns.length<=6)(h2:t.ls.length<=20)(h3:∀n∈t.ns,n.e=0)(h4:iE t.ns)(h5:∀l∈t.ls,uW t.ns.length l=0/\l.text.size<=16777216):eU t:=by
 refine⟨?_,λl hl=>(h5 l hl).2⟩;rw[Nt.qK (by omega) (Dg (λj hj=>h3 _ (cS hj ek)) h4)];exact nu _ Lt.dm _ (λj hj=>(h5 _ (cS hj Lt.dm)).1)
theorem zT{α:Type}(l:List α)(j i:Nat)(x d:α)(hj:j<l.length):(l.set j x).getD i d=if i=j then x else l.getD i d:=by
 by_cases h:i=j
 .subst h;rw[if_pos rfl,Iq,List.getElem?_set_self hj];rfl
 .rw[if_neg h,Iq,List.getElem?_set_ne (Ne.symm h),Iq]
theorem FF{ns:List Nd}{j:Nat}{n':Nd}(h:iE ns)(hj:j<ns.length)(hn:n'.name=(ns.getD j ek).name):iE (ns.set j n'):=by
 have e:∀i,((ns.set j n').getD i ek).name=(ns.getD i ek).name:=λi=>by
  rw[zT _ _ _ _ _ hj];split
  .rename_i h;rw[h];exact hn
  .rfl
 intro a b D0 hb;rw[e,e];exact h a b D0 (by rwa [IT] at hb)
structure FG(t t':Nt):Prop where
 right:eU t'
 len:t'.ns.length=t.ns.length
 le:∀i,i<t.ns.length->fA (t.ns.getD i ek) (t'.ns.getD i ek)/\(t'.ns.getD i ek).name=(t.ns.getD i ek).name
theorem Dz{n:Nd}(he:n.e=0):fA n n:=
 have hp:=Nd.parts (Nd.bc he).1
 pX he rfl (iT _ _ Sv.dm Sv.keyed Sv.iB (Sv.af hp.sv).2.1) (iT _ _ Gw.dm Gw.keyed Gw.iB (Gw.af hp.gw).2.1)
theorem ub{t:Nt}(h:eU t){j:Nat}(hj:j<t.ns.length){n':Nd}(hf:ow (t.ns.getD j ek) n'){ls:List Lt.fg}(hl:ls.length<=20)(h5:∀l∈ls,l∈t.ls\/(uW t.ns.length l=0/\l.text.size<=16777216)):FG t ⟨t.ns.set j n',ls⟩:=by
 obtain⟨z1,z2,z3,z4,z5⟩:=Nt.bc h.e;refine⟨zS (by show(t.ns.set j n').length<=6;rw[IT];exact z1) hl (λn hn=>?_) (FF z4 hj hf.nm) (λl hl=>?_),IT,λi hi=>?_⟩
 .rcases JS hn with h1|rfl
  .exact z3 n h1
  .exact hf.e
 .show uW (t.ns.set j n').length l=0/\_
  rw[IT];rcases h5 l hl with h1|h1
  .exact⟨z5 l h1,h.sh l h1⟩
  .exact h1
 .show fA _ ((t.ns.set j n').getD i ek)/\((t.ns.set j n').getD i ek).name=_
  rw[zT _ _ _ _ _ hj];split
  .rename_i e;subst e;exact⟨hf.le,hf.nm⟩
  .exact⟨Dz (z3 _ (cS hi ek)),rfl⟩
theorem qR{t:Nt}(h:eU t){ls:List Lt.fg}(hl:ls.length<=20)(h5:∀l∈ls,l∈t.ls\/(uW t.ns.length l=0/\l.text.size<=16777216)):FG t ⟨t.ns,ls⟩:=by
 obtain⟨z1,z2,z3,z4,z5⟩:=Nt.bc h.e;refine⟨zS z1 hl z3 z4 (λl hl=>?_),rfl,λi hi=>⟨Dz (z3 _ (cS hi ek)),rfl⟩⟩;rcases h5 l hl with h1|h1
 .exact⟨z5 l h1,h.sh l h1⟩
 .exact h1
theorem wo{p:Pk}(h:p.e=0){k n:Nat}(hk:k<n):uW n ⟨((k:Nat):Int),p.T⟩=0/\(⟨((k:Nat):Int),p.T⟩:Lt.fg).text.size<=16777216:=by
 refine⟨?_,zQ h⟩;unfold uW;simp only[FE h,lU hk];rfl
theorem Lh{t t':Nt}(h:eU t)(hk:∀n∈t.ns,iq n)(hn:Rw t t'):FG t t':=by
 obtain⟨z1,z2,z3,z4,z5⟩:=Nt.bc h.e;have so:∀(ls:List Lt.fg) (x:Lt.fg),uW t.ns.length x=0/\x.text.size<=16777216->∀l∈t.ls++[x],l∈t.ls\/(uW t.ns.length l=0/\l.text.size<=16777216):=λ_ x hx l hl=>by
  rcases List.mem_append.1 hl with h1|h1
  .exact .inl h1
  .rw[List.mem_singleton.1 h1];exact .inr hx
 rcases hn with⟨j,n',hj,hb,rfl⟩|⟨j,k,l,rest,hj,gK,h20,ht,rfl⟩|⟨j,k,hj,gK,h20,rfl⟩|⟨j,k,p,hj,gK,Tx,hh,rfl⟩|⟨j,rfl⟩|⟨j,hj,h20,rfl⟩
 .exact ub h hj (xS (z3 _ (cS hj ek)) hb) z2 (λl hl=>.inl hl)
 .have hf:=FD (z3 _ (cS hj ek)) ht
  exact ub h hj hf.1 (by rw[Ih];simp;omega) (so t.ls _ (wo hf.2 gK))
 .exact qR h (by rw[Ih];simp;omega) (so t.ls _ (wo (N4 (z3 _ (cS hj ek))) gK))
 .have he:=z3 _ (cS gK ek)
  have hw:=nX (kT.1 Tx).2;refine ub h gK ⟨WJ he (hk _ (cS gK ek)).wh (λm hm=>?_) hh,(xk _ _).name,xG he hh⟩ (Nat.le_trans (List.length_eraseIdx_le ..) z2) (λl hl=>.inl (Qb hl));have:=(hw.wh.2 m hm).1;show _<=maxLen;unfold maxLen;omega
 .exact qR h (Nat.le_trans (List.length_eraseIdx_le ..) z2) (λl hl=>.inl (Qb hl))
 .exact qR h (by rw[Ih];simp;omega) (so t.ls _ ⟨z5 _ (cS hj Lt.dm),h.sh _ (cS hj Lt.dm)⟩)
theorem zy.at{w:World}{a:Option Addr}{n c:Nat}{ns:List Nd}(h:zy w (J a n c) ns){i:Nat}(hi:i<ns.length):∃b off,a=AI ⟨b,off,be⟩/\∃A,fO w (ns.getD i ek) A/\∀j,j<12->w.cell? ⟨b,off+i*12+j,be⟩=A[j]?:=by
 obtain⟨p,c',e,h⟩:=h;rcases h with rfl|⟨b,off,rfl,_,hr⟩
 .simp at hi
 .obtain⟨vm,vr,vs,vg,vw,h1,h2⟩:=hr i hi
  simp only[Value.slice.injEq] at e;exact⟨b,off,e.1,_,⟨vm,vr,vs,vg,vw,rfl,h1⟩,h2⟩
theorem zy.len{w:World}{a:Option Addr}{n c:Nat}{ns:List Nd}(h:zy w (J a n c) ns):n=ns.length:=by
 obtain⟨p,c',e,_⟩:=h;simp only[Value.slice.injEq] at e;exact e.2.1
theorem zU{n:Nd}(he:n.e=0):n.Small:=by
 have h:=Nd.parts (Nd.bc he).1;have l1:=(af h.ms).1;have l2:=(ki h.rs).1;have l3:=(Sv.af h.sv).1;have l4:=(Gw.af h.gw).1;have l5:=(Wh.af h.wh).1;exact⟨by omega,by omega,by omega,by omega,by omega⟩
theorem Li{a b:Nd}{A B:Array Value}{w:World}(ha:fO w a A)(hb:fO w b B)(LV:fA a b)(ea:a.e=0)(eb:b.e=0):Calls AS 12 #[Ik A,Ik B] w λe w'=>e=AT (Ia false)/\Below w.heap.size w w':=
 Fq a b A B w ha hb LV (zU ea) (zU eb) (Nd.parts (Nd.bc eb).1)
theorem Lj(t t':Nt)(a1 d1 a2 d2:Option Addr)(m1 c1 l1 q1 m2 c2 l2 q2:Nat)(w:World)(hV:Rv w.heap.size w)(h1:fU w t (J a1 m1 c1) (J d1 l1 q1))(h2:fU w t' (J a2 m2 c2) (J d2 l2 q2))(hr:eU t)(hg:FG t t') :
 Calls AS 10 #[Ik #[J a1 m1 c1,J d1 l1 q1],Ik #[J a2 m2 c2,J d2 l2 q2]] w λe w'=>e=AT (Ia true)/\Below w.heap.size w w':=by
 obtain⟨n,hn⟩:∃n,n=t.ns.length:=⟨_,rfl⟩;have e1:n=m1:=by rw[hn];exact h1.ns.len.symm
 have e2:n=m2:=by rw[hn,<- hg.len];exact h2.ns.len.symm
 subst e1 e2;have hz:=Nt.bc hr.e;have Mh:=Nt.bc hg.right.e;have BQ:n<=6:=by rw[hn];exact hz.1
 have mr:Hid (∀W,Below w.heap.size w W->Calls AS 11 #[Ik #[J a2 n c2,J d2 l2 q2]] W λe w'=>e=AT (U O 0)/\Below W.heap.size W w'):=λW hW=>by
  have hc:=lQ t' _ _ W (hV.after hW) (h2.below hW) hg.right.short (Nt.Ws hg.right.e);rw[hg.right.e] at hc;exact hc
 have fb:Hid (∀k,k<n->∃b1 o1 b2 o2 A B,a1=AI ⟨b1,o1,be⟩/\a2=AI ⟨b2,o2,be⟩/\fO w (t.ns.getD k ek) A/\fO w (t'.ns.getD k ek) B/\A[0]?=AI (Y (t.ns.getD k ek).name)/\B[0]?=AI (Y (t.ns.getD k ek).name)/\(∀W,Below w.heap.size w W->(∀j,j<12->W.cell? ⟨b1,o1+k*12+j,be⟩=A[j]?)/\(∀j,j<12->W.cell? ⟨b2,o2+k*12+j,be⟩=B[j]?))/\∀W,Below w.heap.size w W->Calls AS 12 #[Ik A,Ik B] W λe w'=>e=AT (Ia false)/\Below W.heap.size W w'):=λk hk=>by
  obtain⟨b1,o1,e1,A,hA,hc1⟩:=h1.ns.at (i:=k) (by omega);obtain⟨b2,o2,e2,B,hB,AA⟩:=h2.ns.at (i:=k) (by have:=hg.len;omega);have hle:=hg.le k (by omega);have nA:A[0]?=AI (Y (t.ns.getD k ek).name):=by obtain⟨_,_,_,_,_,rfl,_⟩:=hA;rfl
  have nB:B[0]?=AI (Y (t.ns.getD k ek).name):=by obtain⟨_,_,_,_,_,rfl,_⟩:=hB;rw[<- hle.2];rfl
  have sA:A.size=12:=by obtain⟨_,_,_,_,_,rfl,_⟩:=hA;rfl
  have sB:B.size=12:=by obtain⟨_,_,_,_,_,rfl,_⟩:=hB;rfl
  have aN:∀(C:Array Value) (b o:Nat),C.size=12->(∀j,j<12->w.cell? ⟨b,o+j,be⟩=C[j]?)->∀W,Below w.heap.size w W->∀j,j<12->W.cell? ⟨b,o+j,be⟩=C[j]?:=λC b o hs hc W hW j hj=>by
   have h0:=hc j hj;rw[Array.getElem?_eq_getElem (by omega)] at h0 ⊢;exact(hW.cell (Iy w _ h0)).trans h0
  exact⟨b1,o1,b2,o2,A,B,e1,e2,hA,hB,nA,nB,λW hW=>⟨aN A b1 _ sA hc1 W hW,aN B b2 _ sB AA W hW⟩,λW hW=>Li (hA.below hW) (hB.below hW) hle.1 (hz.2.2.1 _ (cS (by omega) ek)) (Mh.2.2.1 _ (cS (by have:=hg.len;omega) ek))⟩
 clear hV h1 h2 hr hg hz Mh;obtain⟨W0,bA⟩:∃W0,W0=(w.alloc (By #[J a1 n c1,J d1 l1 q1] 27)).alloc (By #[J a2 n c2,J d2 l2 q2] 27):=⟨_,rfl⟩;have HI:Hid (W0.heap[w.heap.size]?=AI (By #[J a1 n c1,J d1 l1 q1] 27 (0,0))/\W0.heap[w.heap.size+1]?=AI (By #[J a2 n c2,J d2 l2 q2] 27 (0,0))/\Below w.heap.size w W0):=by
  refine⟨?_,?_,by rw[bA];exact((Below.refl _ _).alloc (Nat.le_refl _) _).alloc (by simp) _⟩
  .rw[bA];exact(Lib.alloc_old _ _ _ (by simp)).trans (Ii w _)
  .rw[bA]
   have:=Ii (w.alloc (By #[J a1 n c1,J d1 l1 q1] 27)) (By #[J a2 n c2,J d2 l2 q2] 27);simpa using this
 have HK:Hid (∀V W,V.heap[w.heap.size]?=AI (By #[J a1 n c1,J d1 l1 q1] 27 (0,0))/\V.heap[w.heap.size+1]?=AI (By #[J a2 n c2,J d2 l2 q2] 27 (0,0))/\Below w.heap.size w V->Below V.heap.size V W->W.heap[w.heap.size]?=AI (By #[J a1 n c1,J d1 l1 q1] 27 (0,0))/\W.heap[w.heap.size+1]?=AI (By #[J a2 n c2,J d2 l2 q2] 27 (0,0))/\Below w.heap.size w W):=λV W hh hW=>⟨(hW.block _ (BY.1 hh.1).1).trans hh.1,(hW.block _ (BY.1 hh.2.1).1).trans hh.2.1,hh.2.2.trans (hW.mono hh.2.2.size)⟩;have y0:=ae HI.out.2.1 0;have y1:=ae HI.out.2.1 1;clear hn;go_enter Tryz.func10,Tryz.ntmps10;go_upto_region 1 with fail
 rw[<- bA];clear bA;go_wp2_with fail;refine(mr.out W0 HI.out.2.2).mono ?_;rintro e w1 ⟨rfl,aB⟩;have MX:=HK.out _ _ HI.out aB;have afp:Hid _:=MX;clear y0 y1 aB HI mr;have y0:=ae MX.2.1 0;have z0:=ae MX.1 0;clear MX;go_wp2_with fail;clear y0 z0;go_loopw [5] (λi wr=>∃k:Nat,k<=n/\i=U O k/\Hid (wr.heap[w.heap.size]?=AI (By #[J a1 n c1,J d1 l1 q1] 27 (0,0))/\wr.heap[w.heap.size+1]?=AI (By #[J a2 n c2,J d2 l2 q2] 27 (0,0))/\Below w.heap.size w wr)) (λi _=>n-(intOf i).toNat)
 case atStart=>exact⟨0,Nat.zero_le _,rfl,afp⟩
 case round=>
  obtain⟨k,hk,rfl,HR⟩:=hrel;have xn1:=ae HR.out.2.1 0;have xn0:=ae HR.out.1 0;by_cases aR:k<n
  .have hd:=decide_eq_true (by omega)
   have vq:(k:Int)<(n:Int):=by omega
   have jd:(0:Int)<=(k:Int):=by omega
   have jw:((k:Int)).toNat=k:=by omega
   obtain⟨b1,o1,b2,o2,A,B,e1,e2,hA,hB,nA,nB,hC,hO⟩:=fb.out k aR;subst e1 e2;obtain⟨Gz,NF,NG,AB,NH,NI,NJ,NK,NL,AD,NM,P6,Cg,P7,P8,P9,Ra,Rb,zI,xJ,xK,xL,rfl⟩:=hA.letters;obtain⟨Rc,NO,Ma,Du,KZ,NP,NQ,NR,Mb,Dv,K0,NT,Fs,Mc,Re,Rf,Rg,Rh,zJ,zK,zL,zM,rfl⟩:=hB.letters;simp only[P5] at nA nB hC hO;have dy:Gz=Rc:=by
    have h1:=Option.some.inj nA;have h2:=Option.some.inj nB;injection h1 with h1;injection h2 with h2;rw[h1,h2]
   subst dy;have rT:Hid _:=hC;have HOL:Hid _:=hO;have xa0:=(rT.out wr HR.out.2.2).1 0 (by omega);have xb0:=(rT.out wr HR.out.2.2).2 0 (by omega);have xa1:=(rT.out wr HR.out.2.2).1 1 (by omega);have xb1:=(rT.out wr HR.out.2.2).2 1 (by omega);have xa2:=(rT.out wr HR.out.2.2).1 2 (by omega);have xb2:=(rT.out wr HR.out.2.2).2 2 (by omega);have xa3:=(rT.out wr HR.out.2.2).1 3 (by omega);have xb3:=(rT.out wr HR.out.2.2).2 3 (by omega);have xa4:=(rT.out wr HR.out.2.2).1 4 (by omega);have xb4:=(rT.out wr HR.out.2.2).2 4 (by omega);have xa5:=(rT.out wr HR.out.2.2).1 5 (by omega);have xb5:=(rT.out wr HR.out.2.2).2 5 (by omega);have xa6:=(rT.out wr HR.out.2.2).1 6 (by omega);have xb6:=(rT.out wr HR.out.2.2).2 6 (by omega);have xa7:=(rT.out wr HR.out.2.2).1 7 (by omega);have xb7:=(rT.out wr HR.out.2.2).2 7 (by omega);have xa8:=(rT.out wr HR.out.2.2).1 8 (by omega);have xb8:=(rT.out wr HR.out.2.2).2 8 (by omega);have xa9:=(rT.out wr HR.out.2.2).1 9 (by omega);have xb9:=(rT.out wr HR.out.2.2).2 9 (by omega);have aaf:=(rT.out wr HR.out.2.2).1 10 (by omega);have aag:=(rT.out wr HR.out.2.2).2 10 (by omega);have aah:=(rT.out wr HR.out.2.2).1 11 (by omega);have aai:=(rT.out wr HR.out.2.2).2 11 (by omega);have L5:Hid _:=aR;have jA:Hid _:=HR.out.2.2;clear hC hO hA hB nA nB aR fb rT;go_wp2_with fail;have Fn0:=Ig xn0;have Fn1:∀d os,(Ij (Iv wr d) os).cell? ⟨w.heap.size+1,0,be⟩=AI (J (AI ⟨b2,o2,be⟩) n c2):=Ig xn1;have Fa0:∀d os,(Ij (Iv wr d) os).cell? ⟨b1,o1+k*12,be⟩=AI (Y Gz):=Ig xa0;have Fa1:∀d os,(Ij (Iv wr d) os).cell? ⟨b1,o1+k*12+1,be⟩=AI (Y NF):=Ig xa1;have Fa2:∀d os,(Ij (Iv wr d) os).cell? ⟨b1,o1+k*12+2,be⟩=AI (J NG AB NH):=Ig xa2;have Fa3:∀d os,(Ij (Iv wr d) os).cell? ⟨b1,o1+k*12+3,be⟩=AI (J NI NJ NK):=Ig xa3;have Fa4:∀d os,(Ij (Iv wr d) os).cell? ⟨b1,o1+k*12+4,be⟩=AI (J NL AD NM):=Ig xa4;have Fa5:=Ig xa5;have Fa6:=Ig xa6;have Fa7:=Ig xa7;have Fa8:=Ig xa8;have Fa9:=Ig xa9;have afq:=Ig aaf;have afr:∀d os,(Ij (Iv wr d) os).cell? ⟨b1,o1+k*12+11,be⟩=AI (J xJ xK xL):=Ig aah;have Fb0:∀d os,(Ij (Iv wr d) os).cell? ⟨b2,o2+k*12,be⟩=AI (Y Gz):=Ig xb0;have Fb1:∀d os,(Ij (Iv wr d) os).cell? ⟨b2,o2+k*12+1,be⟩=AI (Y NO):=Ig xb1;have Fb2:∀d os,(Ij (Iv wr d) os).cell? ⟨b2,o2+k*12+2,be⟩=AI (J Ma Du KZ):=Ig xb2;have Fb3:∀d os,(Ij (Iv wr d) os).cell? ⟨b2,o2+k*12+3,be⟩=AI (J NP NQ NR):=Ig xb3;have Fb4:∀d os,(Ij (Iv wr d) os).cell? ⟨b2,o2+k*12+4,be⟩=AI (J Mb Dv K0):=Ig xb4;have Fb5:=Ig xb5;have Fb6:=Ig xb6;have Fb7:=Ig xb7;have Fb8:=Ig xb8;have Fb9:=Ig xb9;have afs:=Ig aag;have aft:=Ig aai;have C0:∀d os,Calls AS 12 #[Ik #[Y Gz,Y NF,J NG AB NH,J NI NJ NK,J NL AD NM,J P6 Cg P7,U O P8,U O P9,U O Ra,U O Rb,U O zI,J xJ xK xL],Ik #[Y Gz,Y NO,J Ma Du KZ,J NP NQ NR,J Mb Dv K0,J NT Fs Mc,U O Re,U O Rf,U O Rg,U O Rh,U O zJ,J zK zL zM]] (Ij (Iv wr d) os) λe fD=>e=AT (Ia false)/\∃p:Regrown,fD=Ij (Iv wr p.d) p.os:=λd os=>Calls.regrown_of (HOL.out _ (jA.out.trans ((J1 wr d os).mono jA.out.size)));refine wp_region_quiet_below (by kernel_rfl) (by kernel_rfl) ?_;repeat(quiet_step (exact C0 _ _))
   refine wpQuiet_nil ?_;intro _ zk;obtain⟨⟨dq,gT⟩,xj⟩:=zk;subst xj;have AZ:=HK.out _ _ HR.out (J1 wr dq gT);have afu:Hid _:=AZ;clear AZ C0 Fn0 Fn1 Fa0 Fa1 Fa2 Fa3 Fa4 Fa5 Fa6 Fa7 Fa8 Fa9 afq afr Fb0 Fb1 Fb2 Fb3 Fb4 Fb5 Fb6 Fb7 Fb8 Fb9 afs aft xn0 xn1 xa0 xa1 xa2 xa3 xa4 xa5 xa6 xa7 xa8 xa9 aaf aah xb0 xb1 xb2 xb3 xb4 xb5 xb6 xb7 xb8 xb9 aag aai HR HOL;go_wp2_with fail;go_roundw
   case rel=>exact⟨k+1,by have:=L5.out;omega,by go_num,afu⟩
   case measure=>simp[intOf];have:=L5.out;omega
  .have hd:=decide_eq_false (by omega)
   have jA:Hid _:=HR.out.2.2;clear HR fb;go_wp2_with fail;go_ret;exact⟨rfl,jA.out⟩
end Go.Proofs.YtfidhgjmifendaaGreatDoor
