import Derived.Test.YtfidhgjmifendaaGreatDoornt46
import Derived.Test.YtfidhgjmifendaaGreatDoornt47
set_option maxHeartbeats 51200000
set_option maxRecDepth 100000
open Go.Value renaming slice→J,int→U,string→Y,bool→Ia
open Go.IntKind renaming i64→O
open Go.Obj renaming cells→AT
open Option renaming none→be,some→AI
open Go.Ending renaming returned→By
open Go.Proofs.Tryz renaming prog→AS
open Go.World renaming drew→JC,block_lt_of_cell?→Ix
open Array renaming getElem?_eq_some_iff→BY
open List renaming getElem?_eq_getElem→If,getElem_of_mem→IU,getD→Ip,mem_or_eq_of_mem_set→JI,getElem_mem→IH,length_append→Ig,length_set→IS,mem_append→Jx,mem_singleton→Jb,mem_of_mem_eraseIdx→Oa
open Go.RowKit.Below renaming refl→Ib
open Nat renaming le_refl→Ic,le_trans→Iq,zero_le→II
open Bool renaming and_eq_true→IM
open Go renaming heap_alloc_new→Ih,below_drewN→I8,cell_regrown→Is,redrawn→Iz,below_regrown→QS
open Go.Sort renaming grow→Io
namespace Go.Proofs.YtfidhgjmifendaaGreatDoor
open Go.RowKit
theorem Fx(g nb n j:Nat)(R:Array Value)(v0 v1 v2 v3 v4 v5 v6 v7 v8 v9 v10 v11:Value)(u0 u1:ByteArray)(b2 b3 b4 b5 b11:Option Addr)(m2 e2 m3 e3 m4 e4 m5 e5 m11 e11:Nat)(u6 u7 u8 u9 u10:Int)(w:World)(hj:j<n)(g0:w.cell? ⟨g,0,be⟩=AI (J (AI ⟨nb,0,be⟩) n n))(g3:w.cell? ⟨g,3,be⟩=AI (U O (j:Int)))(cQ:w.heap[nb]?=AI (AT R 42 (0,0)))(LV:nb≠g)(c0:R[j*12]?=AI v0)(c1:R[j*12+1]?=AI v1)(c2:R[j*12+2]?=AI v2)(c3:R[j*12+3]?=AI v3)(c4:R[j*12+4]?=AI v4)(c5:R[j*12+5]?=AI v5)(c6:R[j*12+6]?=AI v6)(c7:R[j*12+7]?=AI v7)(c8:R[j*12+8]?=AI v8)(c9:R[j*12+9]?=AI v9)(c10:R[j*12+10]?=AI v10)(c11:R[j*12+11]?=AI v11) :
 Calls AS 84 #[.pointer (AI ⟨g,0,be⟩),.agg #[Y u0,Y u1,J b2 m2 e2,J b3 m3 e3,J b4 m4 e4,J b5 m5 e5,U O u6,U O u7,U O u8,U O u9,U O u10,J b11 m11 e11],U O 0] w λe w'=>e=By (U O 0)/\w'=JC (aC nb [Y u0,Y u1,J b2 m2 e2,J b3 m3 e3,J b4 m4 e4,J b5 m5 e5,U O u6,U O u7,U O u8,U O u9,U O u10,J b11 m11 e11] (j*12) (w.alloc (AT #[Y u0,Y u1,J b2 m2 e2,J b3 m3 e3,J b4 m4 e4,J b5 m5 e5,U O u6,U O u7,U O u8,U O u9,U O u10,J b11 m11 e11] 42))):=by
 have dn:=Ix w _ g0;have aN:=(BY.1 cQ).1;obtain⟨V,hV,Ni,-,vh⟩:=bW w #[Y u0,Y u1,J b2 m2 e2,J b3 m3 e3,J b4 m4 e4,J b5 m5 e5,U O u6,U O u7,U O u8,U O u9,U O u10,J b11 m11 e11] 42;have nU:=(Ni.block nb aN).trans cQ;have a0:=(Ni.cell (p:=⟨g,0,be⟩) dn).trans g0;have a3:=(Ni.cell (p:=⟨g,3,be⟩) dn).trans g3;have d0:=(ae nU _).trans c0;have z0:V.frozen? ⟨nb,j*12,be⟩=false:=an nU _;have d1:V.cell? ⟨nb,j*12+1,be⟩=AI v1:=(ae nU _).trans c1;have z1:V.frozen? ⟨nb,j*12+1,be⟩=false:=an nU _;have d2:V.cell? ⟨nb,j*12+2,be⟩=AI v2:=(ae nU _).trans c2;have z2:V.frozen? ⟨nb,j*12+2,be⟩=false:=an nU _;have d3:V.cell? ⟨nb,j*12+3,be⟩=AI v3:=(ae nU _).trans c3;have z3:V.frozen? ⟨nb,j*12+3,be⟩=false:=an nU _;have d4:V.cell? ⟨nb,j*12+4,be⟩=AI v4:=(ae nU _).trans c4;have z4:V.frozen? ⟨nb,j*12+4,be⟩=false:=an nU _;have d5:V.cell? ⟨nb,j*12+5,be⟩=AI v5:=(ae nU _).trans c5;have z5:V.frozen? ⟨nb,j*12+5,be⟩=false:=an nU _;have d6:V.cell? ⟨nb,j*12+6,be⟩=AI v6:=(ae nU _).trans c6;have z6:V.frozen? ⟨nb,j*12+6,be⟩=false:=an nU _;have d7:V.cell? ⟨nb,j*12+7,be⟩=AI v7:=(ae nU _).trans c7;have z7:V.frozen? ⟨nb,j*12+7,be⟩=false:=an nU _;have d8:V.cell? ⟨nb,j*12+8,be⟩=AI v8:=(ae nU _).trans c8;have z8:V.frozen? ⟨nb,j*12+8,be⟩=false:=an nU _;have d9:V.cell? ⟨nb,j*12+9,be⟩=AI v9:=(ae nU _).trans c9;have z9:V.frozen? ⟨nb,j*12+9,be⟩=false:=an nU _;have d10:V.cell? ⟨nb,j*12+10,be⟩=AI v10:=(ae nU _).trans c10;have z10:V.frozen? ⟨nb,j*12+10,be⟩=false:=an nU _;have d11:V.cell? ⟨nb,j*12+11,be⟩=AI v11:=(ae nU _).trans c11;have z11:V.frozen? ⟨nb,j*12+11,be⟩=false:=an nU _;obtain⟨y0,y1,y2,y3,y4,y5,y6,y7,y8,y9,y10,y11⟩:=bA vh;have T4:nb≠w.heap.size:=by omega
 have CB:(j:Int)<(n:Int):=by omega
 have ML:(0:Int)<=(j:Int):=by omega
 have hjt:((j:Int)).toNat=j:=by omega
 obtain⟨W5,iZ⟩:∃W5,W5=JC (aC nb [Y u0,Y u1,J b2 m2 e2,J b3 m3 e3,J b4 m4 e4,J b5 m5 e5,U O u6,U O u7,U O u8,U O u9,U O u10,J b11 m11 e11] (j*12) V):=⟨_,rfl⟩;rw[<- hV,<- iZ];clear Ni vh nU g0 g3 cQ dn aN hj c0 c1 c2 c3 c4 c5 c6 c7 c8 c9 c10 c11;simp only[aC,Nat.add_assoc,Nat.reduceAdd] at iZ;go_enter Tryz.func84,Tryz.ntmps84;go_upto_region 1 with fail
 rw[<- hV];clear hV;go_wp2_with fail;go_region_held3 (λw'=>w'.cell? ⟨g,0,be⟩=AI (J (AI ⟨nb,0,be⟩) n n)/\w'.cell? ⟨g,3,be⟩=AI (U O (j:Int))/\w'.cell? ⟨w.heap.size,0,be⟩=AI (Y u0)/\w'.cell? ⟨w.heap.size,1,be⟩=AI (Y u1)/\w'.cell? ⟨w.heap.size,2,be⟩=AI (J b2 m2 e2)/\w'.cell? ⟨w.heap.size,3,be⟩=AI (J b3 m3 e3)/\w'.cell? ⟨w.heap.size,4,be⟩=AI (J b4 m4 e4)/\w'.cell? ⟨w.heap.size,5,be⟩=AI (J b5 m5 e5)/\w'.cell? ⟨w.heap.size,6,be⟩=AI (U O u6)/\w'.cell? ⟨w.heap.size,7,be⟩=AI (U O u7)/\w'.cell? ⟨w.heap.size,8,be⟩=AI (U O u8)/\w'.cell? ⟨w.heap.size,9,be⟩=AI (U O u9)/\w'.cell? ⟨w.heap.size,10,be⟩=AI (U O u10)/\w'.cell? ⟨w.heap.size,11,be⟩=AI (J b11 m11 e11)) (simp only[World.cell?_setCell_far,World.cell?_drew,ne_eq,LV,T4,not_false_eq_true,a0,a3,y0,y1,y2,y3,y4,y5,y6,y7,y8,y9,y10,y11,and_self]) (fail)
 go_wp2_with fail;rw[<- iZ];go_ret;exact⟨rfl,rfl⟩
theorem Ch(C g nb j:Nat)(ul:Value)(ls:List Lt.fb)(v:Ev)(L:List Nx)(y:Nx)(w:World)(h:kA C w g (J (AI ⟨nb,0,be⟩) L.length L.length) ul ls v)(hN:cJ C w nb L)(hC:C<=w.heap.size)(hv:v.which=(j:Int))(hj:j<L.length)(ho:cL C w y.n y.vm y.vr y.vs y.vg y.vw)(hk:il y.n) :
 Calls AS 84 #[.pointer (AI ⟨g,0,be⟩),.agg (dt y.n y.vm y.vr y.vs y.vg y.vw),U O 0] w λe w'=>e=By (U O 0)/\Below C w w'/\cJ C w' nb (L.set j y)/\kA C w' g (J (AI ⟨nb,0,be⟩) L.length L.length) ul ls v/\∀q,q≠nb->q<w.heap.size->w'.heap[q]?=w.heap[q]?:=by
 have dG:w.cell? ⟨g,0,be⟩=AI (J (AI ⟨nb,0,be⟩) L.length L.length):=ae h.hg 0;have ji:w.cell? ⟨g,3,be⟩=AI (U O (j:Int)):=by rw[<- hv];exact ae h.hg 3
 have LV:nb≠g:=λe=>by
  have h1:=hN.row;rw[e,h.hg] at h1;simp at h1
 have hc:=λi hi=>lW L j hj i hi;have b9:∀i,i<12->∃u,(iW L).toArray[j*12+i]?=AI u:=λi hi=>by
  refine⟨(L.getD j bX).cs[i]'(by rw[jx];exact hi),?_⟩;rw[List.getElem?_toArray,hc i hi,If]
 obtain⟨v0,c0⟩:=b9 0 (by omega);obtain⟨v1,c1⟩:=b9 1 (by omega);obtain⟨v2,c2⟩:=b9 2 (by omega);obtain⟨v3,c3⟩:=b9 3 (by omega);obtain⟨v4,c4⟩:=b9 4 (by omega);obtain⟨v5,c5⟩:=b9 5 (by omega);obtain⟨v6,c6⟩:=b9 6 (by omega);obtain⟨v7,c7⟩:=b9 7 (by omega);obtain⟨v8,c8⟩:=b9 8 (by omega);obtain⟨v9,c9⟩:=b9 9 (by omega);obtain⟨v10,c10⟩:=b9 10 (by omega);obtain⟨v11,c11⟩:=b9 11 (by omega);have hb:Below w.heap.size w (w.alloc (AT (dt y.n y.vm y.vr y.vs y.vg y.vw) 42)):=(Ib _ _).alloc (Ic _) _;have eo:∀q,q≠nb->(JC (aC nb y.cs (j*12) (w.alloc (AT (dt y.n y.vm y.vr y.vs y.vg y.vw) 42)))).heap[q]?=(w.alloc (AT (dt y.n y.vm y.vr y.vs y.vg y.vw) 42)).heap[q]?:=λq hq=>by rw[dB];exact aX hq _ _ _
 have HF:Below C w (JC (aC nb y.cs (j*12) (w.alloc (AT (dt y.n y.vm y.vr y.vs y.vg y.vw) 42))))/\cJ C (JC (aC nb y.cs (j*12) (w.alloc (AT (dt y.n y.vm y.vr y.vs y.vg y.vw) 42)))) nb (L.set j y)/\kA C (JC (aC nb y.cs (j*12) (w.alloc (AT (dt y.n y.vm y.vr y.vs y.vg y.vw) 42)))) g (J (AI ⟨nb,0,be⟩) L.length L.length) ul ls v/\∀q,q≠nb->q<w.heap.size->(JC (aC nb y.cs (j*12) (w.alloc (AT (dt y.n y.vm y.vr y.vs y.vg y.vw) 42)))).heap[q]?=w.heap[q]? :=
  ⟨cD (aQ hN.le _ _ (hb.mono hC)),hN.turn hb hC hj (ho.below hb) hk,(h.below hb).row (hN.below hb hC).row eo,λq hq hl=>(eo q hq).trans (hb.block q hl)⟩
 obtain⟨⟨nm,ct,ms,rs,sv,gw,⟨px,py,pz,ph,pq⟩,wh⟩,vm,vr,vs,vg,vw⟩:=y;obtain⟨a2,x2,h2⟩:=aK ho.ms;obtain⟨a3,x3,h3⟩:=aK ho.rs;obtain⟨a4,x4,h4⟩:=aK ho.sv;obtain⟨a5,x5,h5⟩:=aK ho.gw;obtain⟨a11,x11,h11⟩:=aK ho.wh;simp only at h2 h3 h4 h5 h11;subst h2 h3 h4 h5 h11;refine(Fx g nb L.length j (iW L).toArray v0 v1 v2 v3 v4 v5 v6 v7 v8 v9 v10 v11 _ _ _ _ _ _ _ _ _ _ _ _ _ _ _ _ _ _ _ _ _ _ w hj dG ji hN.row LV c0 c1 c2 c3 c4 c5 c6 c7 c8 c9 c10 c11).mono ?_;rintro e w' ⟨rfl,rfl⟩;exact⟨rfl,HF⟩
def qb(nm:ByteArray)(l:List Mem):Pk:=⟨nm,false,l,[],[],[]⟩
def aeX(C:Nat)(n:Nd)(l:List Mem)(V:World)(xs:List Value)(q:Value):Prop:=(∃y:Nx,xs=y.cs/\y.n=n/\cL C V y.n y.vm y.vr y.vs y.vg y.vw/\il y.n)/\Own C V q l
theorem xZ{n n':Nd}(he:n.e=0)(h1:n'.name=n.name)(h2:n'.aD=n.aD)(h3:n'.ms=n.ms)(h4:dW n'.rs=0)(ha:∀r∈n'.rs,fk n.ms r=false)(h5:Sv.bj n'.sv=0)(h6:Gw.bj n'.gw=0)(h7:dZ n'.p=0)(h8:Wh.bj n'.wh=0):n'.e=0:=by
 have hp:=Nd.parts (Nd.aU he).1;obtain⟨m,m1,m2,m3,_⟩:=Nd.ko (Nd.aU he).2;exact Nd.Sq (Nd.nP.pe ⟨by rw[h1];exact hp.name,by rw[h2];exact hp.aD,by rw[h3];exact hp.ms,h4,h5,h6,h7,h8⟩) (Nd.Db (by rw[h3,h1];exact m1) m2 m3 (λr hr=>by rw[h3];exact ha r hr))
theorem Ti{n:Nd}(he:n.e=0):dW n.rs=0/\∀r∈n.rs,fk n.ms r=false:=by
 obtain⟨m,_,_,_,m4⟩:=Nd.ko (Nd.aU he).2;exact⟨(Nd.parts (Nd.aU he).1).rs,m4⟩
theorem qd{a b:Nd}(ha:a.e=0)(h:b.ms=a.ms)(hs:T0 Sv.ord Sv.bP Sv.dm a.sv b.sv)(hg:T0 Gw.ord Gw.bP Gw.dm a.gw b.gw):fP a b:=
 ⟨λm hm=>by rw[h];exact⟨m,pW (af (Nd.parts (Nd.aU ha).1).ms).2.1 hm,iy m⟩,hs,hg⟩
theorem K2{ms:List Sv.aT}(hr:Sv.bn ms){t x:Sv.aT}{p:Nat}{f:Bool}(cv:Sv.At ms t p f)(hx:x∈ms)(h:Sv.ord x t=0):f=true/\ms.getD p Sv.dm=x:=by
 obtain⟨k,hk,rfl⟩:=IU hx;have e:=RL.j9 Sv.dm hk;obtain⟨rfl,rfl⟩:=Sv.ey cv (RL.yB Sv.ord Sv.dm Sv.keyed hr hk (by rw[e];exact h));exact⟨rfl,e⟩
def Tj(ms:List Sv.aT)(nm:ByteArray)(d:Sv.aT):Prop:=d.node=nm/\∀x∈ms,Sv.ord x d=0->x.version<d.version
def yb(n n':Nd):Prop:=
 (∃t a b,within b 1 4=true/\sn n t a b=0/\n'=zA n t b)\/(Dq n=0/\n'=Gp n)\/(∃t p r,B8 n t p r=0/\n'=Gq n t p r) \/
 (∃d,Tj n.sv n.name d/\Sv.aE n.sv [d]=0/\n'={ n with sv:=Sv.av n.sv [d] })\/(∃d,Gw.aE n.gw [d]=0/\n'={ n with gw:=Gw.av n.gw [d] })
structure oB(n n':Nd):Prop where
 e:n'.e=0
 nm:n'.name=n.name
 le:fP n n'
theorem NQ{wh:List Wh.bE}{x:Wh.bE}(h:Wh.bj wh=0)(hx:x.e=0)(hl:(Wh.aP wh x).length<=20):Wh.bj (Wh.aP wh x)=0:=by
 have hz:=Wh.af h;refine Wh.jV hl (Wh.iv wh x hz.2.1) (λm hm=>?_);rcases Wh.ec wh x m hm with h|h
 .rw[h];exact hx
 .exact Wh.bc _ hz.2.2 m h
theorem XR{t:ByteArray}{p:Pl}(h1:bb t=true)(h2:dZ p=0):(KS t p).e=0:=(if_pos h1).trans h2
theorem yc{n n':Nd}(he:n.e=0)(h:yb n n'):oB n n':=by
 have hp:=Nd.parts (Nd.aU he).1;obtain⟨mj,rh⟩:=Ti he;have lS:=iX _ _ Sv.dm Sv.keyed Sv.iA (Sv.af hp.sv).2.1;have lG:=iX _ _ Gw.dm Gw.keyed Gw.iA (Gw.af hp.gw).2.1;rcases h with⟨t,a,b,hb,h0,rfl⟩|⟨h0,rfl⟩|⟨t,p,r,h0,rfl⟩|⟨d,_,h0,rfl⟩|⟨d,h0,rfl⟩
 .exact⟨(Ds he hb h0).1,(fT _ _).name,(Ds he hb h0).2⟩
 .exact⟨(Dt he h0).1,(fT _ _).name,(Dt he h0).2⟩
 .have h1:bb t=true/\dZ p=0/\(Wh.aP n.wh (KS t p)).length<=20:=by
   unfold B8 at h0;split at h0
   .split at h0
    .split at h0
     .cases h0
     .split at h0
      .rename_i a1 a2 _ _
       refine⟨a1,a2,?_⟩;unfold PE at h0;split at h0
       .cases h0
       .omega
      .cases h0
    .cases h0
   .cases h0
  exact⟨xZ he rfl rfl rfl mj rh hp.sv hp.gw ((nB _).2 (Tk _)) (NQ hp.wh (XR h1.1 h1.2.1) h1.2.2),rfl,qd he rfl lS lG⟩
 .have hk:=(Sv.jU h0)
  exact⟨xZ he rfl rfl rfl mj rh (Sv.mP h0) hp.gw hp.p hp.wh,rfl,qd he rfl (pV _ _ _ Sv.keyed Sv.iA (Sv.af hp.sv).2.1 (Sv.af hk.2.1).2.1) lG⟩
 .have hk:=(Gw.jU h0)
  exact⟨xZ he rfl rfl rfl mj rh hp.sv (Gw.mP h0) hp.p hp.wh,rfl,qd he rfl lS (pV _ _ _ Gw.keyed Gw.iA (Gw.af hp.gw).2.1 (Gw.af hk.2.1).2.1)⟩
theorem zT(l:List bL)(i:Nat):gR (eK l i)=gR l:=by
 unfold gR eK;rw[List.map_set];by_cases hi:i<l.length
 .have:(l.getD i dr).m=(l.map (·.m))[i]'(by simpa using hi):=by simp[Ip,If hi]
  show(l.map (·.m)).set i (l.getD i dr).m=_;rw[this,List.set_getElem_self]
 .rw[List.set_eq_of_length_le (by simpa using hi)]
theorem tZ:∀(is:List Nat) (l:List bL),gR (is.foldl eK l)=gR l
 |[],_=>rfl
 |i::r,l=>by rw[List.foldl_cons,tZ r,zT]
theorem wo:∀(is:List Nat) (l:List bL),(∀r∈l,0<=r.told)->∀r∈is.foldl eK l,0<=r.told
 |[],_,h,r,hr=>h r hr
 |i::is,l,h,r,hr=>by
  refine wo is (eK l i) (λx hx=>?_) r hr;rcases JI hx with h1|rfl
  .exact h x h1
  .show 0<=(l.getD i dr).told+1
   by_cases hi:i<l.length
   .have:=h (l.getD i dr) (by rw[Ip,If hi];exact IH hi)
    omega
   .rw[Ip,List.getElem?_eq_none (by omega)];decide
theorem bq{α:Type}{l:List α}{i:Nat}(h:i<l.length)(d:α):l.getD i d∈l:=by rw[Ip,If h];exact IH h
theorem rF{rs:List bL}:dJ rs↔(gR rs).Pairwise (λa b=>a.name≠b.name):=by rw[mR,gR,List.pairwise_map]
theorem Fy{rs:List bL}{times:Int}{told:List Mem}{rest:List bL}(h:qS rs times told rest)(h0:dW rs=0)(ht:times<=100):dW rest=0/\∀r∈rest,∃x∈rs,x.m=r.m:=by
 obtain⟨z1,z2,z3,z4⟩:=fD h0;rcases h with⟨rfl,_,rfl⟩|⟨_,ord,ho,_,rfl⟩
 .exact⟨h0,λr hr=>by cases hr⟩
 .have hm:=tZ (ord.take (min 5 rs.length)) rs
  have Tl:(gR ((bump rs ord (min 5 rs.length)).filter (ei times))).Sublist (gR rs):=by
   rw[<- hm];exact List.Sublist.map _ List.filter_sublist
  have nO:∀r∈(bump rs ord (min 5 rs.length)).filter (ei times),∃x∈rs,x.m=r.m:=λr hr=>by
   have h1:=Tl.subset (List.mem_map_of_mem hr);obtain⟨x,hx,e⟩:=List.mem_map.1 h1;exact⟨x,hx,e⟩
  refine⟨xq ?_ (λj hj=>?_) (λj hj=>?_) (rF.2 ((rF.1 z4).sublist Tl)),nO⟩
  .have:=Tl.length_le
   rw[kP,kP] at this;omega
  .obtain⟨x,hx,e⟩:=nO _ (bq hj dr)
   rw[<- e];obtain⟨k,hk,rfl⟩:=IU hx;have:=z2 k hk
   rwa [Ip,If hk] at this
  .have hr:=List.mem_filter.1 (bq hj dr)
   have h1:=wo (ord.take (min 5 rs.length)) rs (λr hr=>by
    obtain⟨k,hk,rfl⟩:=IU hr;have:=z3 k hk;rw[Ip,If hk] at this;exact(Q2.1 this).1) _ hr.1
   have h2:=of_decide_eq_true hr.2;exact Q2.2 ⟨h1,by omega⟩
theorem XS{n:Nd}(h:bj n.ms=0):TZ n<=100:=by
 have aN:∀m,m<21->Lib.bitLen m<=5:=by decide
 have h1:=aN (eC n.ms).length (by have:=zQ (af h).1;omega);unfold TZ;omega
theorem wq{n:Nd}{l:List Mem}{rest:List bL}(he:n.e=0)(h:jk n l rest):oB n { n with rs:=rest }/\(qb n.name l).e=0:=by
 have hp:=Nd.parts (Nd.aU he).1;obtain⟨mj,rh⟩:=Ti he;obtain⟨z1,z2,z3,z4⟩:=fD mj;obtain⟨told,ht,XT,_⟩:=h;obtain⟨t1,t2⟩:=Fy ht mj (XS hp.ms);have lS:=iX _ _ Sv.dm Sv.keyed Sv.iA (Sv.af hp.sv).2.1;have lG:=iX _ _ Gw.dm Gw.keyed Gw.iA (Gw.af hp.gw).2.1;have hl5:l.length<=5:=by rw[XT.length_eq];exact tS ht
 have hle:∀m∈l,m.e=0:=λm hm=>by
  have h1:=XT.mem_iff.1 hm;rcases ht with⟨_,rfl,_⟩|⟨_,ord,ho,rfl,_⟩
  .cases h1
  .obtain⟨r,hr,rfl⟩:=qT ho h1
   obtain⟨k,hk,rfl⟩:=IU hr;have:=z2 k hk
   rwa [Ip,If hk] at this
 have rC:mC l:=by
  have h1:=(XT.pairwise_iff (λh e=>h e.symm)).2 (xO ht z4);intro i j iY hj;have:=List.pairwise_iff_getElem.1 h1 i j (by omega) hj iY
  rwa [Ip,Ip,If hj,If (by omega:i<l.length)]
 refine⟨⟨xZ he rfl rfl rfl t1 (λr hr=>?_) hp.sv hp.gw hp.p hp.wh,rfl,qd he rfl lS lG⟩,?_⟩
 .obtain⟨x,hx,e⟩:=t2 r hr
  have:=rh x hx;unfold fk at this ⊢;rw[<- e];exact this
 .have h1:(qb n.name l).mE=0:=by
   show(if(false:Bool)=true then bj l else lA l)=0;rw[if_neg (by simp)];exact CE hl5 (λ_ hj=>hle _ (bq hj dm)) rC
  unfold Pk.e;rw[if_pos (by show(bb n.name&&(false||Pk.alone (qb n.name l)))=true;rw[hp.name];rfl),if_pos h1];rfl
theorem Dx{n:Nd}(he:n.e=0):(ep n).e=0:=by
 have hp:=Nd.parts (Nd.aU he).1;have h1:(ep n).mE=0:=hp.ms;unfold Pk.e;rw[if_pos (by show(bb n.name&&(true||_))=true;rw[hp.name];rfl),if_pos h1,if_pos (show Sv.bj (ep n).sv=0 from hp.sv),if_pos (show Gw.bj (ep n).gw=0 from hp.gw)];exact hp.wh
theorem wu{p:Pk}(h:p.e=0):yu p.T.data.toList=AI p:=by
 have:p.T.data.toList=p.B:=by unfold Pk.T;rw[if_pos h]
 rw[this];exact kU.2 ⟨rfl,h⟩
theorem zU{p:Pk}(h:p.e=0):p.T.size<=16777216:=by
 have hw:=oE h;have e:p.T.size=p.L.length:=by
  rw[p.Vp];unfold Pk.T;rw[if_pos h];simp[Lib.byteCells,ByteArray.size]
 have h1:=dK p.ms hw.ms.2;have h2:=Sv.dK p.sv hw.sv.2;have h3:=Gw.dK p.gw hw.gw.2;have h4:=Wh.dK p.wh hw.wh.2;have b1:=hw.ms.1;have b2:=hw.sv.1;have b3:=hw.gw.1;have b4:=hw.wh.1;have b5:=hw.cU;have n1:=dH (cW (n:=p.ms.length) (by omega));have n2:=dH (cW (n:=p.sv.length) (by omega));have n3:=dH (cW (n:=p.gw.length) (by omega));have n4:=dH (cW (n:=p.wh.length) (by omega));have t1:=dI (s:=p.cU) (by omega);have f1:=iO p.whole;rw[e];unfold Pk.L;simp only[Ig];omega
def NR(t t':Nt):Prop:=
 (∃j n',j<t.ns.length/\yb (t.ns.getD j cS) n'/\t'=⟨t.ns.set j n',t.ls⟩) \/
 (∃j k l rest,j<t.ns.length/\k<t.ns.length/\t.ls.length<20/\jk (t.ns.getD j cS) l rest/\t'=⟨t.ns.set j { t.ns.getD j cS with rs:=rest },t.ls++[⟨((k:Nat):Int),(qb (t.ns.getD j cS).name l).T⟩]⟩) \/
 (∃j k,j<t.ns.length/\k<t.ns.length/\t.ls.length<20/\t'=⟨t.ns,t.ls++[⟨((k:Nat):Int),(ep (t.ns.getD j cS)).T⟩]⟩) \/
 (∃j k p,j<t.ls.length/\k<t.ns.length/\yu (t.ls.getD j Lt.dm).text.data.toList=AI p/\pR (t.ns.getD k cS) p=0/\t'=⟨t.ns.set k (rQ (t.ns.getD k cS) p),t.ls.eraseIdx j⟩) \/
 (∃j,t'=⟨t.ns,t.ls.eraseIdx j⟩)\/(∃j,j<t.ls.length/\t.ls.length<20/\t'=⟨t.ns,t.ls++[t.ls.getD j Lt.dm]⟩)
structure eu(t:Nt):Prop where
 e:t.e=0
 sh:∀l∈t.ls,l.text.size<=16777216
theorem eu.short{t:Nt}(h:eu t):t.Dk:=λ_=>h.sh
theorem zV{t:Nt}(h1:t.ns.length<=6)(h2:t.ls.length<=20)(h3:∀n∈t.ns,n.e=0)(h4:gU t.ns)(h5:∀l∈t.ls,vd t.ns.length l=0/\l.text.size<=16777216):eu t:=by
 refine⟨?_,λl hl=>(h5 l hl).2⟩;rw[Nt.qR (by omega) (Dg (λj hj=>h3 _ (bq hj cS)) h4)];exact nC _ Lt.dm _ (λj hj=>(h5 _ (bq hj Lt.dm)).1)
theorem ua{α:Type}(l:List α)(j i:Nat)(x d:α)(hj:j<l.length):(l.set j x).getD i d=if i=j then x else l.getD i d:=by
 by_cases h:i=j
 .subst h;rw[if_pos rfl,Ip,List.getElem?_set_self hj];rfl
 .rw[if_neg h,Ip,List.getElem?_set_ne (Ne.symm h),Ip]
theorem Fz{ns:List Nd}{j:Nat}{n':Nd}(h:gU ns)(hj:j<ns.length)(hn:n'.name=(ns.getD j cS).name):gU (ns.set j n'):=by
 have e:∀i,((ns.set j n').getD i cS).name=(ns.getD i cS).name:=λi=>by
  rw[ua _ _ _ _ _ hj];split
  .rename_i h;rw[h];exact hn
  .rfl
 intro a b DX hb;rw[e,e];exact h a b DX (by rwa [IS] at hb)
structure Ci(t t':Nt):Prop where
 right:eu t'
 len:t'.ns.length=t.ns.length
 le:∀i,i<t.ns.length->fP (t.ns.getD i cS) (t'.ns.getD i cS)/\(t'.ns.getD i cS).name=(t.ns.getD i cS).name
theorem Dy{n:Nd}(he:n.e=0):fP n n:=
 have hp:=Nd.parts (Nd.aU he).1
 qd he rfl (iX _ _ Sv.dm Sv.keyed Sv.iA (Sv.af hp.sv).2.1) (iX _ _ Gw.dm Gw.keyed Gw.iA (Gw.af hp.gw).2.1)
theorem ub{t:Nt}(h:eu t){j:Nat}(hj:j<t.ns.length){n':Nd}(hf:oB (t.ns.getD j cS) n'){ls:List Lt.fb}(hl:ls.length<=20)(h5:∀l∈ls,l∈t.ls\/(vd t.ns.length l=0/\l.text.size<=16777216)):Ci t ⟨t.ns.set j n',ls⟩:=by
 obtain⟨z1,z2,z3,z4,z5⟩:=Nt.aU h.e;refine⟨zV (by show(t.ns.set j n').length<=6;rw[IS];exact z1) hl (λn hn=>?_) (Fz z4 hj hf.nm) (λl hl=>?_),IS,λi hi=>?_⟩
 .rcases JI hn with h1|rfl
  .exact z3 n h1
  .exact hf.e
 .show vd (t.ns.set j n').length l=0/\_
  rw[IS];rcases h5 l hl with h1|h1
  .exact⟨z5 l h1,h.sh l h1⟩
  .exact h1
 .show fP _ ((t.ns.set j n').getD i cS)/\((t.ns.set j n').getD i cS).name=_
  rw[ua _ _ _ _ _ hj];split
  .rename_i e;subst e;exact⟨hf.le,hf.nm⟩
  .exact⟨Dy (z3 _ (bq hi cS)),rfl⟩
theorem qX{t:Nt}(h:eu t){ls:List Lt.fb}(hl:ls.length<=20)(h5:∀l∈ls,l∈t.ls\/(vd t.ns.length l=0/\l.text.size<=16777216)):Ci t ⟨t.ns,ls⟩:=by
 obtain⟨z1,z2,z3,z4,z5⟩:=Nt.aU h.e;refine⟨zV z1 hl z3 z4 (λl hl=>?_),rfl,λi hi=>⟨Dy (z3 _ (bq hi cS)),rfl⟩⟩;rcases h5 l hl with h1|h1
 .exact⟨z5 l h1,h.sh l h1⟩
 .exact h1
theorem wv{p:Pk}(h:p.e=0){k n:Nat}(hk:k<n):vd n ⟨((k:Nat):Int),p.T⟩=0/\(⟨((k:Nat):Int),p.T⟩:Lt.fb).text.size<=16777216:=by
 refine⟨?_,zU h⟩;unfold vd;simp only[wu h,lY hk];rfl
theorem K3{t t':Nt}(h:eu t)(hk:∀n∈t.ns,il n)(hn:NR t t'):Ci t t':=by
 obtain⟨z1,z2,z3,z4,z5⟩:=Nt.aU h.e;have rC:∀(ls:List Lt.fb) (x:Lt.fb),vd t.ns.length x=0/\x.text.size<=16777216->∀l∈t.ls++[x],l∈t.ls\/(vd t.ns.length l=0/\l.text.size<=16777216):=λ_ x hx l hl=>by
  rcases Jx.1 hl with h1|h1
  .exact .inl h1
  .rw[Jb.1 h1];exact .inr hx
 rcases hn with⟨j,n',hj,hb,rfl⟩|⟨j,k,l,rest,hj,fQ,h20,ht,rfl⟩|⟨j,k,hj,fQ,h20,rfl⟩|⟨j,k,p,hj,fQ,NT,hh,rfl⟩|⟨j,rfl⟩|⟨j,hj,h20,rfl⟩
 .exact ub h hj (yc (z3 _ (bq hj cS)) hb) z2 (λl hl=>.inl hl)
 .have hf:=wq (z3 _ (bq hj cS)) ht
  exact ub h hj hf.1 (by rw[Ig];simp;omega) (rC t.ls _ (wv hf.2 fQ))
 .exact qX h (by rw[Ig];simp;omega) (rC t.ls _ (wv (Dx (z3 _ (bq hj cS))) fQ))
 .have he:=z3 _ (bq fQ cS)
  have hw:=oE (kU.1 NT).2;refine ub h fQ ⟨WU he (hk _ (bq fQ cS)).wh (λm hm=>?_) hh,(xv _ _).name,xR he hh⟩ (Iq (List.length_eraseIdx_le ..) z2) (λl hl=>.inl (Oa hl));have:=(hw.wh.2 m hm).1;show _<=maxLen;unfold maxLen;omega
 .exact qX h (Iq (List.length_eraseIdx_le ..) z2) (λl hl=>.inl (Oa hl))
 .exact qX h (by rw[Ig];simp;omega) (rC t.ls _ ⟨z5 _ (bq hj Lt.dm),h.sh _ (bq hj Lt.dm)⟩)
theorem xG.at{w:World}{a:Option Addr}{n c:Nat}{ns:List Nd}(h:xG w (J a n c) ns){i:Nat}(hi:i<ns.length):∃b off,a=AI ⟨b,off,be⟩/\∃A,gZ w (ns.getD i cS) A/\∀j,j<12->w.cell? ⟨b,off+i*12+j,be⟩=A[j]?:=by
 obtain⟨p,c',e,h⟩:=h;rcases h with rfl|⟨b,off,rfl,_,hr⟩
 .simp at hi
 .obtain⟨vm,vr,vs,vg,vw,h1,h2⟩:=hr i hi
  simp only[Value.slice.injEq] at e;exact⟨b,off,e.1,_,⟨vm,vr,vs,vg,vw,rfl,h1⟩,h2⟩
theorem xG.len{w:World}{a:Option Addr}{n c:Nat}{ns:List Nd}(h:xG w (J a n c) ns):n=ns.length:=by
 obtain⟨p,c',e,_⟩:=h;simp only[Value.slice.injEq] at e;exact e.2.1
structure Told(o:Nd)(ms:List Mem)(sv:List Sv.aT):Prop where
 ms:∀m∈ms,m.name=o.name->m.aI<=(eV o.ms o.name).aI
 sv:∀s∈sv,s.node=o.name->∃x∈o.sv,Sv.ord x s=0/\(s.version<x.version\/s=x)
structure uc(t:Nt):Prop where
 ns:∀o∈t.ns,∀x∈t.ns,Told o x.ms x.sv
 ls:∀o∈t.ns,∀l∈t.ls,∀p,yu l.text.data.toList=AI p->Told o p.ms p.sv
theorem nc(o:Nd):Told o [] []:=⟨λm hm=>(by cases hm),λs hs=>(by cases hs)⟩
theorem zW{a b:Sv.aT}(h:Sv.ord a b=0):a.node=b.node:=(bT _ _).1 (RL.fo h).1
theorem Dz{ms:List Sv.aT}(hr:Sv.bn ms){x y:Sv.aT}(hx:x∈ms)(hy:y∈ms)(h:Sv.ord y x=0):y=x:=by
 obtain⟨p,f,cv⟩:=Sv.jI ms hr x;exact(K2 hr cv hy h).2.symm.trans (K2 hr cv hx (Sv.keyed.refl x)).2
theorem wy{o:Nd}(he:o.e=0):Told o o.ms o.sv:=by
 refine⟨λm hm e=>?_,λs hs _=>⟨s,hs,Sv.keyed.refl s,.inr rfl⟩⟩;rw[<- e,fN (pW (af (Nd.parts (Nd.aU he).1).ms).2.1 hm)];exact Int.le_refl _
theorem wA{a b:Mem}(h:eB a b=false):a.aI<=b.aI:=by
 unfold eB uN at h;split at h
 .omega
 .have:=of_decide_eq_false h;omega
theorem yd{a b:Sv.aT}(h:Sv.bP a b=false):a.version<=b.version:=by
 apply Classical.byContradiction;intro hv;have h1:0<Sv.xy a b:=by
  unfold Sv.xy RL.lex;rw[if_neg (by show ¬ a.version-b.version=0;omega)];show 0<a.version-b.version;omega
 unfold Sv.bP at h;exact absurd h1 (of_decide_eq_false h)
theorem NU{n n':Nd}(he:n.e=0)(h:fP n n'):(eV n.ms n.name).aI<=(eV n'.ms n.name).aI:=by
 obtain⟨m,hm,_⟩:=Nd.ko (Nd.aU he).2;obtain⟨h1,h2⟩:=iQ hm;obtain⟨k,hk,hn⟩:=h.ms m h1;rw[h2] at hk;rw[fN hm,fN hk];exact wA hn
theorem Cj{ns:List Nd}{j:Nat}{n' x:Nd}(hx:x∈ns.set j n'):x=n'\/∃i,i≠j/\i<ns.length/\x=ns.getD i cS:=by
 obtain⟨i,hi,rfl⟩:=IU hx;rw[IS] at hi;by_cases h:i=j
 .subst h;exact .inl (List.getElem_set_self _)
 .exact .inr ⟨i,h,hi,by rw[List.getElem_set_ne (Ne.symm h),Ip,If hi];rfl⟩
theorem zX{ns:List Nd}(h:gU ns){i j:Nat}(iY:i≠j)(hi:i<ns.length)(hj:j<ns.length):(ns.getD i cS).name≠(ns.getD j cS).name:=by
 rcases Nat.lt_or_gt_of_ne iY with h1|h1
 .exact h i j h1 hj
 .exact λe=>h j i h1 hi e.symm
theorem iF{t:Nt}(hr:eu t)(h:uc t){j:Nat}(hj:j<t.ns.length){n':Nd}{ls:List Lt.fb}(hg:Ci t ⟨t.ns.set j n',ls⟩)(pm:List Mem)(b:List Sv.aT)(hs:n'.sv=Sv.av (t.ns.getD j cS).sv b)(hm:∀x∈n'.ms,x.name≠(t.ns.getD j cS).name->∃m,(m∈pm\/m∈(t.ns.getD j cS).ms)/\m.name=x.name/\x.aI=m.aI)(hb:∀d∈b,d.node=(t.ns.getD j cS).name->∀x∈(t.ns.getD j cS).sv,Sv.ord x d=0->x.version<d.version\/d.version<x.version\/d=x)(hP:∀o∈t.ns,o.name≠(t.ns.getD j cS).name->Told o pm b)(hl:∀o∈t.ns,∀l∈ls,∀p,yu l.text.data.toList=AI p->Told o p.ms p.sv):uc ⟨t.ns.set j n',ls⟩:=by
 obtain⟨_,_,z3,rC,_⟩:=Nt.aU hr.e;have Tm:=bq hj cS;obtain⟨RB,cV⟩:=hg.le j hj;have e:(⟨t.ns.set j n',ls⟩:Nt).ns.getD j cS=n':=by
  show(t.ns.set j n').getD j cS=n';rw[ua _ _ _ _ _ hj,if_pos rfl]
 rw[e] at RB cV;have he:n'.e=0:=by
  rw[<- e];exact(Nt.aU hg.right.e).2.2.1 _ (bq (by rw[hg.len];exact hj) cS)
 have XU:=h.ns _ Tm;have aM:∀i,i≠j->i<t.ns.length->(t.ns.getD i cS).name≠(t.ns.getD j cS).name:=λi h1 h2=>zX rC h1 h2 hj;have Di:=z3 _ Tm;generalize t.ns.getD j cS=n at *;have XV:=(Sv.af (Nd.parts (Nd.aU Di).1).sv).2.1;have grow:∀{ms:List Mem} {sv:List Sv.aT},Told n ms sv->Told n' ms sv:=λ{ms sv} h=>by
  refine⟨λm hm e=>?_,λs gY e=>?_⟩
  .rw[cV] at e ⊢
   exact Int.le_trans (h.ms m hm e) (NU Di RB)
  .rw[cV] at e
   obtain⟨x,hx,e1,h1⟩:=h.sv s gY e;obtain⟨p,cv,wJ⟩:=RB.sv x hx;obtain⟨hp,ho⟩:=cv.is.1 rfl;have hy:=bq hp Sv.dm;generalize n'.sv.getD p Sv.dm=y at *;have h2:x.version<y.version\/x=y:=by
    rw[hs] at hy;rcases Sv.dS _ _ _ hy with h3|h3
    .exact .inr (Dz XV hx h3 ho).symm
    .rcases hb y h3 ((zW ho).trans ((zW e1).trans e)) x hx (Sv.keyed.symm ho) with h4|h4|rfl
     .exact .inl h4
     .have:=yd wJ;omega
     .exact .inr rfl
   refine⟨y,hy,Sv.keyed.CA ho e1,?_⟩;rcases h1 with h1|rfl
   .left
    rcases h2 with h2|rfl
    .omega
    .exact h1
   .exact h2
 have other:∀o∈t.ns,o.name≠n.name->Told o n'.ms n'.sv:=λo ho aM=>by
  have h1:=h.ns o ho n Tm;have h2:=hP o ho aM;refine⟨λx hx ex=>?_,λs gY es=>?_⟩
  .obtain⟨m,GA,em,el⟩:=hm x hx (by rw[ex];exact aM)
   rw[el];rcases GA with h3|h3
   .exact h2.ms m h3 (em.trans ex)
   .exact h1.ms m h3 (em.trans ex)
  .rw[hs] at gY
   rcases Sv.dS _ _ _ gY with h3|h3
   .exact h1.sv s h3 es
   .exact h2.sv s h3 es
 have cv:∀o∈t.ns.set j n',o=n'\/o∈t.ns/\o.name≠n.name:=λo ho=>by
  rcases Cj ho with h1|⟨i,hi,hil,rfl⟩
  .exact .inl h1
  .exact .inr ⟨bq hil cS,aM i hi hil⟩
 refine⟨λo hom x hx=>?_,λo hom l Tn p hp=>?_⟩
 .rcases cv o hom with rfl|⟨h1,h2⟩<;>rcases cv x hx with rfl|⟨h3,h4⟩
  .exact wy he
  .exact grow (XU x h3)
  .exact other o h1 h2
  .exact h.ns o h1 x h3
 .rcases cv o hom with rfl|⟨h1,h2⟩
  .exact grow (hl n Tm l Tn p hp)
  .exact hl o h1 l Tn p hp
theorem Ck{n:Nd}{m x:Mem}(hx:x∈(mA n m).ms)(hn:x.name≠n.name):x=m\/x∈n.ms:=by
 have h1:(iJ n m).ms=aP n.ms m:=by unfold iJ;split<;>rfl
 have cV:=(tz n m).name;unfold mA at hx;split at hx
 .have h2:(uk (iJ n m)).ms=nS (iJ n m):=by unfold uk;split<;>rfl
  rw[h2] at hx;unfold nS tu at hx;split at hx
  .rename_i hR
   rcases JI hx with h|rfl
   .rw[h1] at h;exact ec _ _ _ h
   .have hF:oC (iJ n m)=true:=by
     unfold iT at hR;rw[IM,IM] at hR;exact hR.1.1
    unfold oC Sc at hF;rw[IM,decide_eq_true_eq,decide_eq_true_eq] at hF;exact absurd (((bT _ _).1 hF.2).trans cV) hn
  .rw[h1] at hx;exact ec _ _ _ hx
 .rw[h1] at hx;exact ec _ _ _ hx
theorem K5:∀(l:List Mem) (n:Nd) (x:Mem),x∈(uZ n l).ms->x.name≠n.name->x∈l\/x∈n.ms
 |[],_,_,h,_=>.inr h
 |m::r,n,x,h,hn=>by
  have e:=(fT n m).name;rcases K5 r (mA n m) x h (by rw[e];exact hn) with h|h
  .exact .inl (List.mem_cons_of_mem _ h)
  .rcases Ck h hn with rfl|h
   .exact .inl (List.mem_cons_self ..)
   .exact .inr h
theorem FA{n o:Nd}{l:List Mem}{rest:List bL}(he:n.e=0)(ht:jk n l rest)(h:Told o n.ms n.sv):Told o l []:=by
 refine⟨λm hm e=>?_,λs hs=>by cases hs⟩;obtain⟨told,Hn,XT,_⟩:=ht;have h1:=XT.mem_iff.1 hm;rcases Hn with⟨_,rfl,_⟩|⟨_,ord,ho,rfl,_⟩
 .cases h1
 .obtain⟨r,hr,rfl⟩:=qT ho h1
  have h2:=(Ti he).2 r hr;unfold fk at h2;split at h2
  .cases h2
  .rename_i k hk
   obtain⟨k1,k2⟩:=iQ hk;exact Int.le_trans (wA h2) (h.ms k k1 (k2.trans e))
theorem FB{t t':Nt}(hr:eu t)(hg:Ci t t')(h:uc t)(hn:NR t t'):uc t':=by
 obtain⟨z1,z2,z3,z4,z5⟩:=Nt.aU hr.e;have same:∀(l:List Mem) (n:Nd),∀x∈n.ms,x.name≠n.name->∃m,(m∈l\/m∈n.ms)/\m.name=x.name/\x.aI=m.aI:=λl n x hx _=>⟨x,.inr hx,rfl,rfl⟩;have add:∀{x:Lt.fb} {p:Pk},p.e=0->x.text=p.T->(∀o∈t.ns,Told o p.ms p.sv)->∀o∈t.ns,∀l∈t.ls++[x],∀q,yu l.text.data.toList=AI q->Told o q.ms q.sv:=λ{x p} hp hx hT o ho l hl q hq=>by
  rcases Jx.1 hl with h1|h1
  .exact h.ls o ho l h1 q hq
  .rw[Jb.1 h1,hx,wu hp] at hq
   rw[<- Option.some.inj hq];exact hT o ho
 have nil:∀{P:Sv.aT->Prop},∀d∈([]:List Sv.aT),P d:=λd hd=>by cases hd
 rcases hn with⟨j,n',hj,hb,rfl⟩|⟨j,k,l,rest,hj,fQ,h20,ht,rfl⟩|⟨j,k,hj,fQ,h20,rfl⟩|⟨j,k,p,hj,fQ,NT,hh,rfl⟩|⟨j,rfl⟩|⟨j,hj,h20,rfl⟩
 .have he:=z3 _ (bq hj cS)
  rcases hb with⟨a,b,c,hb,h0,rfl⟩|⟨h0,rfl⟩|⟨a,p,r,h0,rfl⟩|⟨d,h1,h0,rfl⟩|⟨d,h0,rfl⟩
  .refine iF hr h hj hg [] [] ((fT _ _).sv) (λx hx aM=>?_) nil (λo _ _=>nc o) h.ls
   rcases Ck hx aM with rfl|h1
   .refine⟨eV (t.ns.getD j cS).ms a,.inr (nA ?_).1,rfl,rfl⟩
    unfold sn at h0;split at h0
    .split at h0
     .assumption
     .cases h0
    .cases h0
   .exact⟨x,.inr h1,rfl,rfl⟩
  .refine iF hr h hj hg [] [] ((fT _ _).sv) (λx hx aM=>?_) nil (λo _ _=>nc o) h.ls
   rcases Ck hx aM with rfl|h1
   .obtain⟨m,hm,_⟩:=Nd.ko (Nd.aU he).2
    exact absurd (nA (by rw[hm];rfl)).2 aM
   .exact⟨x,.inr h1,rfl,rfl⟩
  .exact iF hr h hj hg [] [] rfl (same [] _) nil (λo _ _=>nc o) h.ls
  .refine iF hr h hj hg [] [d] rfl (same [] _) (λx hx hxn y hy e=>?_) (λo _ aM=>⟨λm hm=>(by cases hm),λs hs e=>?_⟩) h.ls
   .rw[Jb.1 hx] at e ⊢
    exact .inl (h1.2 y hy e)
   .rw[Jb.1 hs,h1.1] at e
    exact absurd e.symm aM
  .exact iF hr h hj hg [] [] rfl (same [] _) nil (λo _ _=>nc o) h.ls
 .have he:=z3 _ (bq hj cS)
  exact iF hr h hj hg [] [] rfl (same [] _) nil (λo _ _=>nc o) (add (wq he ht).2 rfl (λo ho=>FA he ht (h.ns o ho _ (bq hj cS))))
 .exact⟨h.ns,add (Dx (z3 _ (bq hj cS))) rfl (λo ho=>h.ns o ho _ (bq hj cS))⟩
 .have hT:∀o∈t.ns,Told o p.ms p.sv:=λo ho=>h.ls o ho _ (bq hj Lt.dm) p NT
  have zt:=bq fQ cS;refine iF hr h fQ hg p.ms p.sv rfl (λx hx aM=>?_) (λd hd hdn x hx e=>?_) (λo ho _=>hT o ho) (λo ho l hl=>h.ls o ho l (Oa hl))
  .rcases K5 p.ms _ x hx aM with h1|h1
   .exact⟨x,.inl h1,rfl,rfl⟩
   .exact⟨x,.inr h1,rfl,rfl⟩
  .obtain⟨y,hy,e1,h1⟩:=(hT _ zt).sv d hd hdn
   have:=Dz (Sv.af (Nd.parts (Nd.aU (z3 _ zt)).1).sv).2.1 hx hy (Sv.keyed.CA e1 (Sv.keyed.symm e));subst this;exact .inr h1
 .exact⟨h.ns,λo ho l hl=>h.ls o ho l (Oa hl)⟩
 .refine⟨h.ns,λo ho l hl=>h.ls o ho l ?_⟩
  rcases Jx.1 hl with h1|h1
  .exact h1
  .rw[Jb.1 h1];exact bq hj Lt.dm
theorem NV{o x:Nd}(he:o.e=0)(h:Told o x.ms x.sv){j:Nat}(hj:j<x.sv.length)(hn:(x.sv.getD j Sv.dm).node=o.name):∃q,q<o.sv.length/\(∀W v,Sv.Sl W v o.sv->Calls AS 14 #[v,Y (x.sv.getD j Sv.dm).node,Y (x.sv.getD j Sv.dm).bu] W λe w'=>e=By (U O (q:Int))/\w'=W)/\((x.sv.getD j Sv.dm).version<(o.sv.getD q Sv.dm).version\/x.sv.getD j Sv.dm=o.sv.getD q Sv.dm):=by
 obtain⟨y,hy,e,h1⟩:=h.sv _ (bq hj Sv.dm) hn;obtain⟨q,hq,rfl⟩:=IU hy;have eq:=RL.j9 Sv.dm hq;have hz:=Sv.af (Nd.parts (Nd.aU he).1).sv;refine⟨q,hq,λW v hv=>?_,by rw[eq];exact h1⟩;refine(Sv.Ed o.sv v _ _ W hv (by have:=hz.1;omega)).mono ?_;rintro e2 w' ⟨r,rfl,hI,rfl⟩;exact⟨by rw[(Sv.RX hI.out (RL.yB Sv.ord Sv.dm Sv.keyed hz.2.1 hq (by rw[eq];exact e)) hz.2.1).1 rfl],rfl⟩
abbrev To(ms:List Mem)(t:ByteArray)(r:Int):Prop:=∀W v,Sl W v ms->Calls AS 15 #[v,Y t] W λe w'=>e=By (U O r)/\Below W.heap.size W w'
theorem zY{ms:List Mem}(hc:bj ms=0){t:ByteArray}{m:Mem}(hm:cI ms t=AI m):∃q:Nat,q<ms.length/\ms.getD q dm=m/\To ms t q:=by
 obtain⟨h1,h2⟩:=iQ hm;obtain⟨q,hq,hqe⟩:=IU h1;have hg:ms.getD q dm=m:=by rw[<- hqe];simp[Ip,If hq]
 have hz:=af hc;refine⟨q,hq,hg,λW v hv=>?_⟩;refine(wj ms v t W hv (by have:=hz.1;omega)).mono ?_;rintro e w' ⟨r,rfl,cv,rfl⟩;rcases cv.out with⟨k0,uT,rfl,hf⟩|⟨_,hf⟩
 .rw[hm] at hf
  injection hf with hf;have h3:=Ft hz.2.1 uT hq (by rw[<- hf,hg]);exact⟨by rw[h3],Ib _ _⟩
 .rw[hm] at hf;cases hf
theorem NW{o x:Nd}(he:o.e=0)(hx:x.e=0)(h:Told o x.ms x.sv):∃q:Nat,q<o.ms.length/\To o.ms o.name q/\((∃r:Nat,r<x.ms.length/\To x.ms o.name r/\(x.ms.getD r dm).aI<=(o.ms.getD q dm).aI)\/To x.ms o.name (-1)):=by
 obtain⟨m,hm,_⟩:=Nd.ko (Nd.aU he).2;have hc:=(Nd.parts (Nd.aU hx).1).ms;obtain⟨q,hq,hg,hM⟩:=zY (Nd.parts (Nd.aU he).1).ms hm;refine⟨q,hq,hM,?_⟩;rcases hk:cI x.ms o.name with _|k
 .refine .inr (λW v hv=>(wj x.ms v _ W hv (by have:=(af hc).1;omega)).mono ?_)
  rintro e w' ⟨r,rfl,cv,rfl⟩;rcases cv.out with⟨k0,uT,rfl,hf⟩|⟨rfl,_⟩
  .rw[hk] at hf;cases hf
  .exact⟨rfl,Ib _ _⟩
 .obtain⟨r,hr,dQ,hM2⟩:=zY hc hk
  refine .inl ⟨r,hr,hM2,?_⟩;rw[hg,dQ,<- fN hm];exact h.ms k (iQ hk).1 (iQ hk).2
theorem xG.at2{w:World}{a:Option Addr}{n c:Nat}{ns:List Nd}(h:xG w (J a n c) ns):n=ns.length/\(0<n->∃b o,a=AI ⟨b,o,be⟩/\∀k,k<n->∃A,gZ w (ns.getD k cS) A/\∀W,Below w.heap.size w W->∀j,j<12->W.cell? ⟨b,o+k*12+j,be⟩=A[j]?):=by
 have hl:=h.len;refine⟨hl,λh0=>?_⟩;obtain⟨b,o,e,_⟩:=h.at (i:=0) (by omega);subst e;refine⟨b,o,rfl,λk hk=>?_⟩;obtain⟨b1,o1,e1,A,hA,hc⟩:=h.at (i:=k) (by omega);obtain⟨rfl,rfl⟩:b=b1/\o=o1:=by simpa using e1
 have sA:A.size=12:=by obtain⟨_,_,_,_,_,rfl,_⟩:=hA;rfl
 refine⟨A,hA,λW hW j hj=>?_⟩;have h1:=hc j hj;rw[Array.getElem?_eq_getElem (by omega)] at h1 ⊢;exact(hW.cell (Ix w _ h1)).trans h1
theorem K6(t:Nt)(a1 d1 a2 d2:Option Addr)(m1 c1 l1 q1 n c2 l2 q2:Nat)(w:World)(h:gh w t (J a2 n c2) (J d2 l2 q2))(hr:eu t)(hT:uc t) :
 Calls AS 13 #[.agg #[J a1 m1 c1,J d1 l1 q1],.agg #[J a2 n c2,J d2 l2 q2]] w λe w'=>e=By (Ia true)/\Below w.heap.size w w':=by
 obtain⟨hn,cv⟩:=h.ns.at2;have hz:=Nt.aU hr.e;have BJ:n<=6:=by rw[hn];exact hz.1
 have HE:Hid (∀k,k<n->(t.ns.getD k cS).e=0):=λk hk=>hz.2.2.1 _ (bq (by omega) cS);have HTD:Hid (∀i k,i<n->k<n->Told (t.ns.getD k cS) (t.ns.getD i cS).ms (t.ns.getD i cS).sv):=λi k hi hk=>hT.ns _ (bq (by omega) cS) _ (bq (by omega) cS);have fS:Hid _:=cv;clear h hr hT hz cv hn;obtain⟨W0,bJ⟩:∃W0,W0=(w.alloc (AT #[J a1 m1 c1,J d1 l1 q1] 27)).alloc (AT #[J a2 n c2,J d2 l2 q2] 27):=⟨_,rfl⟩;have HI:Hid (W0.heap[w.heap.size+1]?=AI (AT #[J a2 n c2,J d2 l2 q2] 27 (0,0))/\Below w.heap.size w W0):=by
  refine⟨?_,by rw[bJ];exact((Ib _ _).alloc (Ic _) _).alloc (by simp) _⟩;rw[bJ];have:=Ih (w.alloc (AT #[J a1 m1 c1,J d1 l1 q1] 27)) (AT #[J a2 n c2,J d2 l2 q2] 27);simpa using this
 go_enter Tryz.func13,Tryz.ntmps13;go_upto_region 1 with fail
 rw[<- bJ];clear bJ;go_wp2_with fail;go_loopw [5] (λi wr=>∃k:Nat,k<=n/\i=U O k/\Hid (wr.heap[w.heap.size+1]?=AI (AT #[J a2 n c2,J d2 l2 q2] 27 (0,0))/\Below w.heap.size w wr)) (λi _=>n-(intOf i).toNat)
 case atStart=>exact⟨0,II _,rfl,HI⟩
 case round=>
  obtain⟨i,hi,rfl,HR⟩:=hrel;have xn:=ae HR.out.1 0;by_cases aW:i<n
  .have hd:=decide_eq_true (p:=(i:Int)<(n:Int)) (by omega)
   have fL:(i:Int)<(n:Int):=by omega
   obtain⟨b0,o0,e0,HA0⟩:=fS.out (by omega);subst e0;have HAN:Hid _:=HA0;obtain⟨A,hA,hC⟩:=HA0 i aW;clear HA0 fS;obtain⟨Ns,Nu,KW,Gr,KX,Nv,Nw,Ny,Nz,yx,NA,NB,NC,ND,NF,NG,NH,NI,xV,xW,xX,xY,rfl⟩:=hA.letters;simp only[Nk] at hA hC;obtain⟨Tp,T5,_⟩:=hA.three;obtain⟨XW,XX⟩:=rowAt Tp;obtain⟨XY,qu⟩:=Sv.rowAt T5;have xa0:wr.cell? ⟨b0,o0+i*12,be⟩=AI (Y Ns):=hC wr HR.out.2 0 (by omega);have xa1:wr.cell? ⟨b0,o0+i*12+1,be⟩=AI (Y Nu):=hC wr HR.out.2 1 (by omega);have XZ:wr.cell? ⟨b0,o0+i*12+2,be⟩=AI (J KW Gr KX):=hC wr HR.out.2 2 (by omega);have xa3:wr.cell? ⟨b0,o0+i*12+3,be⟩=AI (J Nv Nw Ny):=hC wr HR.out.2 3 (by omega);have xa4:wr.cell? ⟨b0,o0+i*12+4,be⟩=AI (J Nz yx NA):=hC wr HR.out.2 4 (by omega);have xa5:wr.cell? ⟨b0,o0+i*12+5,be⟩=AI (J NB NC ND):=hC wr HR.out.2 5 (by omega);have xa6:wr.cell? ⟨b0,o0+i*12+6,be⟩=AI (U O NF):=hC wr HR.out.2 6 (by omega);have xa7:wr.cell? ⟨b0,o0+i*12+7,be⟩=AI (U O NG):=hC wr HR.out.2 7 (by omega);have xa8:wr.cell? ⟨b0,o0+i*12+8,be⟩=AI (U O NH):=hC wr HR.out.2 8 (by omega);have xa9:wr.cell? ⟨b0,o0+i*12+9,be⟩=AI (U O NI):=hC wr HR.out.2 9 (by omega);have ae1:wr.cell? ⟨b0,o0+i*12+10,be⟩=AI (U O xV):=hC wr HR.out.2 10 (by omega);have ae2:wr.cell? ⟨b0,o0+i*12+11,be⟩=AI (J xW xX xY):=hC wr HR.out.2 11 (by omega);obtain⟨W1,cM⟩:∃W1,W1=wr.alloc (AT #[Y Ns,Y Nu,J KW Gr KX,J Nv Nw Ny,J Nz yx NA,J NB NC ND,U O NF,U O NG,U O NH,U O NI,U O xV,J xW xX xY] 42):=⟨_,rfl⟩;have Bx:Below wr.heap.size wr W1:=by rw[cM];exact(Ib _ _).alloc (Ic _) _
   have iM:Hid (W1.heap[wr.heap.size]?=AI (AT #[Y Ns,Y Nu,J KW Gr KX,J Nv Nw Ny,J Nz yx NA,J NB NC ND,U O NF,U O NG,U O NH,U O NI,U O xV,J xW xX xY] 42 (0,0))/\W1.heap[w.heap.size+1]?=AI (AT #[J (AI ⟨b0,o0,be⟩) n c2,J d2 l2 q2] 27 (0,0))/\Below w.heap.size w W1):=⟨by rw[cM];exact Ih wr _,(Bx.block _ (BY.1 HR.out.1).1).trans HR.out.1,HR.out.2.trans (Bx.mono HR.out.2.size)⟩;have HXM:Hid (Sl w (J KW Gr KX) (t.ns.getD i cS).ms):=Tp;have HLM:Hid _:=XW;have HLS:Hid _:=XY;have ae3:Hid _:=XX;have ae4:Hid _:=qu;have MQ:Hid (i<n):=aW;clear hC hA Bx Tp T5 XW XY XX qu HR;go_upto_region 5 with fail
   rw[<- cM];clear cM xn xa0 xa1 XZ xa3 xa4 xa5 xa6 xa7 xa8 xa9 ae1 ae2;generalize wr.heap.size=gx at *;go_wp2_with fail;go_loopw [7] (λk w2=>∃j:Nat,j<=n/\k=U O j/\Hid (Below W1.heap.size W1 w2)) (λk _=>n-(intOf k).toNat)
   case atStart=>exact⟨0,II _,rfl,Ib _ _⟩
   case round=>
    obtain⟨k,hk,rfl,aV⟩:=hrel;have qW:Hid (wr.heap[gx]?=AI (AT #[Y Ns,Y Nu,J KW Gr KX,J Nv Nw Ny,J Nz yx NA,J NB NC ND,U O NF,U O NG,U O NH,U O NI,U O xV,J xW xX xY] 42 (0,0))/\wr.heap[w.heap.size+1]?=AI (AT #[J (AI ⟨b0,o0,be⟩) n c2,J d2 l2 q2] 27 (0,0))/\Below w.heap.size w wr):=⟨(aV.out.block _ (BY.1 iM.out.1).1).trans iM.out.1,(aV.out.block _ (BY.1 iM.out.2.1).1).trans iM.out.2.1,iM.out.2.2.trans (aV.out.mono iM.out.2.2.size)⟩;have xn:=ae qW.out.2.1 0;by_cases mW:k<n
    .have hd2:=decide_eq_true (p:=(k:Int)<(n:Int)) (by omega)
     have uT:(k:Int)<(n:Int):=by omega
     obtain⟨B,hB,hC⟩:=HAN.out k mW;obtain⟨yy,SX,NJ,LS,NK,SY,SZ,S5,P2,LU,P3,S6,S7,S8,S9,Ta,Tb,Tc,Cd,Ce,Cf,Cg,rfl⟩:=hB.letters;have cV:yy=(t.ns.getD k cS).name:=by
      obtain⟨_,_,_,_,_,e,_⟩:=hB;have:=congrArg (λa:Array Value=>a[0]?) e;simpa[Nk,dt] using this
     simp only[Nk] at hB hC;obtain⟨Tp,T5,_⟩:=hB.three;obtain⟨XW,XX⟩:=rowAt Tp;obtain⟨XY,qu⟩:=Sv.rowAt T5;have xb0:wr.cell? ⟨b0,o0+k*12,be⟩=AI (Y yy):=hC wr qW.out.2.2 0 (by omega);have xb1:wr.cell? ⟨b0,o0+k*12+1,be⟩=AI (Y SX):=hC wr qW.out.2.2 1 (by omega);have X0:wr.cell? ⟨b0,o0+k*12+2,be⟩=AI (J NJ LS NK):=hC wr qW.out.2.2 2 (by omega);have xb3:wr.cell? ⟨b0,o0+k*12+3,be⟩=AI (J SY SZ S5):=hC wr qW.out.2.2 3 (by omega);have xb4:wr.cell? ⟨b0,o0+k*12+4,be⟩=AI (J P2 LU P3):=hC wr qW.out.2.2 4 (by omega);have xb5:wr.cell? ⟨b0,o0+k*12+5,be⟩=AI (J S6 S7 S8):=hC wr qW.out.2.2 5 (by omega);have xb6:wr.cell? ⟨b0,o0+k*12+6,be⟩=AI (U O S9):=hC wr qW.out.2.2 6 (by omega);have xb7:wr.cell? ⟨b0,o0+k*12+7,be⟩=AI (U O Ta):=hC wr qW.out.2.2 7 (by omega);have xb8:wr.cell? ⟨b0,o0+k*12+8,be⟩=AI (U O Tb):=hC wr qW.out.2.2 8 (by omega);have xb9:wr.cell? ⟨b0,o0+k*12+9,be⟩=AI (U O Tc):=hC wr qW.out.2.2 9 (by omega);have ae6:wr.cell? ⟨b0,o0+k*12+10,be⟩=AI (U O Cd):=hC wr qW.out.2.2 10 (by omega);have ae7:wr.cell? ⟨b0,o0+k*12+11,be⟩=AI (J Ce Cf Cg):=hC wr qW.out.2.2 11 (by omega);obtain⟨W2,bF⟩:∃W2,W2=wr.alloc (AT #[Y yy,Y SX,J NJ LS NK,J SY SZ S5,J P2 LU P3,J S6 S7 S8,U O S9,U O Ta,U O Tb,U O Tc,U O Cd,J Ce Cf Cg] 42):=⟨_,rfl⟩;have Bx:Below wr.heap.size wr W2:=by rw[bF];exact(Ib _ _).alloc (Ic _) _
     have si:Hid (W2.heap[wr.heap.size]?=AI (AT #[Y yy,Y SX,J NJ LS NK,J SY SZ S5,J P2 LU P3,J S6 S7 S8,U O S9,U O Ta,U O Tb,U O Tc,U O Cd,J Ce Cf Cg] 42 (0,0))/\W2.heap[gx]?=AI (AT #[Y Ns,Y Nu,J KW Gr KX,J Nv Nw Ny,J Nz yx NA,J NB NC ND,U O NF,U O NG,U O NH,U O NI,U O xV,J xW xX xY] 42 (0,0))/\Below w.heap.size w W2/\Below W1.heap.size W1 W2):=⟨by rw[bF];exact Ih wr _,(Bx.block _ (BY.1 qW.out.1).1).trans qW.out.1,qW.out.2.2.trans (Bx.mono qW.out.2.2.size),aV.out.trans (Bx.mono aV.out.size)⟩;have TU:Hid _:=NW (HE.out k mW) (HE.out i MQ.out) (HTD.out i k MQ.out mW);have HPS:Hid (∀j,j<yx->((t.ns.getD i cS).sv.getD j Sv.dm).node=yy->∃q,q<LU/\(∀W v,Sv.Sl W v (t.ns.getD k cS).sv->Calls AS 14 #[v,Y ((t.ns.getD i cS).sv.getD j Sv.dm).node,Y ((t.ns.getD i cS).sv.getD j Sv.dm).bu] W λe w'=>e=By (U O (q:Int))/\w'=W)/\(((t.ns.getD i cS).sv.getD j Sv.dm).version<((t.ns.getD k cS).sv.getD q Sv.dm).version\/(t.ns.getD i cS).sv.getD j Sv.dm=(t.ns.getD k cS).sv.getD q Sv.dm)):=λj hj e=>by
      have h1:=HLS.out;obtain⟨q,hq,h2,h3⟩:=NV (HE.out k mW) (HTD.out i k MQ.out mW) (j:=j) (by omega) (e.trans cV);exact⟨q,by omega,h2,h3⟩
     rw[<- cV] at TU;have HYM:Hid (Sl w (J NJ LS NK) (t.ns.getD k cS).ms):=Tp;have HYS:Hid (Sv.Sl w (J P2 LU P3) (t.ns.getD k cS).sv):=T5;have V6:Hid _:=XW;have HKS:Hid _:=XY;have ae8:Hid _:=XX;have ae9:Hid _:=qu;have Gn:Hid (k<n):=mW;have h4a:yx<=40:=by
      have h1:=(Sv.af (Nd.parts (Nd.aU (HE.out i MQ.out)).1).sv).1;have h2:=HLS.out;omega
     clear hC hB Bx Tp T5 XW XY XX qu qW aV cV;generalize(t.ns.getD i cS).ms=LW at *;generalize(t.ns.getD i cS).sv=xsv at *;generalize(t.ns.getD k cS).ms=yms at *;generalize(t.ns.getD k cS).sv=ysv at *;go_upto_region 9 with fail
     rw[<- bF];clear bF xn xb0 xb1 X0 xb3 xb4 xb5 xb6 xb7 xb8 xb9 ae6 ae7;generalize wr.heap.size=gy at *;go_wp2_with fail;go_loopw [9] (λi w3=>∃j:Nat,j<=yx/\i=U O j/\Hid (Below W2.heap.size W2 w3)) (λi _=>yx-(intOf i).toNat)
     case atStart=>exact⟨0,II _,rfl,Ib _ _⟩
     case round=>
      obtain⟨j,hj,rfl,cj⟩:=hrel;have vj:Hid (wr.heap[gy]?=AI (AT #[Y yy,Y SX,J NJ LS NK,J SY SZ S5,J P2 LU P3,J S6 S7 S8,U O S9,U O Ta,U O Tb,U O Tc,U O Cd,J Ce Cf Cg] 42 (0,0))/\wr.heap[gx]?=AI (AT #[Y Ns,Y Nu,J KW Gr KX,J Nv Nw Ny,J Nz yx NA,J NB NC ND,U O NF,U O NG,U O NH,U O NI,U O xV,J xW xX xY] 42 (0,0))/\Below w.heap.size w wr):=⟨(cj.out.block _ (BY.1 si.out.1).1).trans si.out.1,(cj.out.block _ (BY.1 si.out.2.1).1).trans si.out.2.1,si.out.2.2.1.trans (cj.out.mono si.out.2.2.1.size)⟩;by_cases rT:j<yx
      .have hd3:=decide_eq_true (p:=(j:Int)<(yx:Int)) (by omega)
       have ML:(j:Int)<(yx:Int):=by omega
       have xs4:=ae vj.out.2.1 4;obtain⟨ga,oa,Mf,kL,X6,X7⟩:=ae4.out (by omega);subst Mf;obtain⟨c0,c1,c2,c3,c4,c5,c6,c7,c8⟩:=X7 j (X6 j rT);have sx:∀o,wr.cell? ⟨ga,o,be⟩=w.cell? ⟨ga,o,be⟩:=λo=>vj.out.2.2.cell (p:=⟨ga,o,be⟩) kL;have NX:=HPS.out j rT;clear X7 X6;generalize xsv.getD j Sv.dm=s at *;obtain⟨s0,s1,s2,s3,s4,s5,s6,s7,s8⟩:=s;simp only at NX c0 c1 c2 c3 c4 c5 c6 c7 c8;have z0:=(sx _).trans c0;have z1:=(sx _).trans c1;have z2:=(sx _).trans c2;have z3:=(sx _).trans c3;have z4:=(sx _).trans c4;have z5:=(sx _).trans c5;have z6:=(sx _).trans c6;have z7:=(sx _).trans c7;have z8:=(sx _).trans c8;clear sx c0 c1 c2 c3 c4 c5 c6 c7 c8;obtain⟨W3,ea⟩:∃W3,W3=wr.alloc (AT #[Y s0,Y s1,Y s2,Y s3,U O s4,U O s5,Ia s6,U O s7,Ia s8] 46):=⟨_,rfl⟩;have Bx:Below wr.heap.size wr W3:=by rw[ea];exact(Ib _ _).alloc (Ic _) _
       have ji:W3.heap[wr.heap.size]?=AI (AT #[Y s0,Y s1,Y s2,Y s3,U O s4,U O s5,Ia s6,U O s7,Ia s8] 46 (0,0)):=by rw[ea];exact Ih wr _
       have T6:=(Bx.block _ (BY.1 vj.out.1).1).trans vj.out.1;have lM:Hid (Below w.heap.size w W3):=vj.out.2.2.trans (Bx.mono vj.out.2.2.size);have eP:Hid (Below W2.heap.size W2 W3):=cj.out.trans (Bx.mono cj.out.size);clear Bx vj cj;go_upto_region 13 with fail
       rw[<- ea];clear ea xs4 z0 z1 z2 z3 z4 z5 z6 z7 z8;have z0:=ae ji 0;have z1:=ae ji 1;have z2:=ae ji 2;have z3:=ae ji 3;have z4:=ae ji 4;have z5:=ae ji 5;have z6:=ae ji 6;have z7:=ae ji 7;have z8:=ae ji 8;have v0:=ae T6 0;have v4:=ae T6 4;clear ji T6;generalize wr.heap.size=gs at *;have T7:Hid (j<yx):=rT;by_cases cV:s0=yy
       .obtain⟨q,hq,hAt,pC⟩:=NX cV
        clear NX;subst cV;obtain⟨gb,ob,hpb,kK,Pd,P4⟩:=ae9.out (by omega);have hSl:=HYS.out.below lM.out;subst hpb;obtain⟨c0,c1,c2,c3,c4,c5,c6,c7,c8⟩:=P4 q (Pd q hq);have sx:∀o,W3.cell? ⟨gb,o,be⟩=w.cell? ⟨gb,o,be⟩:=λo=>lM.out.cell (p:=⟨gb,o,be⟩) kK;have HC:=hAt W3 _ hSl;clear P4 Pd hSl hAt;generalize ysv.getD q Sv.dm=y at *;obtain⟨y0,y1,y2,y3,y4,y5,y6,y7,y8⟩:=y;simp only at pC c0 c1 c2 c3 c4 c5 c6 c7 c8;have x0:=(sx _).trans c0;have x1:=(sx _).trans c1;have x2:=(sx _).trans c2;have x3:=(sx _).trans c3;have x4:=(sx _).trans c4;have x5:=(sx _).trans c5;have x6:=(sx _).trans c6;have x7:=(sx _).trans c7;have x8:=(sx _).trans c8;clear sx c0 c1 c2 c3 c4 c5 c6 c7 c8;have aM:(s0.toList !=s0.toList)=false:=by simp
        have Sn:(s0.toList==s0.toList)=true:=by simp
        have hqi:(q:Int)<(LU:Int):=by omega
        have TX:decide ((q:Int)<0)=false:=decide_eq_false (by omega);have TW:¬ (q:Int)<0:=by omega
        go_wp2_with fail;refine HC.mono ?_;rintro e w4 ⟨rfl,GQ⟩;subst GQ;clear HC;have amg:Tryz.prog.eqGuardType Tryz.prog.depth 46=false:=by kernel_rfl
        by_cases hv:s7=y7
        .have hsy:(⟨s0,s1,s2,s3,s4,s5,s6,s7,s8⟩:Sv.aT)=⟨y0,y1,y2,y3,y4,y5,y6,y7,y8⟩:=by
          rcases pC with h1|h1
          .exfalso;omega
          .exact h1
         injection hsy with e0 e1 e2 e3 e4 e5 e6 e7 e8;subst e0 e1 e2 e3 e4 e5 e6 e8;clear pC e7;subst hv;have xM:=Sv.acK ⟨s0,s1,s2,s3,s4,s5,s6,s7,s8⟩ ⟨s0,s1,s2,s3,s4,s5,s6,s7,s8⟩;rw[(Sv.nv _ _).2 rfl] at xM;simp only[Bool.not_true] at xM;have hgt:decide (s7<s7)=false:=decide_eq_false (by omega);have heq:(s7==s7)=true:=by simp
         go_wp2_with fail;go_quiet (fail)
         go_wp2_with fail;go_roundw
         case rel=>exact⟨j+1,by have:=T7.out;omega,by go_num,I8 eP.out _⟩
         case measure=>simp[intOf];have:=T7.out;omega
        .have X8:s7<y7:=by
          rcases pC with h1|h1
          .exact h1
          .injection h1 with _ _ _ _ _ _ _ e7 _;exact absurd e7 hv
         have hgt:decide (y7<s7)=false:=decide_eq_false (by omega);have heq:(s7==y7)=false:=by simpa using hv
         clear pC hv X8;go_wp2_with fail;go_quiet (fail)
         go_wp2_with fail;go_roundw
         case rel=>exact⟨j+1,by have:=T7.out;omega,by go_num,I8 eP.out _⟩
         case measure=>simp[intOf];have:=T7.out;omega
       .have aM:=(pc s0 yy).2 cV
        have Sn:(s0.toList==yy.toList)=false:=by simpa[bne] using aM
        clear NX cV;go_wp2_with fail;go_roundw
        case rel=>exact⟨j+1,by have:=T7.out;omega,by go_num,eP⟩
        case measure=>simp[intOf];have:=T7.out;omega
      .have hd3:=decide_eq_false (p:=(j:Int)<(yx:Int)) (by omega)
       have xs4:=ae vj.out.2.1 4;obtain⟨q,hq,hMq,hMr⟩:=TU.out;have XZ:=ae vj.out.2.1 2;have xb0:=ae vj.out.1 0;have X0:=ae vj.out.1 2;have lM:Hid (Below w.heap.size w wr):=vj.out.2.2;have eP:Hid (Below W1.heap.size W1 wr):=si.out.2.2.2.trans (cj.out.mono si.out.2.2.2.size);have A2:=Is XZ;have B0:∀d os,(Io (Iz wr d) os).cell? ⟨gy,0,be⟩=AI (Y yy):=Is xb0;have B2:=Is X0;have C0:∀d os,Calls AS 15 #[J NJ LS NK,Y yy] (Io (Iz wr d) os) λe gD=>e=By (U O (q:Int))/\∃p:Regrown,gD=Io (Iz wr p.d) p.os:=λd os=>Calls.regrown_of (hMq _ _ (HYM.out.below (lM.out.trans ((QS wr d os).mono lM.out.size))));have qG:∀r:Int,To LW yy r->(r = -1\/∃r':Nat,r=(r':Int)/\r'<LW.length/\(LW.getD r' dm).aI<=(yms.getD q dm).aI)->Hid (To LW yy r/\(r = -1\/∃r':Nat,r=(r':Int)/\r'<LW.length/\(LW.getD r' dm).aI<=(yms.getD q dm).aI)):=λr h1 h2=>⟨h1,h2⟩;obtain⟨r,Rq⟩:∃r:Int,Hid (To LW yy r/\(r = -1\/∃r':Nat,r=(r':Int)/\r'<LW.length/\(LW.getD r' dm).aI<=(yms.getD q dm).aI)):=by
        rcases hMr with⟨r,h1,h2,h3⟩|h1
        .exact⟨r,h2,.inr ⟨r,rfl,h1,h3⟩⟩
        .exact⟨-1,h1,.inl rfl⟩
       have C1:∀d os,Calls AS 15 #[J KW Gr KX,Y yy] (Io (Iz wr d) os) λe gD=>e=By (U O r)/\∃p:Regrown,gD=Io (Iz wr p.d) p.os:=λd os=>Calls.regrown_of (Rq.out.1 _ _ (HXM.out.below (lM.out.trans ((QS wr d os).mono lM.out.size))));clear qG hMq hMr;go_upto_region 17 with fail
       refine wp_region_quiet_below (by kernel_rfl) (by kernel_rfl) ?_;repeat(quiet_step (first|(with_reducible exact C0 _ _)|(with_reducible exact C1 _ _)))
       refine bN λdq kj ed=>?_;clear C0 C1 A2 B0 B2 XZ xb0 X0 xs4;have gE:Hid _:=eP.out.trans (ed.out.mono eP.out.size);have nE:Hid _:=lM.out.trans (ed.out.mono lM.out.size);have gI:=(ed.out.block _ (BY.1 vj.out.2.1).1).trans vj.out.2.1;have T6:=(ed.out.block _ (BY.1 vj.out.1).1).trans vj.out.1;generalize Io (Iz wr dq) kj=W5 at *;have XZ:=ae gI 2;have X0:=ae T6 2;clear gI T6 ed vj eP lM;have TX:decide ((q:Int)<0)=false:=decide_eq_false (by omega);rcases Rq.out.2 with rfl|⟨r',rfl,hr',hle⟩
       .have T8:decide ((0:Int) <= -1)=false:=by decide
        go_wp2_with fail;go_quiet (fail)
        go_wp2_with fail;go_roundw
        case rel=>exact⟨k+1,by have:=Gn.out;omega,by go_num,I8 gE.out _⟩
        case measure=>simp[intOf];have:=Gn.out;omega
       .have T8:decide ((0:Int)<=(r':Int))=true:=decide_eq_true (by omega)
        have hmx:=HLM.out;have hmy:=V6.out;obtain⟨ga,oa,Mf,kL,X6,X7⟩:=ae3.out (by omega);obtain⟨gb,ob,hpb,kK,Pd,P4⟩:=ae8.out (by omega);subst Mf hpb;obtain⟨_,_,c2',_,_⟩:=X7 r' (X6 r' (by omega));obtain⟨_,_,e2',_,_⟩:=P4 q (Pd q (by omega));have z2:=(nE.out.cell (p:=⟨ga,_,be⟩) kL).trans c2';have y2:=(nE.out.cell (p:=⟨gb,_,be⟩) kK).trans e2';have hri:(r':Int)<(Gr:Int):=by omega
        have hqi:(q:Int)<(LS:Int):=by omega
        have mj:¬ (r':Int)<0:=by omega
        have TW:¬ (q:Int)<0:=by omega
        clear X7 P4 X6 Pd c2' e2' hmx hmy;generalize(LW.getD r' dm).aI=lx at *;generalize(yms.getD q dm).aI=ly at *;have hgt:decide (ly<lx)=false:=decide_eq_false (by omega);go_wp2_with fail;go_quiet (fail)
        go_wp2_with fail;go_roundw
        case rel=>exact⟨k+1,by have:=Gn.out;omega,by go_num,I8 gE.out _⟩
        case measure=>simp[intOf];have:=Gn.out;omega
    .have hd2:=decide_eq_false (p:=(k:Int)<(n:Int)) (by omega)
     have HRN:Hid (wr.heap[w.heap.size+1]?=AI (AT #[J (AI ⟨b0,o0,be⟩) n c2,J d2 l2 q2] 27 (0,0))/\Below w.heap.size w wr):=qW.out.2;clear qW aV;go_wp2_with fail;go_roundw
     case rel=>exact⟨i+1,by have:=MQ.out;omega,by go_num,HRN⟩
     case measure=>simp[intOf];have:=MQ.out;omega
  .have hd:=decide_eq_false (p:=(i:Int)<(n:Int)) (by omega)
   have lM:Hid _:=HR.out.2;clear HR fS;go_wp2_with fail;go_ret;exact⟨rfl,lM.out⟩
end Go.Proofs.YtfidhgjmifendaaGreatDoor
