import Derived.Test.YtfidhgjmifendaaGreatDoornt5
set_option maxHeartbeats 1600000
set_option maxRecDepth 100000
open Go.Value renaming agg→Ij,string→Y,int→U,slice→J,bool→Ia,func→IQ,tuple→Ik
open Go.IntKind renaming i64→O,wrap_i64→IY
open Option renaming some→AI,none→be
open Go renaming info_parts→I6,maxLen→Il,redrawn→Iz,cell_regrown→Is,Regrown→JW,wp_region_quiet_below→IJ,below_drewN→I8
open Go.Proofs.Tryz renaming prog→AS,underlying40→J6,underlying3→ID
open Go.Obj renaming cells→AT
open Go.Ending renaming returned→By
open Go.Act renaming eval→M2,put→Oo
open List renaming length_take→IA,append_assoc→Im,getD_cons_zero→I2,getD_cons_succ→JA
open Array renaming length_toList→IV
open Nat renaming zero_add→IC,le_refl→Ic,not_lt_zero→Jq,zero_le→II
open Go.RowKit.Below renaming refl→Ib
open Go.Sort renaming grow→Io
open Go.Calls renaming regrown_of→I3
namespace Go.Proofs.YtfidhgjmifendaaGreatDoor
namespace Wh
open Go.RowKit
theorem Tryz.nt:(Tryz.prog.info? 116).map (λi=>(i.zero,i.size,i.bytes))=AI (AI (Ij #[Y ⟨#[]⟩,U O 0,U O 0,U O 0,U O 0,U O 0]),6,56):=by kernel_rfl
theorem DE:(Tryz.prog.info? 116).map (·.size)=AI 6:=by
 obtain⟨i,hi,h1,h2,h3⟩:=I6 Tryz.nt;rw[hi];simp[h2]
theorem sizeOf116(w:World):(Go.sizeOf 116).run AS w=.ok 6 w:=by
 obtain⟨i,hi,h1,h2,h3⟩:=I6 Tryz.nt;simp[Go.sizeOf,typeInfo,hi,h2]
theorem eJ(w:World)(g vb o lb cb:Nat)(cur vs:Array Value)(hg:w.heap[g]?=AI (AT cur 116 (0,0)))(hv:w.heap[vb]?=AI (AT vs 116 (0,0)))(aM:vb≠g)(hk:cur.size≠0) : (callFunc 177 #[J (AI ⟨vb,0,be⟩) 1 1,J (AI ⟨g,o,be⟩) lb cb]).run AS w=.ok (.value (Ia false)) w:=by
 rw[run_callFunc_extern Tryz.func177 (by kernel_rfl) (by kernel_rfl) (by kernel_rfl) (e:=Extern.SlicesOverlaps.overlaps #[40,40] #[4]) (by kernel_rfl),
  Lib.run_overlaps_apart w 40 4 116 J6 6 sizeOf116 ⟨vb,0,be⟩ ⟨g,o,be⟩ 1 1 lb cb aM 116 116 vs.size cur.size (by simp[World.shape?,hv]) (by simp[World.shape?,hg]) hk (by simp[World.frozen?,hv]) (by simp[World.frozen?,hv])]
 rfl
theorem fh(g n c i vb:Nat)(cur:Array Value)(vs:List Value)(w:World)(hg:w.heap[g]?=AI (AT cur 116 (0,0)))(b9:cur.size=c*6)(hi:i<n)(dx:n+1<=c)(A9:c<=9223372036854775807)(pt:vb≠g)(hv:w.heap[vb]?=AI (AT vs.toArray 116 (0,0)))(lj:vs.length=6)(lI:∀v∈cur.toList.take (n*6),v.oneCell'=true)(mM:∀v∈vs,v.oneCell'=true) :
 aF 113 #[J (AI ⟨g,0,be⟩) n c,U O i,J (AI ⟨vb,0,be⟩) 1 1] w λe w'=>e=By (J (AI ⟨g,0,be⟩) (n+1) c) /\
  ∃dR:Array Value,w'.heap[g]?=AI (AT dR 116 (0,0))/\dR.size=c*6/\dR.toList.take ((n+1)*6)=cur.toList.take (i*6)++vs++(cur.toList.take (n*6)).drop (i*6)/\w.grownBy w' (AI g):=by
 have RI:=λo lb cb=>eJ w g vb o lb cb cur vs.toArray hg hv pt (by omega);have nF:¬ ((i:Int)=(n:Int)):=by omega
 have aJ:¬ (c=i+1):=by omega
 have eO:¬ (c=i):=by omega
 have bV:(i:Int)<=(n:Int)+1:=by omega
 obtain⟨W1,W2,ot,sX,HF⟩:=po J6 DE hg b9 hi dx pt hv lj lI mM;have HF:Hid _:=HF;clear lI mM hg hv;have Mj:IntKind.i64.wrap ((i:Int)+1)=(i:Int)+1:=by rw[IY];omega
 have aB:(0:Int)<=(i:Int)+1:=by omega
 have nO:i<=n:=by omega
 have DZ:((i:Int)+1).toNat=i+1:=by omega
 go_enter Tryz.func113,Tryz.ntmps113;go_wp2_with (simp only[RI]);go_region_law (refine du rfl _ _ 40 40 rfl _ _ (by simp[M2,Oo]) (by simp[M2,Oo]) (ot _ _ _) ?_)
 go_wp2_with fail;go_ret;exact⟨rfl,HF.out⟩
theorem fi(g n c i vb:Nat)(cur:Array Value)(vs:List Value)(w:World)(hg:w.heap[g]?=AI (AT cur 116 (0,0)))(b9:cur.size=c*6)(hi:i<n)(fG:n<=c)(dx:c<n+1)(A9:n<=1000)(hv:w.heap[vb]?=AI (AT vs.toArray 116 (0,0)))(lj:vs.length=6)(lI:∀v∈cur.toList.take (n*6),v.oneCell'=true)(mM:∀v∈vs,v.oneCell'=true) :
 aF 113 #[J (AI ⟨g,0,be⟩) n c,U O i,J (AI ⟨vb,0,be⟩) 1 1] w λe w'=>∃G,e=By (J (AI ⟨w.heap.size,0,be⟩) (n+1) G)/\n+1<=G/\G<=Il /\
  ∃dR:Array Value,w'.heap[w.heap.size]?=AI (AT dR 116 (0,0))/\dR.size=G*6/\dR.toList.take ((n+1)*6)=cur.toList.take (i*6)++vs++(cur.toList.take (n*6)).drop (i*6)/\w.grownBy w' be:=by
 obtain⟨i0,fL,dh,gW,gG⟩:=I6 Tryz.nt;have Ba:c=n:=by omega
 subst Ba;have nF:¬ ((i:Int)=(c:Int)):=by omega
 have qi:(c:Int)<(c:Int)+1:=by omega
 have sj:(c:Int)+1-(i:Int)=((c+1-i:Nat):Int):=by omega
 have Bb:i+(c+1-i)=c+1:=by omega
 have hold:(Builtin.firstCells i0.size i (J (AI ⟨g,0,be⟩) i c)).run AS w.drew=.ok (cur.toList.take (i*6)).toArray w.drew:=by
  rw[gW];exact run_firstCells_some w.drew 6 i ⟨g,0,be⟩ i c (cur.toList.take (i*6)) (by rw[IA,IV];omega) (λj v hj=>by
   have e:w.drew.cell? ((⟨g,0,be⟩:Addr).add j)=cur[j]?:=by rw[Addr.add_lit,IC];exact ae hg _
   rw[e];rw[List.getElem?_take] at hj;split at hj
   .simpa using hj
   .cases hj)
 have wY:∀ty,∃G mr,c+1<=G/\G<=Il/\mr.size=G*6/\mr.toList.take (i*6)=cur.toList.take (i*6)/\(Builtin.append_ #[40,3] ty #[J (AI ⟨g,0,be⟩) i c,U O ((c:Int)+1-(i:Int))]).run AS w =
  .ok (J (AI ⟨w.heap.size,0,be⟩) (c+1) G) (w.drew.alloc (AT mr 116)):=λty=>by
  have h:=Lib.run_append_grow_zeros w 40 3 ty 116 i0 _ O O J6 ID fL dh (AI ⟨g,0,be⟩) i c (cur.toList.take (i*6)) hold (c+1-i) (by omega) (by omega) (by omega) (by omega) (by rw[gG];omega) (by rw[gG,Bb];exact growslice_fits dx (by omega));rw[Bb] at h;rw[sj];have h1:=grownCap_ge w (c+1) c 116;refine⟨_,_,h1,grownCap_le_maxLen w (c+1) c 116 (by unfold Il;omega),?_,?_,h⟩
  .simp only[Array.size_append,List.size_toArray,size_zeroCells,IA,IV,b9,Value.cells]
   simp;omega
  .simp only[Array.toList_append,Im]
   exact List.take_left' (by simp only[IA,IV,b9];omega)
 obtain⟨G,mr,zi,wZ,Au,DY,wY⟩:=wY 40;have RJ:G<=9223372036854775807:=by unfold Il at wZ;omega
 obtain⟨W2,W3,ot,sX,HF⟩:=pA J6 DE hg b9 hi hv lj lI mM zi Au DY;obtain⟨W1,cM⟩:∃W1,W1=(w.alloc (AT mr 116)).drew:=⟨_,rfl⟩;have G9:w.drew.alloc (AT mr 116)=W1:=by rw[cM];rfl
 rw[G9] at wY;rw[<- cM] at ot;have HF:Hid _:=HF;have Mj:IntKind.i64.wrap ((i:Int)+1)=(i:Int)+1:=by rw[IY];omega
 have aB:(0:Int)<=(i:Int)+1:=by omega
 have nO:i<=c:=by omega
 have DZ:((i:Int)+1).toNat=i+1:=by omega
 have hGi:¬ (G=i):=by omega
 have RM:¬ (G=i+1):=by omega
 have hci:¬ (c=i):=by omega
 clear cM lI mM G9 Au DY sj Bb hold hg hv fL dh gW gG;go_enter Tryz.func113,Tryz.ntmps113;go_wp2_with (at_builtin;refine Lib.wpList_append_run _ rfl _ _ _ _ rfl _ _ rfl rfl _ _ wY ?_);go_region_law (refine du rfl _ _ 40 40 rfl _ _ (by simp[M2,Oo]) (by simp[M2,Oo]) (sX _ _ _) ?_)
 go_wp2_with fail;go_ret;exact⟨G,rfl,zi,wZ,HF.out⟩
theorem fY(base n vb:Nat)(v:Value)(xs vs:List Value)(w:World)(hown:w.ownsRow base 116 6 v n xs)(hn:n<=1000)(hbase:base<=w.heap.size)(hv:w.heap[vb]?=AI (AT vs.toArray 116 (0,0)))(lj:vs.length=6)(mM:∀v∈vs,v.oneCell'=true) :
 aF 113 #[v,U O n,J (AI ⟨vb,0,be⟩) 1 1] w λe w'=>∃v',e=By v'/\w'.ownsRow base 116 6 v' (n+1) (xs++vs)/\w.grownBy w' v.ownBlock:=by
 obtain⟨i0,fL,dh,gW,gG⟩:=I6 Tryz.nt;have hnews:∀j u,vs[j]?=AI u->w.cell? ((⟨vb,0,be⟩:Addr).add j)=AI u:=λj v hj=>by rw[Addr.add_lit,ae hv];simpa using hj
 have HO:Hid (w.ownsRow base 116 6 v n xs):=hown;rcases hown.2 with⟨rfl,rfl⟩|⟨g,c,cur,rfl,_,_,fG,dO,_,_⟩;rotate_left;unfold Il at dO;by_cases Ba:c=n;subst Ba;all_goals
  clear hown hv;go_enter Tryz.func113,Tryz.ntmps113;go_wp2_with (at_builtin;refine wpList_append_own _ rfl _ _ 40 rfl base 116 i0 _ 6 56 J6 fL dh gW gG rfl (by omega) _ _ xs rfl HO.out ⟨vb,0,be⟩ 1 1 vs rfl (by omega) hnews mM (by unfold Il;omega) (by omega) hbase ?_);intro v' w' r1 r2 r3;go_wp2_with fail;go_ret;exact⟨v',rfl,r1,r2⟩
theorem fj(base i vb:Nat)(v:Value)(ms:List bE)(m:bE)(w:World)(hown:Own base w v ms)(hi:i<=ms.length)(hn:ms.length<=1000)(hbase:base<=w.heap.size)(hv:w.heap[vb]?=AI (AT m.cs.toArray 116 (0,0)))(aM:v.ownBlock≠AI vb) :
 aF 113 #[v,U O i,J (AI ⟨vb,0,be⟩) 1 1] w λe w'=>∃v',e=By v'/\Own base w' v' (ms.take i++m::ms.drop i)/\w.grownBy w' v.ownBlock:=by
 have hlen:(ms.take i++m::ms.drop i).length=ms.length+1:=by simp;omega
 have GV:fl (ms.take i++m::ms.drop i)=(fl ms).take (i*6)++m.cs++(fl ms).drop (i*6):=by rw[cG,aZ,eY,eZ,Im]
 by_cases nO:i=ms.length
 .subst nO
  refine(fY base ms.length vb v (fl ms) m.cs w hown hn hbase hv rfl (df m)).mono ?_;rintro e w' ⟨v',rfl,h1,h2⟩;refine⟨v',rfl,?_,h2⟩;have e1:ms.take ms.length++m::ms.drop ms.length=ms++[m]:=by simp
  have e2:fl (ms++[m])=fl ms++m.cs:=by rw[cG,aZ];simp[fl]
  rw[e1];show w'.ownsRow base 116 6 v' (ms++[m]).length (fl (ms++[m]));rw[e2,show(ms++[m]).length=ms.length+1 by simp];exact h1
 .rcases hown.2 with⟨_,h0⟩|⟨g,c,cur,rfl,ev,hg,fG,dO,b9,bf⟩
  .omega
  .have pt:vb≠g:=λe=>aM (by simp[Value.ownBlock,e])
   have lI:∀v∈cur.toList.take (ms.length*6),v.oneCell'=true:=by rw[bf];exact gJ ms
   have Mk:cur.toList.take (i*6)=(fl ms).take (i*6):=by rw[<- bf,List.take_take];congr 1;omega
   have key:∀l:List Value,l=cur.toList.take (i*6)++m.cs++(cur.toList.take (ms.length*6)).drop (i*6)->l=fl (ms.take i++m::ms.drop i):=λl hl=>by rw[hl,GV,bf,Mk]
   by_cases dx:ms.length+1<=c
   .refine(fh g ms.length c i vb cur m.cs w hg b9 (by omega) dx (by unfold Il at dO;omega) pt hv rfl lI (df m)).mono ?_
    rintro e w' ⟨rfl,dR,h1,h2,h3,h4⟩;refine⟨_,rfl,?_,h4⟩;rw[<- hlen];exact ib ev h1 h2 (by omega) dO (key _ (by rw[hlen];exact h3))
   .refine(fi g ms.length c i vb cur m.cs w hg b9 (by omega) fG (by omega) hn hv rfl lI (df m)).mono ?_
    rintro e w' ⟨G,rfl,zi,wZ,dR,h1,h2,h3,h4⟩;refine⟨_,rfl,?_,ni h4 _⟩;rw[<- hlen];exact ib hbase h1 h2 (by omega) wZ (key _ (by rw[hlen];exact h3))
end Wh
end Go.Proofs.YtfidhgjmifendaaGreatDoor
namespace Go.Proofs.YtfidhgjmifendaaGreatDoor
open Go.RowKit
structure Pl where
 x:Int
 y:Int
 z:Int
 h:Int
 s:Int
def cR(n lo hi:Int):Int:=min (max n lo) hi
def LR(p:Pl):Pl:=⟨cR p.x (-10000000) 10000000,cR p.y (-10000000) 10000000,cR p.z (-10000000) 10000000,cR p.h 0 1000000,cR p.s 0 1000⟩
structure rB(p:Pl):Prop where
 x0 : -10000000<=p.x
 x1:p.x<=10000000
 y0 : -10000000<=p.y
 y1:p.y<=10000000
 z0 : -10000000<=p.z
 z1:p.z<=10000000
 h0:0<=p.h
 h1:p.h<=1000000
 s0:0<=p.s
 s1:p.s<=1000
def qf(a b:Pl):Bool:=a.x==b.x&&(a.y==b.y&&(a.z==b.z&&(a.h==b.h&&a.s==b.s)))
def dZ(p:Pl):Int:=if qf p (LR p)=true then 0 else 3
theorem FT(a b:Pl):qf a b=true↔a=b:=by
 obtain⟨a1,a2,a3,a4,a5⟩:=a;obtain⟨b1,b2,b3,b4,b5⟩:=b;simp[qf]
theorem kZ{n lo hi:Int}(h:lo<=hi):n=cR n lo hi↔lo<=n/\n<=hi:=by unfold cR;omega
theorem eW(n lo hi:Int)(h:lo<=hi):lo<=cR n lo hi/\cR n lo hi<=hi:=by unfold cR;omega
theorem nB(p:Pl):dZ p=0↔rB p:=by
 obtain⟨x,y,z,h,s⟩:=p;have e:dZ ⟨x,y,z,h,s⟩=0↔qf ⟨x,y,z,h,s⟩ (LR ⟨x,y,z,h,s⟩)=true:=by unfold dZ;split<;>simp[*]
 rw[e,FT];simp only[LR,Pl.mk.injEq];rw[kZ (by omega),kZ (by omega),kZ (by omega),kZ (by omega),kZ (by omega)];exact⟨λ⟨⟨a,b⟩,⟨c,d⟩,⟨e,f⟩,⟨g,h⟩,⟨i,j⟩⟩=>⟨a,b,c,d,e,f,g,h,i,j⟩,λ⟨a,b,c,d,e,f,g,h,i,j⟩=>⟨⟨a,b⟩,⟨c,d⟩,⟨e,f⟩,⟨g,h⟩,⟨i,j⟩⟩⟩
theorem Du(p:Pl):dZ p=0\/dZ p=3:=by unfold dZ;split<;>simp
theorem Tk(p:Pl):rB (LR p):=
 ⟨(eW _ _ _ (by omega)).1,(eW _ _ _ (by omega)).2,(eW _ _ _ (by omega)).1,(eW _ _ _ (by omega)).2,(eW _ _ _ (by omega)).1,(eW _ _ _ (by omega)).2,(eW _ _ _ (by omega)).1,(eW _ _ _ (by omega)).2,(eW _ _ _ (by omega)).1,(eW _ _ _ (by omega)).2⟩
theorem FU(n lo hi:Int)(w:World) :
 Calls AS 206 #[U O n,U O lo,U O hi] w λe w'=>e=By (U O (cR n lo hi))/\w'=w:=by
 go_enter Tryz.func206,Tryz.ntmps206;go_wp2;all_goals
  go_ret;exact⟨xP (by unfold cR;omega),rfl⟩
theorem rE(x y z h s:Int)(w:World) :
 Calls AS 161 #[Ij #[U O x,U O y,U O z,U O h,U O s]] w λe w'=>e=By (Ij #[U O (cR x (-10000000) 10000000),U O (cR y (-10000000) 10000000),U O (cR z (-10000000) 10000000),U O (cR h 0 1000000),U O (cR s 0 1000)])/\Below w.heap.size w w':=by
 go_enter Tryz.func161,Tryz.ntmps161;go_wp2_with fail;go_region_held3 (λw'=>w'.cell? ⟨w.heap.size,0,be⟩=AI (U O x)/\w'.cell? ⟨w.heap.size,1,be⟩=AI (U O y)/\w'.cell? ⟨w.heap.size,2,be⟩=AI (U O z)/\w'.cell? ⟨w.heap.size,3,be⟩=AI (U O h)/\w'.cell? ⟨w.heap.size,4,be⟩=AI (U O s)) (go_keep) (first|(go_at_call 206;refine(FU _ _ _ _).mono ?_;rintro e w' ⟨rfl,rfl⟩))
 go_wp2_with fail;exact bodyPost_ret (v:=Ij #[U O (cR x (-10000000) 10000000),U O (cR y (-10000000) 10000000),U O (cR z (-10000000) 10000000),U O (cR h 0 1000000),U O (cR s 0 1000)]) (by simp[results,Tryz.results161,go_sem]) rfl ⟨rfl,(((Ib _ _).alloc (Ic _) _).alloc (by simp) _).drew⟩
theorem TB(a b:Pl)(w:World):(Op.equalIn 10000 39 (Ij #[U O a.x,U O a.y,U O a.z,U O a.h,U O a.s]) (Ij #[U O b.x,U O b.y,U O b.z,U O b.h,U O b.s])).run AS w=.ok (qf a b) w:=by
 obtain⟨a1,a2,a3,a4,a5⟩:=a;obtain⟨b1,b2,b3,b4,b5⟩:=b;have u3:=run_underlying ID;have a3':=Tryz.isAgg3;have z3:=Tryz.sizeOf3;have hS:Tryz.prog.underlying 39=AI (.struct (Tryz.prog.fieldsOf 39)):=by kernel_rfl
 have hp:Tryz.prog.stoodInHeld 39=false:=by kernel_rfl
 rw[show(10000:Nat)=9999+1 from rfl,run_equalIn_agg w 9999 39 _ _ hS hp];simp only[Program.fieldsOf,Tryz.underlying39];go_simp;unfold qf;by_cases h1:a1=b1<;>by_cases h2:a2=b2<;>by_cases h3:a3=b3<;>by_cases h4:a4=b4<;>by_cases h5:a5=b5<;>simp[h1,h2,h3,h4,h5]
theorem aaA(a b:Pl)(w:World):Sem.run AS (binOp .neq 39 (Ij #[U O a.x,U O a.y,U O a.z,U O a.h,U O a.s]) (Ij #[U O b.x,U O b.y,U O b.z,U O b.h,U O b.s])) w=.ok (Ia (!qf a b)) w:=by
 rw[run_neq_struct,TB];rfl
theorem lJ(p:Pl)(w:World) :
 Calls AS 101 #[Ij #[U O p.x,U O p.y,U O p.z,U O p.h,U O p.s]] w λe w'=>e=By (U O (dZ p))/\Below w.heap.size w w':=by
 have xM:=aaA p (LR p);have HC:∀q,qf p (LR p)=q->Hid (dZ p=bif q then 0 else 3):=λq hq=>(show dZ p=_ by unfold dZ;cases q<;>simp[hq]);generalize yZ:qf p (LR p)=q at xM;have HD:=HC q yZ;clear yZ HC;generalize dZ p=cp at *;obtain⟨x,y,z,h,s⟩:=p;simp only[LR] at xM;have hgP:Tryz.prog.eqGuardType Tryz.prog.depth 39=false:=by kernel_rfl
 generalize hW:w.alloc (AT #[U O x,U O y,U O z,U O h,U O s] 39)=W at *;have HW:Hid (Below w.heap.size w W):=by rw[<- hW];exact(Ib _ _).alloc (Ic _) _
 have E0:∀d os,(Io (Iz W d) os).cell? ⟨w.heap.size,0,be⟩=AI (U O x):=Is (by rw[<- hW];simp);have E1:∀d os,(Io (Iz W d) os).cell? ⟨w.heap.size,1,be⟩=AI (U O y):=Is (by rw[<- hW];simp);have E2:∀d os,(Io (Iz W d) os).cell? ⟨w.heap.size,2,be⟩=AI (U O z):=Is (by rw[<- hW];simp);have E3:∀d os,(Io (Iz W d) os).cell? ⟨w.heap.size,3,be⟩=AI (U O h):=Is (by rw[<- hW];simp);have E4:∀d os,(Io (Iz W d) os).cell? ⟨w.heap.size,4,be⟩=AI (U O s):=Is (by rw[<- hW];simp);have cN:∀d os,Calls AS 161 #[Ij #[U O x,U O y,U O z,U O h,U O s]] (Io (Iz W d) os) λe gD=>e=By (Ij #[U O (cR x (-10000000) 10000000),U O (cR y (-10000000) 10000000),U O (cR z (-10000000) 10000000),U O (cR h 0 1000000),U O (cR s 0 1000)])/\∃p:JW,gD=Io (Iz W p.d) p.os:=λd os=>
  I3 ((rE _ _ _ _ _ _).mono (by rintro e w' ⟨rfl,hb⟩;exact⟨rfl,hb⟩))
 go_enter Tryz.func101,Tryz.ntmps101;go_wp2_with fail;cases q
 all_goals
  simp only[Bool.not_true,Bool.not_false] at xM;refine IJ (by kernel_rfl) (by kernel_rfl) ?_;repeat(quiet_step (exact cN _ _))
  refine bN λdq kj ed=>?_;clear cN E0 E1 E2 E3 E4;go_wp2_with fail;go_ret;exact⟨xP (by rw[HD.out];simp),HW.out.trans (ed.out.mono HW.out.size)⟩
end Go.Proofs.YtfidhgjmifendaaGreatDoor
namespace Go.Proofs.YtfidhgjmifendaaGreatDoor
namespace Wh
open Go.RowKit
def ord(a b:bE):Int:=bO a.node b.node
theorem keyed:RL.Keyed ord:=RL.jD bE.node
def bP(_ _:bE):Bool:=true
abbrev bn(ms:List bE):Prop:=RL.bn ord ms
abbrev aP(ms:List bE)(m:bE):List bE:=RL.fJ ord bP ms m
abbrev av(a b:List bE):List bE:=RL.join ord bP a b
abbrev At(ms:List bE)(t:bE)(p:Nat)(f:Bool):Prop:=RL.At ord dm ms t p f
abbrev aL(ms:List bE):Bool:=RL.aL ord ms
theorem dP{ms:List bE}(h:bn ms)(t:bE):∀i j,i<=j->j<ms.length->ord (ms.getD j dm) t<0->ord (ms.getD i dm) t<0:=RL.dP ord dm keyed h t
theorem fp(ms:List bE)(h:∀j,j+1<ms.length->ord (ms.getD j dm) (ms.getD (j+1) dm)<0):aL ms=true:=RL.gq ord dm ms h
theorem fq(ms:List bE)(h:aL ms=true):∀j,j+1<ms.length->ord (ms.getD j dm) (ms.getD (j+1) dm)<0:=RL.ia ord dm ms h
theorem jI(ms:List bE)(hr:bn ms)(t:bE):∃p f,At ms t p f:=RL.jI ord dm keyed ms hr t
theorem ey{ms:List bE}{t:bE}{p q:Nat}{f e:Bool}(h:At ms t p f)(k:At ms t q e):p=q/\f=e:=RL.ey ord dm h k
theorem dd(ms:List bE)(m:bE)(p:Nat)(f:Bool)(h:At ms m p f) :
 aP ms m=if f=true then(if bP m (ms.getD p dm)=true then ms.set p m else ms) else ms.take p++m::ms.drop p:=RL.oR ord bP dm ms m p f h
theorem ec(ms:List bE)(m x:bE)(h:x∈aP ms m):x=m\/x∈ms:=RL.oS ord bP ms m x h
theorem iv(ms:List bE)(m:bE)(h:bn ms):bn (aP ms m):=RL.nj ord bP keyed ms m h
theorem kT(ms:List bE)(m:bE):ms.length<=(aP ms m).length/\(aP ms m).length<=ms.length+1:=RL.sC ord bP ms m
theorem dE(b a:List bE)(h:bn a):bn (av a b):=RL.kM ord bP keyed b a h
theorem di(b a:List bE):(av a b).length<=a.length+b.length:=RL.oT ord bP b a
theorem dS(b a:List bE)(x:bE)(h:x∈av a b):x∈a\/x∈b:=RL.oU ord bP b a x h
theorem gd(a b:List bE)(j:Nat)(hj:j<b.length):av a (b.take (j+1))=aP (av a (b.take j)) (b.getD j dm):=RL.ql ord bP dm a b j hj
theorem iq(b:List bE)(h:bn b):av [] b=b:=RL.join_nil ord bP b h
theorem pL{ms:List bE}{m:bE}(h:∀m∈ms,m.ok)(hm:m.ok):∀x∈aP ms m,x.ok:=by
 intro x hx;rcases ec ms m x hx with rfl|hx
 .exact hm
 .exact h x hx
theorem iI(b a:List bE)(ha:∀m∈a,m.ok)(hb:∀m∈b,m.ok):∀x∈av a b,x.ok:=by
 intro x hx;rcases dS b a x hx with h|h
 .exact ha x h
 .exact hb x h
def bE.e(m:bE):Int:=if bb m.node=true then dZ ⟨m.x,m.y,m.z,m.h,m.s⟩ else 1
def aR:List bE->Int
 |[]=>0
 |m::r=>if m.e=0 then aR r else m.e
theorem cE:∀(ms:List bE),(∀j,j<ms.length->(ms.getD j dm).e=0)->aR ms=0
 |[],_=>rfl
 |m::r,h=>by
  have h0:=h 0 (by simp);simp only[I2] at h0;rw[aR,if_pos h0];exact cE r λj hj=>by have:=h (j+1) (by simpa using hj);simpa using this
theorem dU:∀(ms:List bE) (k:Nat),k<ms.length->(∀j,j<k->(ms.getD j dm).e=0)->(ms.getD k dm).e≠0->aR ms=(ms.getD k dm).e
 |[],k,h,_,_=>by simp at h
 |m::r,0,_,_,aM=>by
  simp only[I2] at aM ⊢;rw[aR,if_neg aM]
 |m::r,k+1,h,hz,aM=>by
  have h0:=hz 0 (by omega);simp only[I2] at h0;rw[aR,if_pos h0,JA];rw[JA] at aM;exact dU r k (by simpa using h) (λj hj=>by have:=hz (j+1) (by omega);simpa using this) aM
theorem bc:∀(ms:List bE),aR ms=0->∀m∈ms,m.e=0
 |[],_,m,hm=>by simp at hm
 |x::r,h,m,hm=>by
  rw[aR] at h;split at h
  .rename_i hx
   rcases List.mem_cons.1 hm with rfl|hm
   .exact hx
   .exact bc r h m hm
  .rename_i hx;exact absurd h hx
theorem ft:∀(ms:List bE),(∀m∈ms,m.e=0)->aR ms=0
 |[],_=>rfl
 |x::r,h=>by rw[aR,if_pos (h x (by simp))];exact ft r λm hm=>h m (by simp[hm])
def bj(ms:List bE):Int:=if 20<ms.length then 2 else if aR ms=0 then(if aL ms=true then 0 else 4) else aR ms
theorem tD(ms:List bE)(k:Nat)(hn:ms.length<=20)(hk:k<ms.length)(hz:∀j,j<k->(ms.getD j dm).e=0)(aM:(ms.getD k dm).e≠0):bj ms=(ms.getD k dm).e:=by
 have h:=dU ms k hk hz aM;rw[bj,if_neg (by omega),h,if_neg aM]
theorem ry(ms:List bE)(hn:ms.length<=20)(hz:∀j,j<ms.length->(ms.getD j dm).e=0):bj ms=if aL ms=true then 0 else 4:=by
 rw[bj,if_neg (by omega),cE ms hz,if_pos rfl]
theorem af{ms:List bE}(h:bj ms=0):ms.length<=20/\bn ms/\aR ms=0:=by
 unfold bj at h;split at h
 .omega
 .split at h
  .rename_i h1 h2
   split at h
   .rename_i h3
    exact⟨by omega,RL.lq ord keyed ms h3,h2⟩
   .omega
  .rename_i h1 h2;exact absurd h h2
theorem jV{ms:List bE}(h1:ms.length<=20)(h2:bn ms)(h3:∀m∈ms,m.e=0):bj ms=0:=by
 rw[bj,if_neg (by omega),ft ms h3,if_pos rfl,if_pos (RL.jH ord ms h2)]
def dF(a b:List bE)(k:Nat):List bE:=if k=0 then[] else if k=1 then a else av a b
end Wh
namespace Wh
open Go.RowKit
theorem dj(a b:bE)(w:World) :
 aF 112 #[Ij #[Y a.node,U O a.x,U O a.y,U O a.z,U O a.h,U O a.s],Ij #[Y b.node,U O b.x,U O b.y,U O b.z,U O b.h,U O b.s]] w λe w'=>e=By (U O (ord a b))/\Below w.heap.size w w':=by
 go_enter Tryz.func112,Tryz.ntmps112;go_wp2_with (go_at_call 49;refine(gn _ _ _).mono ?_;rintro e w' ⟨rfl,rfl⟩);go_ret;exact⟨rfl,((Ib _ _).alloc (Ic _) _).alloc (by simp) _⟩
theorem gf(a b:bE)(w:World) :
 aF 237 #[Ij #[Y a.node,U O a.x,U O a.y,U O a.z,U O a.h,U O a.s],Ij #[Y b.node,U O b.x,U O b.y,U O b.z,U O b.h,U O b.s]] w λe w'=>e=By (Ia (bP a b))/\Below w.heap.size w w':=by
 go_enter Tryz.func237,Tryz.ntmps237;go_wp2;go_ret;exact⟨rfl,by first|exact Ib _ _|exact((Ib _ _).alloc (Ic _) _).alloc (by simp) _⟩
end Wh
namespace Wh
open Go.RowKit
theorem jF(ms:List bE)(b off cap:Nat)(w:World)(hr:Row w b off ms)(hb:b<w.heap.size)(hn:ms.length<=20) :
 Calls AS 164 #[J (AI ⟨b,off,be⟩) ms.length cap,IQ (.func 112) #[] #[]] w λe w'=>e=By (Ia (aL ms))/\Below w.heap.size w w':=by
 have HR:Hid (Row w b off ms):=hr;clear hr;have H4:Hid (∀k,k+1<ms.length->0<=ord (ms.getD k dm) (ms.getD (k+1) dm)->aL ms=false):=λk hk hl=>by
  rcases h:aL ms with _|_
  .rfl
  .have:=fq ms h k hk;omega
 have H0:Hid ((∀j,j+1<ms.length->ord (ms.getD j dm) (ms.getD (j+1) dm)<0)->aL ms=true):=fp ms;generalize hN:ms.length=n at *;have HN:Hid (ms.length=n):=hN;clear hN;generalize hC:aL ms=res at *;have HC:Hid (aL ms=res):=hC;clear hC;go_enter Tryz.func164,Tryz.ntmps164;go_wp2_with fail;go_loopw [5] (λi w'=>∃k:Nat,(k+1<=n\/k=0)/\i=U O (k+1)/\Below w.heap.size w w'/\Hid (∀j,j<k->ord (ms.getD j dm) (ms.getD (j+1) dm)<0)) (λi _=>n-(intOf i).toNat)
 case atStart=>exact⟨0,.inr rfl,rfl,Ib _ _,λj h=>absurd h (Jq _)⟩
 case round=>
  obtain⟨q,hq,rfl,aN,hz⟩:=hrel;obtain⟨eG,nz⟩:=cz aN;have cF:=aN.size;by_cases aW:q+1<n
  .have F:=((HR.out q (by rw[HN.out];omega)).eq (λo=>eG b o hb)).re
   have G:=((HR.out (q+1) (by rw[HN.out];exact aW)).eq (λo=>eG b o hb)).re;have HK:Hid (0<=ord (ms.getD q dm) (ms.getD (q+1) dm)->res=false):=λh=>H4.out q aW h;have HZ:Hid (ord (ms.getD q dm) (ms.getD (q+1) dm)<0->∀j,j<q+1->ord (ms.getD j dm) (ms.getD (j+1) dm)<0):=λh j hj=>by
    rcases Nat.lt_succ_iff_lt_or_eq.1 hj with h2|rfl
    .exact hz.out j h2
    .exact h
   generalize ms.getD q dm=m1 at *;generalize ms.getD (q+1) dm=m2 at *;have hN:∀d os,Calls AS 112 #[Ij #[Y m1.node,U O m1.x,U O m1.y,U O m1.z,U O m1.h,U O m1.s],Ij #[Y m2.node,U O m2.x,U O m2.y,U O m2.z,U O m2.h,U O m2.s]] (Io (Iz wr d) os) λe gD=>e=By (U O (ord m1 m2))/\∃p:JW,gD=Io (Iz wr p.d) p.os:=λd os=>I3 (dj m1 m2 _);simp only[As] at F G;clear eG nz;generalize ord m1 m2=r at *;have Gl:IntKind.i64.wrap (q:Int)=(q:Int):=by rw[IY];omega
   have Eg:q<n:=by omega
   have TW:(q:Int)+1<(n:Int):=by omega
   have TX:(0:Int)<=(q:Int)+1:=by omega
   have DZ:((q:Int)+1).toNat=q+1:=by omega
   go_wp2_with fail;refine IJ (by kernel_rfl) (by kernel_rfl) ?_;repeat(quiet_step (exact hN _ _))
   refine bN λdq kj ed=>?_;clear hN F G;by_cases hl:r<0
   .have mB:¬ (0<=r):=by omega
    go_wp2_with fail;go_roundw
    case rel=>exact⟨q+1,.inl (by omega),by go_num,aN.trans (ed.out.mono cF),HZ.out hl⟩
    case measure=>simp[intOf];omega
   .have mB:0<=r:=by omega
    have h4:Hid (res=false):=HK.out mB;go_wp2_with fail;go_ret;exact⟨ba h4.out.symm,aN.trans (ed.out.mono cF)⟩
  .have h0:Hid (res=true):=H0.out λj hj=>hz.out j (by omega)
   go_wp2_with fail;go_ret;exact⟨ba h0.out.symm,aN⟩
theorem gj(a:Option Addr)(cap:Nat)(fv:Value)(w:World) :
 Calls AS 164 #[J a 0 cap,fv] w λe w'=>e=By (Ia true)/\w'=w:=by
 go_enter Tryz.func164,Tryz.ntmps164;go_wp2_with fail;go_loop [5] (λi=>i=U O 1) (λ_=>0)
 case atStart=>rfl
 case round=>
  subst hrel;go_wp2_with fail;go_ret;exact⟨rfl,rfl⟩
theorem gk(ms:List bE)(b off cap:Nat)(lk:bE)(w:World)(hr:Row w b off ms)(hb:b<w.heap.size)(hn:ms.length<=40)(gV:∀i j,i<=j->j<ms.length->ord (ms.getD j dm) lk<0->ord (ms.getD i dm) lk<0) :
 Calls AS 176 #[J (AI ⟨b,off,be⟩) ms.length cap,Ij #[Y lk.node,U O lk.x,U O lk.y,U O lk.z,U O lk.h,U O lk.s],IQ (.func 112) #[] #[]] w λe w'=>∃(p:Nat) (f:Bool),e=By (Ik #[U O p,Ia f])/\Below w.heap.size w w' /\
  p<=ms.length/\(∀j,j<p->ord (ms.getD j dm) lk<0)/\(∀j,p<=j->j<ms.length->0<=ord (ms.getD j dm) lk)/\(f=true↔p<ms.length/\ord (ms.getD p dm) lk=0):=by
 have HR:Hid (Row w b off ms):=hr;clear hr;have HM:Hid _:=gV;clear gV;generalize hN:ms.length=n at *;have HN:Hid (ms.length=n):=hN;clear hN;go_enter Tryz.func176,Tryz.ntmps176;go_wp2_with fail;obtain⟨W0,bJ,bM,eE,dG⟩:=bW w #[Y lk.node,U O lk.x,U O lk.y,U O lk.z,U O lk.h,U O lk.s] 116;have Es:Hid (Row W0 b off ms):=HR.out.later bM hb;have HT:Hid (As W0 w.heap.size 0 lk):=⟨ae dG 0,ae dG 1,ae dG 2,ae dG 3,ae dG 4,ae dG 5⟩;have da:Hid (Below w.heap.size w W0):=bM;have sJ:Hid (W0=w.alloc (AT #[Y lk.node,U O lk.x,U O lk.y,U O lk.z,U O lk.h,U O lk.s] 116)):=bJ;clear dG bM HR bJ;have wG:b<w.heap.size+1:=by omega
 go_loopw [9,10] (λi j w'=>∃k l:Nat,k<=l/\l<=n/\i=U O k/\j=U O l/\Below (w.heap.size+1) W0 w'/\Hid (∀j,j<k->ord (ms.getD j dm) lk<0)/\Hid (∀j,l<=j->j<n->0<=ord (ms.getD j dm) lk)) (λi j _=>(intOf j).toNat-(intOf i).toNat)
 case atStart=>exact⟨0,n,II _,Ic _,rfl,rfl,by rw[sJ.out];exact Ib _ _,λj h=>absurd h (Jq _),λj h1 h2=>by omega⟩
 case round=>
  obtain⟨k,l,iH,Ks,rfl,rfl,aN,yq,yr⟩:=hrel;have cF:=aN.size;have eG:∀b o,b<w.heap.size+1->wr.cell? ⟨b,o,be⟩=W0.cell? ⟨b,o,be⟩:=λb o h=>aN.cell (p:=⟨b,o,be⟩) h;have G:=(HT.out.eq (λo=>eG w.heap.size o (by omega))).re;simp only[As,IC] at G;by_cases aW:k<l
  .obtain⟨h,hh,h1,h2⟩:∃h:Nat,((k:Int)+(l:Int))/2=(h:Int)/\k<=h/\h<l:=⟨(k+l)/2,by omega,by omega,by omega⟩
   have F:=((Es.out h (by rw[HN.out];omega)).eq (λo=>eG b o wG)).re;have pF:=HM.out;have HK:Hid (ord (ms.getD h dm) lk<0->∀j,j<h+1->ord (ms.getD j dm) lk<0):=λhx j hj=>pF j h (by omega) (by omega) hx;have HL:Hid (0<=ord (ms.getD h dm) lk->∀j,h<=j->j<n->0<=ord (ms.getD j dm) lk):=λhx j hj CB=>by
    apply Int.not_lt.1;intro hq;have:=pF h j hj CB hq;omega
   clear pF;have hhn:h<n:=by omega
   generalize ms.getD h dm=m at *;have hO:∀d os,Calls AS 112 #[Ij #[Y m.node,U O m.x,U O m.y,U O m.z,U O m.h,U O m.s],Ij #[Y lk.node,U O lk.x,U O lk.y,U O lk.z,U O lk.h,U O lk.s]] (Io (Iz wr d) os) λe gD=>e=By (U O (ord m lk))/\∃p:JW,gD=Io (Iz wr p.d) p.os:=λd os=>I3 (dj m lk _);simp only[As] at F;clear eG;generalize ord m lk=r at *;go_wp2_with fail;refine IJ (by kernel_rfl) (by kernel_rfl) ?_;repeat(quiet_step (exact hO _ _))
   refine bN λdq kj ed=>?_;clear hO F G;by_cases mW:r<0
   .go_wp2_with fail
    exact⟨⟨h+1,l,by omega,by omega,by go_num,rfl,aN.trans (ed.out.mono (by omega)),HK.out mW,yr⟩,by simp[intOf];omega⟩
   .have rT:0<=r:=by omega
    go_wp2_with fail;exact⟨⟨k,h,by omega,by omega,rfl,rfl,aN.trans (ed.out.mono (by omega)),yq,HL.out rT⟩,by simp[intOf];omega⟩
  .have BS:l=k:=by omega
   subst BS;by_cases fQ:l<n
   .have F:=((Es.out l (by rw[HN.out];omega)).eq (λo=>eG b o wG)).re
    generalize hm:ms.getD l dm=m at *;have Hm:Hid (ms.getD l dm=m):=hm;clear hm;have hO:∀d os,Calls AS 112 #[Ij #[Y m.node,U O m.x,U O m.y,U O m.z,U O m.h,U O m.s],Ij #[Y lk.node,U O lk.x,U O lk.y,U O lk.z,U O lk.h,U O lk.s]] (Io (Iz wr d) os) λe gD=>e=By (U O (ord m lk))/\∃p:JW,gD=Io (Iz wr p.d) p.os:=λd os=>I3 (dj m lk _);simp only[As] at F;clear eG;generalize EU:ord m lk=r at *;have Hr:Hid (ord m lk=r):=EU;clear EU;go_wp2_with fail;refine IJ (by kernel_rfl) (by kernel_rfl) ?_;repeat(quiet_step (exact hO _ _))
    refine bN λdq kj ed=>?_;clear hO F G;go_wp2_with fail;go_ret2;refine⟨l,_,rfl,da.out.trans ((aN.trans (ed.out.mono (by omega))).mono (by omega)),by omega,yq.out,yr.out,?_⟩;rw[Hm.out,Hr.out];simp[fQ]
   .clear G
    have hkd:decide ((l:Int)<(n:Int))=false:=by simp;omega
    go_wp2_with fail;go_quiet (fail)
    go_wp2_with fail;go_ret2;refine⟨l,_,rfl,da.out.trans ((I8 aN _).mono (by omega)),by omega,yq.out,yr.out,?_⟩;simp[fQ]
theorem fw(a:Option Addr)(cap:Nat)(lk:bE)(fv:Value)(w:World) :
 Calls AS 176 #[J a 0 cap,Ij #[Y lk.node,U O lk.x,U O lk.y,U O lk.z,U O lk.h,U O lk.s],fv] w λe w'=>e=By (Ik #[U O 0,Ia false])/\Below w.heap.size w w':=by
 go_enter Tryz.func176,Tryz.ntmps176;go_wp2_with fail;go_loop [9,10] (λi j=>i=U O 0/\j=U O 0) (λ_ _=>0)
 case atStart=>exact⟨rfl,rfl⟩
 case round=>
  obtain⟨rfl,rfl⟩:=hrel;go_wp2_with fail;go_quiet (fail)
  go_wp2_with fail;go_ret2;exact⟨rfl,I8 ((Ib _ _).alloc (Ic _) _) _⟩
theorem fx(ms:List bE)(v:Value)(lk:bE)(w:World)(h:Sl w v ms)(hn:ms.length<=40)(gV:∀i j,i<=j->j<ms.length->ord (ms.getD j dm) lk<0->ord (ms.getD i dm) lk<0) :
 Calls AS 176 #[v,Ij #[Y lk.node,U O lk.x,U O lk.y,U O lk.z,U O lk.h,U O lk.s],IQ (.func 112) #[] #[]] w λe w'=>∃(p:Nat) (f:Bool),e=By (Ik #[U O p,Ia f])/\Below w.heap.size w w'/\At ms lk p f:=by
 obtain⟨a,cap,rfl,hs,h⟩:=h;rcases h with rfl|⟨b,off,rfl,hb,hr⟩
 .refine(fw a cap lk _ w).mono ?_
  rintro e w' ⟨rfl,hb⟩;exact⟨0,false,rfl,hb,⟨by simp,λj h=>by omega,λj h h2=>by simp at h2,by simp⟩⟩
 .refine(gk ms b off cap lk w hr hb hn gV).mono ?_
  rintro e w' ⟨p,f,rfl,aN,g1,g2,g3,g4⟩;exact⟨p,f,rfl,aN,⟨g1,g2,g3,g4⟩⟩
theorem ff(ms:List bE)(v:Value)(lk:bE)(w:World)(h:Sl w v ms)(hn:ms.length<=40)(hr:bn ms) :
 Calls AS 111 #[v,Ij #[Y lk.node,U O lk.x,U O lk.y,U O lk.z,U O lk.h,U O lk.s],IQ (.func 112) #[] #[]] w λe w'=>∃(p:Nat) (f:Bool),e=By (Ik #[U O p,Ia f])/\Below w.heap.size w w'/\At ms lk p f:=by
 have HC:Hid (∀w',Below w.heap.size w w'->Calls AS 176 #[v,Ij #[Y lk.node,U O lk.x,U O lk.y,U O lk.z,U O lk.h,U O lk.s],IQ (.func 112) #[] #[]] w' λe gD=>∃(p:Nat) (f:Bool),e=By (Ik #[U O p,Ia f])/\Below w'.heap.size w' gD/\At ms lk p f):=
  λw' hb=>fx ms v lk w' (h.below hb) hn (dP hr lk)
 clear h hn hr;go_enter Tryz.func111,Tryz.ntmps111;go_wp2_with (go_at_call 176;refine(HC.out _ ?hb).mono ?_)
 case hb=>exact(Ib _ _).alloc (Ic _) _
 rintro e w' ⟨p,f,rfl,aN,cv⟩;have fS:Hid (At ms lk p f):=cv;clear cv;go_wp2_with fail;go_ret2;exact⟨p,f,rfl,((Ib _ _).alloc (Ic _) _).trans (aN.mono (by simp)),fS.out⟩
end Wh
end Go.Proofs.YtfidhgjmifendaaGreatDoor
namespace Go.Proofs.YtfidhgjmifendaaGreatDoor
open Go.RowKit
def dp:Pl:=⟨0,0,0,0,0⟩
def FV(w:World)(b off:Nat)(ps:List Pl):Prop:=∀k,k<ps.length ->
 w.cell? ⟨b,off+k*5,be⟩=AI (U O (ps.getD k dp).x)/\w.cell? ⟨b,off+k*5+1,be⟩=AI (U O (ps.getD k dp).y)/\w.cell? ⟨b,off+k*5+2,be⟩=AI (U O (ps.getD k dp).z)/\w.cell? ⟨b,off+k*5+3,be⟩=AI (U O (ps.getD k dp).h)/\w.cell? ⟨b,off+k*5+4,be⟩=AI (U O (ps.getD k dp).s)
theorem FV.below{w w':World}{b off:Nat}{ps:List Pl}(h:FV w b off ps)(hb:Below w.heap.size w w'):FV w' b off ps:=λk hk=>by
 obtain⟨h0,h1,h2,h3,h4⟩:=h k hk;have aW:b<w.heap.size:=World.block_lt_of_cell? w ⟨b,off+k*5,be⟩ h0;exact⟨by rw[hb.cell aW];exact h0,by rw[hb.cell aW];exact h1,by rw[hb.cell aW];exact h2,by rw[hb.cell aW];exact h3,by rw[hb.cell aW];exact h4⟩
def jn:List Pl->Int
 |[]=>0
 |p::r=>if dZ p=0 then jn r else 3
theorem oK:∀(ps:List Pl),jn ps=0↔∀j,j<ps.length->dZ (ps.getD j dp)=0
 |[]=>by simp[jn]
 |p::r=>by
  unfold jn;by_cases h:dZ p=0
  .rw[if_pos h,oK r]
   constructor
   .intro g j hj
    cases j with
    |zero=>simpa using h
    |succ j=>simpa using g j (by simpa using hj)
   .intro g j hj
    simpa using g (j+1) (by simpa using hj)
  .rw[if_neg h]
   exact⟨λe=>by simp at e,λg=>absurd (by simpa using g 0 (by simp)) h⟩
theorem tU:∀(ps:List Pl),jn ps=0\/jn ps=3
 |[]=>.inl rfl
 |p::r=>by
  unfold jn;split
  .exact tU r
  .exact .inr rfl
theorem FW{ps:List Pl}{k:Nat}(hk:k<ps.length)(h:dZ (ps.getD k dp)≠0):jn ps=3:=by
 rcases tU ps with e|e
 .exact absurd ((oK ps).1 e k hk) h
 .exact e
theorem kG(ps:List Pl)(b off n cap:Nat)(w:World)(hn:ps.length=n)(hr:FV w b off ps)(yZ:n<=1000) :
 Calls AS 233 #[J (AI ⟨b,off,be⟩) n cap] w λe w'=>e=By (U O (jn ps))/\Below w.heap.size w w':=by
 have HR:Hid (FV w b off ps):=hr;have HN:Hid _:=hn;clear hr hn;go_enter Tryz.func233,Tryz.ntmps233;go_wp2;go_loopw [8] (λi w'=>∃k:Nat,k<=n/\i=U O k/\Hid (Below w.heap.size w w')/\Hid (∀j,j<k->dZ (ps.getD j dp)=0)) (λi _=>n-(intOf i).toNat)
 case atStart=>exact⟨0,II _,rfl,Ib _ _,λj hj=>by omega⟩
 case round=>
  obtain⟨k,hk,rfl,HB,HZ⟩:=hrel;by_cases aW:k<n
  .obtain⟨c0,c1,c2,c3,c4⟩:=HR.out.below HB.out k (by rw[HN.out];exact aW)
   have HS:Hid (dZ (ps.getD k dp)=0->∀j,j<k+1->dZ (ps.getD j dp)=0):=λh j hj=>by
    by_cases e:j=k
    .subst e;exact h
    .exact HZ.out j (by omega)
   have HX:Hid (dZ (ps.getD k dp)≠0->jn ps=dZ (ps.getD k dp)):=λh=>by
    rw[FW (by rw[HN.out];exact aW) h];exact((Du _).resolve_left h).symm
   generalize ps.getD k dp=pk at *;obtain⟨x,y,z,h,s⟩:=pk;simp only at c0 c1 c2 c3 c4;clear HZ;go_wp2_with fail;refine(lJ ⟨x,y,z,h,s⟩ _).mono ?_;rintro e w1 ⟨rfl,aB⟩;have aV:Hid _:=(HB.out.alloc HB.out.size _).trans (aB.mono (by have:=HB.out.size;simp;omega));clear aB c0 c1 c2 c3 c4;by_cases hc:dZ ⟨x,y,z,h,s⟩=0
   .have hc':(dZ ⟨x,y,z,h,s⟩!=0)=false:=by simpa using hc
    have tv:=HS.out hc;have TY:Hid _:=tv;clear tv HS HX hc;go_wp2_with fail;go_roundw
    case rel=>exact⟨k+1,by omega,by go_num,aV,TY⟩
    case measure=>simp[intOf];omega
   .have hc':(dZ ⟨x,y,z,h,s⟩!=0)=true:=by simpa using hc
    have HE:Hid _:=HX.out hc;clear HS HX hc;go_wp2_with fail;go_ret;exact⟨xP HE.out.symm,aV.out⟩
  .have HE:Hid _:=(oK ps).2 (λj hj=>HZ.out j (by have:=HN.out;omega))
   clear HZ;go_wp2_with fail;go_ret;exact⟨xP HE.out.symm,HB.out⟩
def DF(a b:Pl):Int:=(a.x-b.x)*(a.x-b.x)+(a.y-b.y)*(a.y-b.y)+(a.z-b.z)*(a.z-b.z)
def fI(a b:Pl):Int:=rt (DF a b)
def rX(a b:Pl):Int:=fI a b+a.h+b.h
theorem Al{m:Int}(h0 : -9223372036854775808<=m)(h1:m<=9223372036854775807):IntKind.i64.wrap m=m:=by
 rw[IY];omega
theorem sq_nonneg(x:Int):0<=x*x:=by
 rcases Int.le_total 0 x with h|h
 .exact Int.mul_nonneg h h
 .exact Int.mul_nonneg_of_nonpos_of_nonpos h h
theorem aaB{x m:Int}(h0 : -m<=x)(h1:x<=m):x*x<=m*m:=by
 rcases Int.le_total 0 x with h|h
 .exact DA h h1
 .have:=DA (a := -x) (b:=m) (by omega) (by omega)
  rwa [Int.neg_mul_neg] at this
theorem wD{x:Int}(h0 : -20000000<=x)(h1:x<=20000000):x*x<=400000000000000:=aaB (m:=20000000) h0 h1
theorem Am{a b:Pl}(ha:rB a)(hb:rB b):0<=DF a b/\DF a b<=1200000000000000:=by
 have h1:=wD (x:=a.x-b.x) (by have:=ha.x0;have:=hb.x1;omega) (by have:=ha.x1;have:=hb.x0;omega);have h2:=wD (x:=a.y-b.y) (by have:=ha.y0;have:=hb.y1;omega) (by have:=ha.y1;have:=hb.y0;omega);have h3:=wD (x:=a.z-b.z) (by have:=ha.z0;have:=hb.z1;omega) (by have:=ha.z1;have:=hb.z0;omega);have g1:=sq_nonneg (a.x-b.x);have g2:=sq_nonneg (a.y-b.y);have g3:=sq_nonneg (a.z-b.z);unfold DF;omega
theorem FX{n r:Int}(h:qZ n r):qZ n (rt n):=by rw[rt_eq h];exact h
theorem DG:∀(n:Nat),∃r:Nat,qZ n r
 |0=>⟨0,by decide,by decide,by decide⟩
 |n+1=>by
  obtain⟨r,h0,h1,h2⟩:=DG n;by_cases h:(((r+1:Nat):Int))*((r+1:Nat):Int)<=((n+1:Nat):Int)
  .refine⟨r+1,by omega,h,?_⟩
   have e1:((r:Int)+1+1)*((r:Int)+1+1)=((r:Int)+1)*((r:Int)+1)+2*r+3:=by
    simp only[Int.add_mul,Int.mul_add];omega
   push_cast
   omega
  .refine⟨r,h0,by push_cast;omega,by push_cast at h ⊢;omega⟩
theorem aaC{n:Int}(h:0<=n):qZ n (rt n):=by
 obtain⟨r,hr⟩:=DG n.toNat;rw[Int.toNat_of_nonneg h] at hr;exact FX hr
theorem aaD{n:Int}(h0:0<=n)(h1:n<=1200000000000000):0<=rt n/\rt n<=34641016:=by
 obtain⟨h,g,_⟩:=aaC h0;refine⟨h,?_⟩;apply Classical.byContradiction;intro c;have:=DA (a:=34641017) (b:=rt n) (by omega) (by omega);omega
theorem qV{a b:Pl}(ha:rB a)(hb:rB b):0<=fI a b/\fI a b<=34641016:=
 aaD (Am ha hb).1 (Am ha hb).2
theorem qU(a b:Pl)(w:World)(ha:rB a)(hb:rB b) :
 Calls AS 270 #[Ij #[U O a.x,U O a.y,U O a.z,U O a.h,U O a.s],Ij #[U O b.x,U O b.y,U O b.z,U O b.h,U O b.s]] w λe w'=>e=By (U O (fI a b))/\Below w.heap.size w w':=by
 have h1:=wD (x:=a.x-b.x) (by have:=ha.x0;have:=hb.x1;omega) (by have:=ha.x1;have:=hb.x0;omega);have h2:=wD (x:=a.y-b.y) (by have:=ha.y0;have:=hb.y1;omega) (by have:=ha.y1;have:=hb.y0;omega);have h3:=wD (x:=a.z-b.z) (by have:=ha.z0;have:=hb.z1;omega) (by have:=ha.z1;have:=hb.z0;omega);have g1:=sq_nonneg (a.x-b.x);have g2:=sq_nonneg (a.y-b.y);have g3:=sq_nonneg (a.z-b.z);have HE:Hid (fI a b=rt ((a.x-b.x)*(a.x-b.x)+(a.y-b.y)*(a.y-b.y)+(a.z-b.z)*(a.z-b.z))):=(show fI a b=_ from rfl);obtain⟨ax0,ax1,ay0,ay1,az0,az1,_,_,_,_⟩:=ha;obtain⟨bx0,bx1,by0,by1,bz0,bz1,_,_,_,_⟩:=hb;generalize fI a b=r at *;obtain⟨x1,y1,z1,p1,s1⟩:=a;obtain⟨x2,y2,z2,p2,s2⟩:=b;simp only at *;go_enter Tryz.func270,Tryz.ntmps270;go_wp2_with fail;go_quiet (fail)
 go_wp2_with (go_at_call 286;refine(Lr _ _ (by omega) (by omega)).mono ?_;rintro e w' ⟨rfl,rfl⟩);go_ret;exact⟨xP HE.out.symm,I8 (((Ib _ _).alloc (Ic _) _).alloc (by simp) _) _⟩
theorem Nb(a b:Pl)(w:World)(ha:rB a)(hb:rB b) :
 Calls AS 234 #[Ij #[U O a.x,U O a.y,U O a.z,U O a.h,U O a.s],Ij #[U O b.x,U O b.y,U O b.z,U O b.h,U O b.s]] w λe w'=>e=By (U O (rX a b))/\Below w.heap.size w w':=by
 obtain⟨r0,r1⟩:=qV ha hb;have HE:Hid (rX a b=fI a b+a.h+b.h):=(show rX a b=_ from rfl);have rC:=λw=>qU a b w ha hb;have h0:=ha.h0;have h1:=ha.h1;have g0:=hb.h0;have g1:=hb.h1;clear ha hb;generalize fI a b=r at *;generalize rX a b=f at *;obtain⟨x1,y1,z1,p1,s1⟩:=a;obtain⟨x2,y2,z2,p2,s2⟩:=b;simp only at *;generalize hW:(w.alloc (AT #[U O x1,U O y1,U O z1,U O p1,U O s1] 39)).alloc (AT #[U O x2,U O y2,U O z2,U O p2,U O s2] 39)=W at *;have HW:Hid (Below w.heap.size w W):=by rw[<- hW];exact((Ib _ _).alloc (Ic _) _).alloc (by simp) _
 have E0:∀d os,(Io (Iz W d) os).cell? ⟨w.heap.size,0,be⟩=AI (U O x1):=Is (by rw[<- hW];simp);have E1:∀d os,(Io (Iz W d) os).cell? ⟨w.heap.size,1,be⟩=AI (U O y1):=Is (by rw[<- hW];simp);have E2:∀d os,(Io (Iz W d) os).cell? ⟨w.heap.size,2,be⟩=AI (U O z1):=Is (by rw[<- hW];simp);have E3:∀d os,(Io (Iz W d) os).cell? ⟨w.heap.size,3,be⟩=AI (U O p1):=Is (by rw[<- hW];simp);have E4:∀d os,(Io (Iz W d) os).cell? ⟨w.heap.size,4,be⟩=AI (U O s1):=Is (by rw[<- hW];simp);have F0:∀d os,(Io (Iz W d) os).cell? ⟨w.heap.size+1,0,be⟩=AI (U O x2):=Is (by rw[<- hW];simp);have F1:∀d os,(Io (Iz W d) os).cell? ⟨w.heap.size+1,1,be⟩=AI (U O y2):=Is (by rw[<- hW];simp);have F2:∀d os,(Io (Iz W d) os).cell? ⟨w.heap.size+1,2,be⟩=AI (U O z2):=Is (by rw[<- hW];simp);have F3:∀d os,(Io (Iz W d) os).cell? ⟨w.heap.size+1,3,be⟩=AI (U O p2):=Is (by rw[<- hW];simp);have F4:∀d os,(Io (Iz W d) os).cell? ⟨w.heap.size+1,4,be⟩=AI (U O s2):=Is (by rw[<- hW];simp);have cN:∀d os,Calls AS 270 #[Ij #[U O x1,U O y1,U O z1,U O p1,U O s1],Ij #[U O x2,U O y2,U O z2,U O p2,U O s2]] (Io (Iz W d) os) λe gD=>e=By (U O r)/\∃p:JW,gD=Io (Iz W p.d) p.os:=λd os=>
  I3 ((rC _).mono (by rintro e w' ⟨rfl,hb⟩;exact⟨rfl,hb⟩))
 clear rC;go_enter Tryz.func234,Tryz.ntmps234;go_wp2_with fail;refine IJ (by kernel_rfl) (by kernel_rfl) ?_;repeat(quiet_step (exact cN _ _))
 refine bN λdq kj ed=>?_;clear cN E0 E1 E2 E3 E4 F0 F1 F2 F3 F4;go_wp2_with fail;go_ret;exact⟨xP (by rw[Al (m:=r+p1) (by omega) (by omega),Al (by omega) (by omega)];exact HE.out.symm),HW.out.trans (ed.out.mono HW.out.size)⟩
theorem wi(a b:Pl):jn [a,b]=0↔rB a/\rB b:=by
 rw[<- nB,<- nB];unfold jn jn jn;by_cases h:dZ a=0<;>by_cases g:dZ b=0<;>simp[h,g]
theorem fy{W:World}{cs:Array Value}{t:TypeId}{g k:Nat}(hg:g=W.heap.size):(W.alloc (AT cs t)).cell? ⟨g,k,be⟩=cs[k]?:=by subst hg;simp
theorem oJ{W:World}{o:Obj}{g k:Nat}(hg:g<W.heap.size):(W.alloc o).cell? ⟨g,k,be⟩=W.cell? ⟨g,k,be⟩:=
 ((Ib W.heap.size W).alloc (Ic _) o).cell (p:=⟨g,k,be⟩) hg
theorem tV{W:World}{a b:Pl}{t:TypeId}{g:Nat}(hg:g=W.heap.size):FV (W.alloc (AT #[U O a.x,U O a.y,U O a.z,U O a.h,U O a.s,U O b.x,U O b.y,U O b.z,U O b.h,U O b.s] t)) g 0 [a,b]:=by
 intro k hk
 match k,hk with
 |0,_=>exact⟨fy hg,fy hg,fy hg,fy hg,fy hg⟩
 |1,_=>exact⟨fy hg,fy hg,fy hg,fy hg,fy hg⟩
def mY(n a b:Int):Bool:=decide (a<=n)&&decide (n<=b)
theorem aen{a b:Bool}(h:a=b):Ending.returned (Ia a)=By (Ia b):=by rw[h]
theorem Fg{n a b:Int}(h:mY n a b=true):a<=n/\n<=b:=by simpa[mY] using h
end Go.Proofs.YtfidhgjmifendaaGreatDoor
