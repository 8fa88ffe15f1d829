import Derived.Test.YtfidhgjmifendaaGreatDoorng5
set_option maxHeartbeats 1600000
set_option maxRecDepth 100000
open Go.Value renaming agg→Ik,string→Y,int→U,slice→J,bool→Ia,func→IP,tuple→Im
open Go.IntKind renaming i64→O,wrap_i64→IY
open Option renaming some→AI,none→be
open Go renaming info_parts→I6,maxLen→Io,redrawn→Iv,cell_regrown→Ig,Regrown→JI,wp_region_quiet_below→IA,below_drewN→Jc
open Go.Proofs.Tryz renaming prog→AS,underlying40→J7,underlying3→IF
open Go.Obj renaming cells→By
open Go.Ending renaming returned→AT
open Go.Act renaming eval→No,put→Om
open List renaming length_take→IB,append_assoc→Ip,getD_cons_zero→I2,getD_cons_succ→Jz
open Array renaming length_toList→IS
open Nat renaming zero_add→ID,le_refl→Ic,not_lt_zero→Jl,zero_le→IH
open Go.RowKit.Below renaming refl→Ib
open Go.Sort renaming grow→Ij
open Go.Calls renaming regrown_of→IU
namespace Go.Proofs.YtfidhgjmifendaaGreatDoor
namespace Wh
open Go.RowKit
theorem Tryz.np:(Tryz.prog.info? 116).map (λi=>(i.zero,i.size,i.bytes))=AI (AI (Ik #[Y ⟨#[]⟩,U O 0,U O 0,U O 0,U O 0,U O 0]),6,56):=by kernel_rfl
theorem DE:(Tryz.prog.info? 116).map (·.size)=AI 6:=by
 obtain⟨i,hi,h1,h2,h3⟩:=I6 Tryz.np;rw[hi];simp[h2]
theorem sizeOf116(w:World):(Go.sizeOf 116).run AS w=.ok 6 w:=by
 obtain⟨i,hi,h1,h2,h3⟩:=I6 Tryz.np;simp[Go.sizeOf,typeInfo,hi,h2]
theorem eK(w:World)(g vb o lb cb:Nat)(cur vs:Array Value)(hg:w.heap[g]?=AI (By cur 116 (0,0)))(hv:w.heap[vb]?=AI (By vs 116 (0,0)))(aT:vb≠g)(hk:cur.size≠0) : (callFunc 177 #[J (AI ⟨vb,0,be⟩) 1 1,J (AI ⟨g,o,be⟩) lb cb]).run AS w=.ok (.value (Ia false)) w:=by
 rw[run_callFunc_extern Tryz.func177 (by kernel_rfl) (by kernel_rfl) (by kernel_rfl) (e:=Extern.SlicesOverlaps.overlaps #[40,40] #[4]) (by kernel_rfl),
  Lib.run_overlaps_apart w 40 4 116 J7 6 sizeOf116 ⟨vb,0,be⟩ ⟨g,o,be⟩ 1 1 lb cb aT 116 116 vs.size cur.size (by simp[World.shape?,hv]) (by simp[World.shape?,hg]) hk (by simp[World.frozen?,hv]) (by simp[World.frozen?,hv])]
 rfl
theorem fi(g n c i vb:Nat)(cur:Array Value)(vs:List Value)(w:World)(hg:w.heap[g]?=AI (By cur 116 (0,0)))(bZ:cur.size=c*6)(hi:i<n)(du:n+1<=c)(Ba:c<=9223372036854775807)(o5:vb≠g)(hv:w.heap[vb]?=AI (By vs.toArray 116 (0,0)))(kY:vs.length=6)(lH:∀v∈cur.toList.take (n*6),v.oneCell'=true)(mC:∀v∈vs,v.oneCell'=true) :
 aF 113 #[J (AI ⟨g,0,be⟩) n c,U O i,J (AI ⟨vb,0,be⟩) 1 1] w λe w'=>e=AT (J (AI ⟨g,0,be⟩) (n+1) c) /\
  ∃dP:Array Value,w'.heap[g]?=AI (By dP 116 (0,0))/\dP.size=c*6/\dP.toList.take ((n+1)*6)=cur.toList.take (i*6)++vs++(cur.toList.take (n*6)).drop (i*6)/\w.grownBy w' (AI g):=by
 have RX:=λo lb cb=>eK w g vb o lb cb cur vs.toArray hg hv o5 (by omega);have ny:¬ ((i:Int)=(n:Int)):=by omega
 have aI:¬ (c=i+1):=by omega
 have eP:¬ (c=i):=by omega
 have bU:(i:Int)<=(n:Int)+1:=by omega
 obtain⟨W1,W2,og,sU,HF⟩:=o0 J7 DE hg bZ hi du o5 hv kY lH mC;have HF:Hid _:=HF;clear lH mC hg hv;have My:IntKind.i64.wrap ((i:Int)+1)=(i:Int)+1:=by rw[IY];omega
 have aB:(0:Int)<=(i:Int)+1:=by omega
 have nK:i<=n:=by omega
 have DW:((i:Int)+1).toNat=i+1:=by omega
 go_enter Tryz.func113,Tryz.ntmps113;go_wp2_with (simp only[RX]);go_region_law (refine dj rfl _ _ 40 40 rfl _ _ (by simp[No,Om]) (by simp[No,Om]) (og _ _ _) ?_)
 go_wp2_with fail;go_ret;exact⟨rfl,HF.out⟩
theorem fj(g n c i vb:Nat)(cur:Array Value)(vs:List Value)(w:World)(hg:w.heap[g]?=AI (By cur 116 (0,0)))(bZ:cur.size=c*6)(hi:i<n)(fK:n<=c)(du:c<n+1)(Ba:n<=1000)(hv:w.heap[vb]?=AI (By vs.toArray 116 (0,0)))(kY:vs.length=6)(lH:∀v∈cur.toList.take (n*6),v.oneCell'=true)(mC:∀v∈vs,v.oneCell'=true) :
 aF 113 #[J (AI ⟨g,0,be⟩) n c,U O i,J (AI ⟨vb,0,be⟩) 1 1] w λe w'=>∃G,e=AT (J (AI ⟨w.heap.size,0,be⟩) (n+1) G)/\n+1<=G/\G<=Io /\
  ∃dP:Array Value,w'.heap[w.heap.size]?=AI (By dP 116 (0,0))/\dP.size=G*6/\dP.toList.take ((n+1)*6)=cur.toList.take (i*6)++vs++(cur.toList.take (n*6)).drop (i*6)/\w.grownBy w' be:=by
 obtain⟨i0,fW,dd,gY,gG⟩:=I6 Tryz.np;have Bb:c=n:=by omega
 subst Bb;have ny:¬ ((i:Int)=(c:Int)):=by omega
 have qb:(c:Int)<(c:Int)+1:=by omega
 have rZ:(c:Int)+1-(i:Int)=((c+1-i:Nat):Int):=by omega
 have Bc:i+(c+1-i)=c+1:=by omega
 have hold:(Builtin.firstCells i0.size i (J (AI ⟨g,0,be⟩) i c)).run AS w.drew=.ok (cur.toList.take (i*6)).toArray w.drew:=by
  rw[gY];exact run_firstCells_some w.drew 6 i ⟨g,0,be⟩ i c (cur.toList.take (i*6)) (by rw[IB,IS];omega) (λj v hj=>by
   have e:w.drew.cell? ((⟨g,0,be⟩:Addr).add j)=cur[j]?:=by rw[Addr.add_lit,ID];exact ae hg _
   rw[e];rw[List.getElem?_take] at hj;split at hj
   .simpa using hj
   .cases hj)
 have wQ:∀ty,∃G mg,c+1<=G/\G<=Io/\mg.size=G*6/\mg.toList.take (i*6)=cur.toList.take (i*6)/\(Builtin.append_ #[40,3] ty #[J (AI ⟨g,0,be⟩) i c,U O ((c:Int)+1-(i:Int))]).run AS w =
  .ok (J (AI ⟨w.heap.size,0,be⟩) (c+1) G) (w.drew.alloc (By mg 116)):=λty=>by
  have h:=Lib.run_append_grow_zeros w 40 3 ty 116 i0 _ O O J7 IF fW dd (AI ⟨g,0,be⟩) i c (cur.toList.take (i*6)) hold (c+1-i) (by omega) (by omega) (by omega) (by omega) (by rw[gG];omega) (by rw[gG,Bc];exact growslice_fits du (by omega));rw[Bc] at h;rw[rZ];have h1:=grownCap_ge w (c+1) c 116;refine⟨_,_,h1,grownCap_le_maxLen w (c+1) c 116 (by unfold Io;omega),?_,?_,h⟩
  .simp only[Array.size_append,List.size_toArray,size_zeroCells,IB,IS,bZ,Value.cells]
   simp;omega
  .simp only[Array.toList_append,Ip]
   exact List.take_left' (by simp only[IB,IS,bZ];omega)
 obtain⟨G,mg,yO,wR,Ao,DV,wQ⟩:=wQ 40;have RY:G<=9223372036854775807:=by unfold Io at wR;omega
 obtain⟨W2,W3,og,sU,HF⟩:=o6 J7 DE hg bZ hi hv kY lH mC yO Ao DV;obtain⟨W1,cQ⟩:∃W1,W1=(w.alloc (By mg 116)).drew:=⟨_,rfl⟩;have He:w.drew.alloc (By mg 116)=W1:=by rw[cQ];rfl
 rw[He] at wQ;rw[<- cQ] at og;have HF:Hid _:=HF;have My:IntKind.i64.wrap ((i:Int)+1)=(i:Int)+1:=by rw[IY];omega
 have aB:(0:Int)<=(i:Int)+1:=by omega
 have nK:i<=c:=by omega
 have DW:((i:Int)+1).toNat=i+1:=by omega
 have hGi:¬ (G=i):=by omega
 have RZ:¬ (G=i+1):=by omega
 have hci:¬ (c=i):=by omega
 clear cQ lH mC He Ao DV rZ Bc hold hg hv fW dd gY gG;go_enter Tryz.func113,Tryz.ntmps113;go_wp2_with (at_builtin;refine Lib.wpList_append_run _ rfl _ _ _ _ rfl _ _ rfl rfl _ _ wQ ?_);go_region_law (refine dj rfl _ _ 40 40 rfl _ _ (by simp[No,Om]) (by simp[No,Om]) (sU _ _ _) ?_)
 go_wp2_with fail;go_ret;exact⟨G,rfl,yO,wR,HF.out⟩
theorem fZ(base n vb:Nat)(v:Value)(xs vs:List Value)(w:World)(hown:w.ownsRow base 116 6 v n xs)(hn:n<=1000)(hbase:base<=w.heap.size)(hv:w.heap[vb]?=AI (By vs.toArray 116 (0,0)))(kY:vs.length=6)(mC:∀v∈vs,v.oneCell'=true) :
 aF 113 #[v,U O n,J (AI ⟨vb,0,be⟩) 1 1] w λe w'=>∃v',e=AT v'/\w'.ownsRow base 116 6 v' (n+1) (xs++vs)/\w.grownBy w' v.ownBlock:=by
 obtain⟨i0,fW,dd,gY,gG⟩:=I6 Tryz.np;have hnews:∀j u,vs[j]?=AI u->w.cell? ((⟨vb,0,be⟩:Addr).add j)=AI u:=λj v hj=>by rw[Addr.add_lit,ae hv];simpa using hj
 have HO:Hid (w.ownsRow base 116 6 v n xs):=hown;rcases hown.2 with⟨rfl,rfl⟩|⟨g,c,cur,rfl,_,_,fK,dN,_,_⟩;rotate_left;unfold Io at dN;by_cases Bb:c=n;subst Bb;all_goals
  clear hown hv;go_enter Tryz.func113,Tryz.ntmps113;go_wp2_with (at_builtin;refine wpList_append_own _ rfl _ _ 40 rfl base 116 i0 _ 6 56 J7 fW dd gY gG rfl (by omega) _ _ xs rfl HO.out ⟨vb,0,be⟩ 1 1 vs rfl (by omega) hnews mC (by unfold Io;omega) (by omega) hbase ?_);intro v' w' r1 r2 r3;go_wp2_with fail;go_ret;exact⟨v',rfl,r1,r2⟩
theorem fk(base i vb:Nat)(v:Value)(ms:List bJ)(m:bJ)(w:World)(hown:Own base w v ms)(hi:i<=ms.length)(hn:ms.length<=1000)(hbase:base<=w.heap.size)(hv:w.heap[vb]?=AI (By m.cs.toArray 116 (0,0)))(aT:v.ownBlock≠AI vb) :
 aF 113 #[v,U O i,J (AI ⟨vb,0,be⟩) 1 1] w λe w'=>∃v',e=AT v'/\Own base w' v' (ms.take i++m::ms.drop i)/\w.grownBy w' v.ownBlock:=by
 have hlen:(ms.take i++m::ms.drop i).length=ms.length+1:=by simp;omega
 have Hf:fl (ms.take i++m::ms.drop i)=(fl ms).take (i*6)++m.cs++(fl ms).drop (i*6):=by rw[cD,aZ,eY,eZ,Ip]
 by_cases nK:i=ms.length
 .subst nK
  refine(fZ base ms.length vb v (fl ms) m.cs w hown hn hbase hv rfl (db m)).mono ?_;rintro e w' ⟨v',rfl,h1,h2⟩;refine⟨v',rfl,?_,h2⟩;have e1:ms.take ms.length++m::ms.drop ms.length=ms++[m]:=by simp
  have e2:fl (ms++[m])=fl ms++m.cs:=by rw[cD,aZ];simp[fl]
  rw[e1];show w'.ownsRow base 116 6 v' (ms++[m]).length (fl (ms++[m]));rw[e2,show(ms++[m]).length=ms.length+1 by simp];exact h1
 .rcases hown.2 with⟨_,h0⟩|⟨g,c,cur,rfl,ey,hg,fK,dN,bZ,bf⟩
  .omega
  .have o5:vb≠g:=λe=>aT (by simp[Value.ownBlock,e])
   have lH:∀v∈cur.toList.take (ms.length*6),v.oneCell'=true:=by rw[bf];exact gJ ms
   have Mz:cur.toList.take (i*6)=(fl ms).take (i*6):=by rw[<- bf,List.take_take];congr 1;omega
   have key:∀l:List Value,l=cur.toList.take (i*6)++m.cs++(cur.toList.take (ms.length*6)).drop (i*6)->l=fl (ms.take i++m::ms.drop i):=λl hl=>by rw[hl,Hf,bf,Mz]
   by_cases du:ms.length+1<=c
   .refine(fi g ms.length c i vb cur m.cs w hg bZ (by omega) du (by unfold Io at dN;omega) o5 hv rfl lH (db m)).mono ?_
    rintro e w' ⟨rfl,dP,h1,h2,h3,h4⟩;refine⟨_,rfl,?_,h4⟩;rw[<- hlen];exact ic ey h1 h2 (by omega) dN (key _ (by rw[hlen];exact h3))
   .refine(fj g ms.length c i vb cur m.cs w hg bZ (by omega) fK (by omega) hn hv rfl lH (db m)).mono ?_
    rintro e w' ⟨G,rfl,yO,wR,dP,h1,h2,h3,h4⟩;refine⟨_,rfl,?_,mX h4 _⟩;rw[<- hlen];exact ic hbase h1 h2 (by omega) wR (key _ (by rw[hlen];exact h3))
end Wh
end Go.Proofs.YtfidhgjmifendaaGreatDoor
namespace Go.Proofs.YtfidhgjmifendaaGreatDoor
open Go.RowKit
structure Pl where
 x:Int
 y:Int
 z:Int
 h:Int
 s:Int
def cP(n lo hi:Int):Int:=min (max n lo) hi
def L9(p:Pl):Pl:=⟨cP p.x (-10000000) 10000000,cP p.y (-10000000) 10000000,cP p.z (-10000000) 10000000,cP p.h 0 1000000,cP p.s 0 1000⟩
structure rn(p:Pl):Prop where
 x0 : -10000000<=p.x
 x1:p.x<=10000000
 y0 : -10000000<=p.y
 y1:p.y<=10000000
 z0 : -10000000<=p.z
 z1:p.z<=10000000
 h0:0<=p.h
 h1:p.h<=1000000
 s0:0<=p.s
 s1:p.s<=1000
def pY(a b:Pl):Bool:=a.x==b.x&&(a.y==b.y&&(a.z==b.z&&(a.h==b.h&&a.s==b.s)))
def dZ(p:Pl):Int:=if pY p (L9 p)=true then 0 else 3
theorem FY(a b:Pl):pY a b=true↔a=b:=by
 obtain⟨a1,a2,a3,a4,a5⟩:=a;obtain⟨b1,b2,b3,b4,b5⟩:=b;simp[pY]
theorem kW{n lo hi:Int}(h:lo<=hi):n=cP n lo hi↔lo<=n/\n<=hi:=by unfold cP;omega
theorem eW(n lo hi:Int)(h:lo<=hi):lo<=cP n lo hi/\cP n lo hi<=hi:=by unfold cP;omega
theorem nj(p:Pl):dZ p=0↔rn p:=by
 obtain⟨x,y,z,h,s⟩:=p;have e:dZ ⟨x,y,z,h,s⟩=0↔pY ⟨x,y,z,h,s⟩ (L9 ⟨x,y,z,h,s⟩)=true:=by unfold dZ;split<;>simp[*]
 rw[e,FY];simp only[L9,Pl.mk.injEq];rw[kW (by omega),kW (by omega),kW (by omega),kW (by omega),kW (by omega)];exact⟨λ⟨⟨a,b⟩,⟨c,d⟩,⟨e,f⟩,⟨g,h⟩,⟨i,j⟩⟩=>⟨a,b,c,d,e,f,g,h,i,j⟩,λ⟨a,b,c,d,e,f,g,h,i,j⟩=>⟨⟨a,b⟩,⟨c,d⟩,⟨e,f⟩,⟨g,h⟩,⟨i,j⟩⟩⟩
theorem Dt(p:Pl):dZ p=0\/dZ p=3:=by unfold dZ;split<;>simp
theorem Tv(p:Pl):rn (L9 p):=
 ⟨(eW _ _ _ (by omega)).1,(eW _ _ _ (by omega)).2,(eW _ _ _ (by omega)).1,(eW _ _ _ (by omega)).2,(eW _ _ _ (by omega)).1,(eW _ _ _ (by omega)).2,(eW _ _ _ (by omega)).1,(eW _ _ _ (by omega)).2,(eW _ _ _ (by omega)).1,(eW _ _ _ (by omega)).2⟩
theorem FZ(n lo hi:Int)(w:World) :
 Calls AS 206 #[U O n,U O lo,U O hi] w λe w'=>e=AT (U O (cP n lo hi))/\w'=w:=by
 go_enter Tryz.func206,Tryz.ntmps206;go_wp2;all_goals
  go_ret;exact⟨xE (by unfold cP;omega),rfl⟩
theorem ru(x y z h s:Int)(w:World) :
 Calls AS 161 #[Ik #[U O x,U O y,U O z,U O h,U O s]] w λe w'=>e=AT (Ik #[U O (cP x (-10000000) 10000000),U O (cP y (-10000000) 10000000),U O (cP z (-10000000) 10000000),U O (cP h 0 1000000),U O (cP s 0 1000)])/\Below w.heap.size w w':=by
 go_enter Tryz.func161,Tryz.ntmps161;go_wp2_with fail;go_region_held3 (λw'=>w'.cell? ⟨w.heap.size,0,be⟩=AI (U O x)/\w'.cell? ⟨w.heap.size,1,be⟩=AI (U O y)/\w'.cell? ⟨w.heap.size,2,be⟩=AI (U O z)/\w'.cell? ⟨w.heap.size,3,be⟩=AI (U O h)/\w'.cell? ⟨w.heap.size,4,be⟩=AI (U O s)) (go_keep) (first|(go_at_call 206;refine(FZ _ _ _ _).mono ?_;rintro e w' ⟨rfl,rfl⟩))
 go_wp2_with fail;exact bodyPost_ret (v:=Ik #[U O (cP x (-10000000) 10000000),U O (cP y (-10000000) 10000000),U O (cP z (-10000000) 10000000),U O (cP h 0 1000000),U O (cP s 0 1000)]) (by simp[results,Tryz.results161,go_sem]) rfl ⟨rfl,(((Ib _ _).alloc (Ic _) _).alloc (by simp) _).drew⟩
theorem TJ(a b:Pl)(w:World):(Op.equalIn 10000 39 (Ik #[U O a.x,U O a.y,U O a.z,U O a.h,U O a.s]) (Ik #[U O b.x,U O b.y,U O b.z,U O b.h,U O b.s])).run AS w=.ok (pY a b) w:=by
 obtain⟨a1,a2,a3,a4,a5⟩:=a;obtain⟨b1,b2,b3,b4,b5⟩:=b;have u3:=run_underlying IF;have a3':=Tryz.isAgg3;have z3:=Tryz.sizeOf3;have hS:Tryz.prog.underlying 39=AI (.struct (Tryz.prog.fieldsOf 39)):=by kernel_rfl
 have hp:Tryz.prog.stoodInHeld 39=false:=by kernel_rfl
 rw[show(10000:Nat)=9999+1 from rfl,run_equalIn_agg w 9999 39 _ _ hS hp];simp only[Program.fieldsOf,Tryz.underlying39];go_simp;unfold pY;by_cases h1:a1=b1<;>by_cases h2:a2=b2<;>by_cases h3:a3=b3<;>by_cases h4:a4=b4<;>by_cases h5:a5=b5<;>simp[h1,h2,h3,h4,h5]
theorem aaL(a b:Pl)(w:World):Sem.run AS (binOp .neq 39 (Ik #[U O a.x,U O a.y,U O a.z,U O a.h,U O a.s]) (Ik #[U O b.x,U O b.y,U O b.z,U O b.h,U O b.s])) w=.ok (Ia (!pY a b)) w:=by
 rw[run_neq_struct,TJ];rfl
theorem lK(p:Pl)(w:World) :
 Calls AS 101 #[Ik #[U O p.x,U O p.y,U O p.z,U O p.h,U O p.s]] w λe w'=>e=AT (U O (dZ p))/\Below w.heap.size w w':=by
 have E6:=aaL p (L9 p);have HC:∀q,pY p (L9 p)=q->Hid (dZ p=bif q then 0 else 3):=λq hq=>(show dZ p=_ by unfold dZ;cases q<;>simp[hq]);generalize yQ:pY p (L9 p)=q at E6;have HD:=HC q yQ;clear yQ HC;generalize dZ p=cp at *;obtain⟨x,y,z,h,s⟩:=p;simp only[L9] at E6;have hgP:Tryz.prog.eqGuardType Tryz.prog.depth 39=false:=by kernel_rfl
 generalize hW:w.alloc (By #[U O x,U O y,U O z,U O h,U O s] 39)=W at *;have HW:Hid (Below w.heap.size w W):=by rw[<- hW];exact(Ib _ _).alloc (Ic _) _
 have E0:∀d os,(Ij (Iv W d) os).cell? ⟨w.heap.size,0,be⟩=AI (U O x):=Ig (by rw[<- hW];simp);have E1:∀d os,(Ij (Iv W d) os).cell? ⟨w.heap.size,1,be⟩=AI (U O y):=Ig (by rw[<- hW];simp);have E2:∀d os,(Ij (Iv W d) os).cell? ⟨w.heap.size,2,be⟩=AI (U O z):=Ig (by rw[<- hW];simp);have E3:∀d os,(Ij (Iv W d) os).cell? ⟨w.heap.size,3,be⟩=AI (U O h):=Ig (by rw[<- hW];simp);have E4:∀d os,(Ij (Iv W d) os).cell? ⟨w.heap.size,4,be⟩=AI (U O s):=Ig (by rw[<- hW];simp);have cN:∀d os,Calls AS 161 #[Ik #[U O x,U O y,U O z,U O h,U O s]] (Ij (Iv W d) os) λe fD=>e=AT (Ik #[U O (cP x (-10000000) 10000000),U O (cP y (-10000000) 10000000),U O (cP z (-10000000) 10000000),U O (cP h 0 1000000),U O (cP s 0 1000)])/\∃p:JI,fD=Ij (Iv W p.d) p.os:=λd os=>
  IU ((ru _ _ _ _ _ _).mono (by rintro e w' ⟨rfl,hb⟩;exact⟨rfl,hb⟩))
 go_enter Tryz.func101,Tryz.ntmps101;go_wp2_with fail;cases q
 all_goals
  simp only[Bool.not_true,Bool.not_false] at E6;refine IA (by kernel_rfl) (by kernel_rfl) ?_;repeat(quiet_step (exact cN _ _))
  refine bE λdq gT dR=>?_;clear cN E0 E1 E2 E3 E4;go_wp2_with fail;go_ret;exact⟨xE (by rw[HD.out];simp),HW.out.trans (dR.out.mono HW.out.size)⟩
end Go.Proofs.YtfidhgjmifendaaGreatDoor
namespace Go.Proofs.YtfidhgjmifendaaGreatDoor
namespace Wh
open Go.RowKit
def ord(a b:bJ):Int:=bO a.node b.node
theorem keyed:RL.Keyed ord:=RL.jC bJ.node
def bN(_ _:bJ):Bool:=true
abbrev bl(ms:List bJ):Prop:=RL.bl ord ms
abbrev aQ(ms:List bJ)(m:bJ):List bJ:=RL.fQ ord bN ms m
abbrev av(a b:List bJ):List bJ:=RL.join ord bN a b
abbrev At(ms:List bJ)(t:bJ)(p:Nat)(f:Bool):Prop:=RL.At ord dm ms t p f
abbrev aK(ms:List bJ):Bool:=RL.aK ord ms
theorem dO{ms:List bJ}(h:bl ms)(t:bJ):∀i j,i<=j->j<ms.length->ord (ms.getD j dm) t<0->ord (ms.getD i dm) t<0:=RL.dO ord dm keyed h t
theorem fp(ms:List bJ)(h:∀j,j+1<ms.length->ord (ms.getD j dm) (ms.getD (j+1) dm)<0):aK ms=true:=RL.gv ord dm ms h
theorem fq(ms:List bJ)(h:aK ms=true):∀j,j+1<ms.length->ord (ms.getD j dm) (ms.getD (j+1) dm)<0:=RL.ib ord dm ms h
theorem ku(ms:List bJ)(hr:bl ms)(t:bJ):∃p f,At ms t p f:=RL.ku ord dm keyed ms hr t
theorem ed{ms:List bJ}{t:bJ}{p q:Nat}{f e:Bool}(h:At ms t p f)(k:At ms t q e):p=q/\f=e:=RL.ed ord dm h k
theorem da(ms:List bJ)(m:bJ)(p:Nat)(f:Bool)(h:At ms m p f) :
 aQ ms m=if f=true then(if bN m (ms.getD p dm)=true then ms.set p m else ms) else ms.take p++m::ms.drop p:=RL.oM ord bN dm ms m p f h
theorem fH(ms:List bJ)(m x:bJ)(h:x∈aQ ms m):x=m\/x∈ms:=RL.oN ord bN ms m x h
theorem iw(ms:List bJ)(m:bJ)(h:bl ms):bl (aQ ms m):=RL.mY ord bN keyed ms m h
theorem kP(ms:List bJ)(m:bJ):ms.length<=(aQ ms m).length/\(aQ ms m).length<=ms.length+1:=RL.sw ord bN ms m
theorem dD(b a:List bJ)(h:bl a):bl (av a b):=RL.kH ord bN keyed b a h
theorem df(b a:List bJ):(av a b).length<=a.length+b.length:=RL.oO ord bN b a
theorem eB(b a:List bJ)(x:bJ)(h:x∈av a b):x∈a\/x∈b:=RL.oP ord bN b a x h
theorem gj(a b:List bJ)(j:Nat)(hj:j<b.length):av a (b.take (j+1))=aQ (av a (b.take j)) (b.getD j dm):=RL.qf ord bN dm a b j hj
theorem iu(b:List bJ)(h:bl b):av [] b=b:=RL.join_nil ord bN b h
theorem pt{ms:List bJ}{m:bJ}(h:∀m∈ms,m.ok)(hm:m.ok):∀x∈aQ ms m,x.ok:=by
 intro x hx;rcases fH ms m x hx with rfl|hx
 .exact hm
 .exact h x hx
theorem iJ(b a:List bJ)(ha:∀m∈a,m.ok)(hb:∀m∈b,m.ok):∀x∈av a b,x.ok:=by
 intro x hx;rcases eB b a x hx with h|h
 .exact ha x h
 .exact hb x h
def bJ.e(m:bJ):Int:=if ba m.node=true then dZ ⟨m.x,m.y,m.z,m.h,m.s⟩ else 1
def aU:List bJ->Int
 |[]=>0
 |m::r=>if m.e=0 then aU r else m.e
theorem cB:∀(ms:List bJ),(∀j,j<ms.length->(ms.getD j dm).e=0)->aU ms=0
 |[],_=>rfl
 |m::r,h=>by
  have h0:=h 0 (by simp);simp only[I2] at h0;rw[aU,if_pos h0];exact cB r λj hj=>by have:=h (j+1) (by simpa using hj);simpa using this
theorem dQ:∀(ms:List bJ) (k:Nat),k<ms.length->(∀j,j<k->(ms.getD j dm).e=0)->(ms.getD k dm).e≠0->aU ms=(ms.getD k dm).e
 |[],k,h,_,_=>by simp at h
 |m::r,0,_,_,aT=>by
  simp only[I2] at aT ⊢;rw[aU,if_neg aT]
 |m::r,k+1,h,hz,aT=>by
  have h0:=hz 0 (by omega);simp only[I2] at h0;rw[aU,if_pos h0,Jz];rw[Jz] at aT;exact dQ r k (by simpa using h) (λj hj=>by have:=hz (j+1) (by omega);simpa using this) aT
theorem bb:∀(ms:List bJ),aU ms=0->∀m∈ms,m.e=0
 |[],_,m,hm=>by simp at hm
 |x::r,h,m,hm=>by
  rw[aU] at h;split at h
  .rename_i hx
   rcases List.mem_cons.1 hm with rfl|hm
   .exact hx
   .exact bb r h m hm
  .rename_i hx;exact absurd h hx
theorem ft:∀(ms:List bJ),(∀m∈ms,m.e=0)->aU ms=0
 |[],_=>rfl
 |x::r,h=>by rw[aU,if_pos (h x (by simp))];exact ft r λm hm=>h m (by simp[hm])
def bj(ms:List bJ):Int:=if 20<ms.length then 2 else if aU ms=0 then(if aK ms=true then 0 else 4) else aU ms
theorem tC(ms:List bJ)(k:Nat)(hn:ms.length<=20)(hk:k<ms.length)(hz:∀j,j<k->(ms.getD j dm).e=0)(aT:(ms.getD k dm).e≠0):bj ms=(ms.getD k dm).e:=by
 have h:=dQ ms k hk hz aT;rw[bj,if_neg (by omega),h,if_neg aT]
theorem qZ(ms:List bJ)(hn:ms.length<=20)(hz:∀j,j<ms.length->(ms.getD j dm).e=0):bj ms=if aK ms=true then 0 else 4:=by
 rw[bj,if_neg (by omega),cB ms hz,if_pos rfl]
theorem af{ms:List bJ}(h:bj ms=0):ms.length<=20/\bl ms/\aU ms=0:=by
 unfold bj at h;split at h
 .omega
 .split at h
  .rename_i h1 h2
   split at h
   .rename_i h3
    exact⟨by omega,RL.lp ord keyed ms h3,h2⟩
   .omega
  .rename_i h1 h2;exact absurd h h2
theorem jR{ms:List bJ}(h1:ms.length<=20)(h2:bl ms)(h3:∀m∈ms,m.e=0):bj ms=0:=by
 rw[bj,if_neg (by omega),ft ms h3,if_pos rfl,if_pos (RL.jF ord ms h2)]
def dE(a b:List bJ)(k:Nat):List bJ:=if k=0 then[] else if k=1 then a else av a b
end Wh
namespace Wh
open Go.RowKit
theorem dh(a b:bJ)(w:World) :
 aF 112 #[Ik #[Y a.node,U O a.x,U O a.y,U O a.z,U O a.h,U O a.s],Ik #[Y b.node,U O b.x,U O b.y,U O b.z,U O b.h,U O b.s]] w λe w'=>e=AT (U O (ord a b))/\Below w.heap.size w w':=by
 go_enter Tryz.func112,Tryz.ntmps112;go_wp2_with (go_at_call 49;refine(gr _ _ _).mono ?_;rintro e w' ⟨rfl,rfl⟩);go_ret;exact⟨rfl,((Ib _ _).alloc (Ic _) _).alloc (by simp) _⟩
theorem gk(a b:bJ)(w:World) :
 aF 237 #[Ik #[Y a.node,U O a.x,U O a.y,U O a.z,U O a.h,U O a.s],Ik #[Y b.node,U O b.x,U O b.y,U O b.z,U O b.h,U O b.s]] w λe w'=>e=AT (Ia (bN a b))/\Below w.heap.size w w':=by
 go_enter Tryz.func237,Tryz.ntmps237;go_wp2;go_ret;exact⟨rfl,by first|exact Ib _ _|exact((Ib _ _).alloc (Ic _) _).alloc (by simp) _⟩
end Wh
namespace Wh
open Go.RowKit
theorem jE(ms:List bJ)(b off cap:Nat)(w:World)(hr:Row w b off ms)(hb:b<w.heap.size)(hn:ms.length<=20) :
 Calls AS 164 #[J (AI ⟨b,off,be⟩) ms.length cap,IP (.func 112) #[] #[]] w λe w'=>e=AT (Ia (aK ms))/\Below w.heap.size w w':=by
 have HR:Hid (Row w b off ms):=hr;clear hr;have H4:Hid (∀k,k+1<ms.length->0<=ord (ms.getD k dm) (ms.getD (k+1) dm)->aK ms=false):=λk hk hl=>by
  rcases h:aK ms with _|_
  .rfl
  .have:=fq ms h k hk;omega
 have H0:Hid ((∀j,j+1<ms.length->ord (ms.getD j dm) (ms.getD (j+1) dm)<0)->aK ms=true):=fp ms;generalize hN:ms.length=n at *;have HN:Hid (ms.length=n):=hN;clear hN;generalize hC:aK ms=res at *;have HC:Hid (aK ms=res):=hC;clear hC;go_enter Tryz.func164,Tryz.ntmps164;go_wp2_with fail;go_loopw [5] (λi w'=>∃k:Nat,(k+1<=n\/k=0)/\i=U O (k+1)/\Below w.heap.size w w'/\Hid (∀j,j<k->ord (ms.getD j dm) (ms.getD (j+1) dm)<0)) (λi _=>n-(intOf i).toNat)
 case atStart=>exact⟨0,.inr rfl,rfl,Ib _ _,λj h=>absurd h (Jl _)⟩
 case round=>
  obtain⟨q,hq,rfl,aN,hz⟩:=hrel;obtain⟨eG,nt⟩:=cj aN;have cC:=aN.size;by_cases aR:q+1<n
  .have F:=((HR.out q (by rw[HN.out];omega)).eq (λo=>eG b o hb)).re
   have G:=((HR.out (q+1) (by rw[HN.out];exact aR)).eq (λo=>eG b o hb)).re;have HK:Hid (0<=ord (ms.getD q dm) (ms.getD (q+1) dm)->res=false):=λh=>H4.out q aR h;have HZ:Hid (ord (ms.getD q dm) (ms.getD (q+1) dm)<0->∀j,j<q+1->ord (ms.getD j dm) (ms.getD (j+1) dm)<0):=λh j hj=>by
    rcases Nat.lt_succ_iff_lt_or_eq.1 hj with h2|rfl
    .exact hz.out j h2
    .exact h
   generalize ms.getD q dm=m1 at *;generalize ms.getD (q+1) dm=m2 at *;have hN:∀d os,Calls AS 112 #[Ik #[Y m1.node,U O m1.x,U O m1.y,U O m1.z,U O m1.h,U O m1.s],Ik #[Y m2.node,U O m2.x,U O m2.y,U O m2.z,U O m2.h,U O m2.s]] (Ij (Iv wr d) os) λe fD=>e=AT (U O (ord m1 m2))/\∃p:JI,fD=Ij (Iv wr p.d) p.os:=λd os=>IU (dh m1 m2 _);simp only[As] at F G;clear eG nt;generalize ord m1 m2=r at *;have Gt:IntKind.i64.wrap (q:Int)=(q:Int):=by rw[IY];omega
   have Ea:q<n:=by omega
   have hq1:(q:Int)+1<(n:Int):=by omega
   have hq0:(0:Int)<=(q:Int)+1:=by omega
   have DW:((q:Int)+1).toNat=q+1:=by omega
   go_wp2_with fail;refine IA (by kernel_rfl) (by kernel_rfl) ?_;repeat(quiet_step (exact hN _ _))
   refine bE λdq gT dR=>?_;clear hN F G;by_cases hl:r<0
   .have mo:¬ (0<=r):=by omega
    go_wp2_with fail;go_roundw
    case rel=>exact⟨q+1,.inl (by omega),by go_num,aN.trans (dR.out.mono cC),HZ.out hl⟩
    case measure=>simp[intOf];omega
   .have mo:0<=r:=by omega
    have h4:Hid (res=false):=HK.out mo;go_wp2_with fail;go_ret;exact⟨aL h4.out.symm,aN.trans (dR.out.mono cC)⟩
  .have h0:Hid (res=true):=H0.out λj hj=>hz.out j (by omega)
   go_wp2_with fail;go_ret;exact⟨aL h0.out.symm,aN⟩
theorem gm(a:Option Addr)(cap:Nat)(fv:Value)(w:World) :
 Calls AS 164 #[J a 0 cap,fv] w λe w'=>e=AT (Ia true)/\w'=w:=by
 go_enter Tryz.func164,Tryz.ntmps164;go_wp2_with fail;go_loop [5] (λi=>i=U O 1) (λ_=>0)
 case atStart=>rfl
 case round=>
  subst hrel;go_wp2_with fail;go_ret;exact⟨rfl,rfl⟩
theorem gn(ms:List bJ)(b off cap:Nat)(lk:bJ)(w:World)(hr:Row w b off ms)(hb:b<w.heap.size)(hn:ms.length<=40)(gW:∀i j,i<=j->j<ms.length->ord (ms.getD j dm) lk<0->ord (ms.getD i dm) lk<0) :
 Calls AS 176 #[J (AI ⟨b,off,be⟩) ms.length cap,Ik #[Y lk.node,U O lk.x,U O lk.y,U O lk.z,U O lk.h,U O lk.s],IP (.func 112) #[] #[]] w λe w'=>∃(p:Nat) (f:Bool),e=AT (Im #[U O p,Ia f])/\Below w.heap.size w w' /\
  p<=ms.length/\(∀j,j<p->ord (ms.getD j dm) lk<0)/\(∀j,p<=j->j<ms.length->0<=ord (ms.getD j dm) lk)/\(f=true↔p<ms.length/\ord (ms.getD p dm) lk=0):=by
 have HR:Hid (Row w b off ms):=hr;clear hr;have HM:Hid _:=gW;clear gW;generalize hN:ms.length=n at *;have HN:Hid (ms.length=n):=hN;clear hN;go_enter Tryz.func176,Tryz.ntmps176;go_wp2_with fail;obtain⟨W0,bA,bM,eE,dF⟩:=bV w #[Y lk.node,U O lk.x,U O lk.y,U O lk.z,U O lk.h,U O lk.s] 116;have El:Hid (Row W0 b off ms):=HR.out.later bM hb;have HT:Hid (As W0 w.heap.size 0 lk):=⟨ae dF 0,ae dF 1,ae dF 2,ae dF 3,ae dF 4,ae dF 5⟩;have cY:Hid (Below w.heap.size w W0):=bM;have sI:Hid (W0=w.alloc (By #[Y lk.node,U O lk.x,U O lk.y,U O lk.z,U O lk.h,U O lk.s] 116)):=bA;clear dF bM HR bA;have wA:b<w.heap.size+1:=by omega
 go_loopw [9,10] (λi j w'=>∃k l:Nat,k<=l/\l<=n/\i=U O k/\j=U O l/\Below (w.heap.size+1) W0 w'/\Hid (∀j,j<k->ord (ms.getD j dm) lk<0)/\Hid (∀j,l<=j->j<n->0<=ord (ms.getD j dm) lk)) (λi j _=>(intOf j).toNat-(intOf i).toNat)
 case atStart=>exact⟨0,n,IH _,Ic _,rfl,rfl,by rw[sI.out];exact Ib _ _,λj h=>absurd h (Jl _),λj h1 h2=>by omega⟩
 case round=>
  obtain⟨k,l,iI,KG,rfl,rfl,aN,yd,ye⟩:=hrel;have cC:=aN.size;have eG:∀b o,b<w.heap.size+1->wr.cell? ⟨b,o,be⟩=W0.cell? ⟨b,o,be⟩:=λb o h=>aN.cell (p:=⟨b,o,be⟩) h;have G:=(HT.out.eq (λo=>eG w.heap.size o (by omega))).re;simp only[As,ID] at G;by_cases aR:k<l
  .obtain⟨h,hh,h1,h2⟩:∃h:Nat,((k:Int)+(l:Int))/2=(h:Int)/\k<=h/\h<l:=⟨(k+l)/2,by omega,by omega,by omega⟩
   have F:=((El.out h (by rw[HN.out];omega)).eq (λo=>eG b o wA)).re;have po:=HM.out;have HK:Hid (ord (ms.getD h dm) lk<0->∀j,j<h+1->ord (ms.getD j dm) lk<0):=λhx j hj=>po j h (by omega) (by omega) hx;have HL:Hid (0<=ord (ms.getD h dm) lk->∀j,h<=j->j<n->0<=ord (ms.getD j dm) lk):=λhx j hj Cz=>by
    apply Int.not_lt.1;intro hq;have:=po h j hj Cz hq;omega
   clear po;have hhn:h<n:=by omega
   generalize ms.getD h dm=m at *;have hO:∀d os,Calls AS 112 #[Ik #[Y m.node,U O m.x,U O m.y,U O m.z,U O m.h,U O m.s],Ik #[Y lk.node,U O lk.x,U O lk.y,U O lk.z,U O lk.h,U O lk.s]] (Ij (Iv wr d) os) λe fD=>e=AT (U O (ord m lk))/\∃p:JI,fD=Ij (Iv wr p.d) p.os:=λd os=>IU (dh m lk _);simp only[As] at F;clear eG;generalize ord m lk=r at *;go_wp2_with fail;refine IA (by kernel_rfl) (by kernel_rfl) ?_;repeat(quiet_step (exact hO _ _))
   refine bE λdq gT dR=>?_;clear hO F G;by_cases uV:r<0
   .go_wp2_with fail
    exact⟨⟨h+1,l,by omega,by omega,by go_num,rfl,aN.trans (dR.out.mono (by omega)),HK.out uV,ye⟩,by simp[intOf];omega⟩
   .have zv:0<=r:=by omega
    go_wp2_with fail;exact⟨⟨k,h,by omega,by omega,rfl,rfl,aN.trans (dR.out.mono (by omega)),yd,HL.out zv⟩,by simp[intOf];omega⟩
  .have BZ:l=k:=by omega
   subst BZ;by_cases gK:l<n
   .have F:=((El.out l (by rw[HN.out];omega)).eq (λo=>eG b o wA)).re
    generalize hm:ms.getD l dm=m at *;have Hm:Hid (ms.getD l dm=m):=hm;clear hm;have hO:∀d os,Calls AS 112 #[Ik #[Y m.node,U O m.x,U O m.y,U O m.z,U O m.h,U O m.s],Ik #[Y lk.node,U O lk.x,U O lk.y,U O lk.z,U O lk.h,U O lk.s]] (Ij (Iv wr d) os) λe fD=>e=AT (U O (ord m lk))/\∃p:JI,fD=Ij (Iv wr p.d) p.os:=λd os=>IU (dh m lk _);simp only[As] at F;clear eG;generalize EY:ord m lk=r at *;have Hr:Hid (ord m lk=r):=EY;clear EY;go_wp2_with fail;refine IA (by kernel_rfl) (by kernel_rfl) ?_;repeat(quiet_step (exact hO _ _))
    refine bE λdq gT dR=>?_;clear hO F G;go_wp2_with fail;go_ret2;refine⟨l,_,rfl,cY.out.trans ((aN.trans (dR.out.mono (by omega))).mono (by omega)),by omega,yd.out,ye.out,?_⟩;rw[Hm.out,Hr.out];simp[gK]
   .clear G
    have hkd:decide ((l:Int)<(n:Int))=false:=by simp;omega
    go_wp2_with fail;go_quiet (fail)
    go_wp2_with fail;go_ret2;refine⟨l,_,rfl,cY.out.trans ((Jc aN _).mono (by omega)),by omega,yd.out,ye.out,?_⟩;simp[gK]
theorem fw(a:Option Addr)(cap:Nat)(lk:bJ)(fv:Value)(w:World) :
 Calls AS 176 #[J a 0 cap,Ik #[Y lk.node,U O lk.x,U O lk.y,U O lk.z,U O lk.h,U O lk.s],fv] w λe w'=>e=AT (Im #[U O 0,Ia false])/\Below w.heap.size w w':=by
 go_enter Tryz.func176,Tryz.ntmps176;go_wp2_with fail;go_loop [9,10] (λi j=>i=U O 0/\j=U O 0) (λ_ _=>0)
 case atStart=>exact⟨rfl,rfl⟩
 case round=>
  obtain⟨rfl,rfl⟩:=hrel;go_wp2_with fail;go_quiet (fail)
  go_wp2_with fail;go_ret2;exact⟨rfl,Jc ((Ib _ _).alloc (Ic _) _) _⟩
theorem fx(ms:List bJ)(v:Value)(lk:bJ)(w:World)(h:Sl w v ms)(hn:ms.length<=40)(gW:∀i j,i<=j->j<ms.length->ord (ms.getD j dm) lk<0->ord (ms.getD i dm) lk<0) :
 Calls AS 176 #[v,Ik #[Y lk.node,U O lk.x,U O lk.y,U O lk.z,U O lk.h,U O lk.s],IP (.func 112) #[] #[]] w λe w'=>∃(p:Nat) (f:Bool),e=AT (Im #[U O p,Ia f])/\Below w.heap.size w w'/\At ms lk p f:=by
 obtain⟨a,cap,rfl,hs,h⟩:=h;rcases h with rfl|⟨b,off,rfl,hb,hr⟩
 .refine(fw a cap lk _ w).mono ?_
  rintro e w' ⟨rfl,hb⟩;exact⟨0,false,rfl,hb,⟨by simp,λj h=>by omega,λj h h2=>by simp at h2,by simp⟩⟩
 .refine(gn ms b off cap lk w hr hb hn gW).mono ?_
  rintro e w' ⟨p,f,rfl,aN,g1,g2,g3,g4⟩;exact⟨p,f,rfl,aN,⟨g1,g2,g3,g4⟩⟩
theorem fm(ms:List bJ)(v:Value)(lk:bJ)(w:World)(h:Sl w v ms)(hn:ms.length<=40)(hr:bl ms) :
 Calls AS 111 #[v,Ik #[Y lk.node,U O lk.x,U O lk.y,U O lk.z,U O lk.h,U O lk.s],IP (.func 112) #[] #[]] w λe w'=>∃(p:Nat) (f:Bool),e=AT (Im #[U O p,Ia f])/\Below w.heap.size w w'/\At ms lk p f:=by
 have HC:Hid (∀w',Below w.heap.size w w'->Calls AS 176 #[v,Ik #[Y lk.node,U O lk.x,U O lk.y,U O lk.z,U O lk.h,U O lk.s],IP (.func 112) #[] #[]] w' λe fD=>∃(p:Nat) (f:Bool),e=AT (Im #[U O p,Ia f])/\Below w'.heap.size w' fD/\At ms lk p f):=
  λw' hb=>fx ms v lk w' (h.below hb) hn (dO hr lk)
 clear h hn hr;go_enter Tryz.func111,Tryz.ntmps111;go_wp2_with (go_at_call 176;refine(HC.out _ ?hb).mono ?_)
 case hb=>exact(Ib _ _).alloc (Ic _) _
 rintro e w' ⟨p,f,rfl,aN,cH⟩;have fb:Hid (At ms lk p f):=cH;clear cH;go_wp2_with fail;go_ret2;exact⟨p,f,rfl,((Ib _ _).alloc (Ic _) _).trans (aN.mono (by simp)),fb.out⟩
end Wh
end Go.Proofs.YtfidhgjmifendaaGreatDoor
namespace Go.Proofs.YtfidhgjmifendaaGreatDoor
open Go.RowKit
def dp:Pl:=⟨0,0,0,0,0⟩
def F9(w:World)(b off:Nat)(ps:List Pl):Prop:=∀k,k<ps.length ->
 w.cell? ⟨b,off+k*5,be⟩=AI (U O (ps.getD k dp).x)/\w.cell? ⟨b,off+k*5+1,be⟩=AI (U O (ps.getD k dp).y)/\w.cell? ⟨b,off+k*5+2,be⟩=AI (U O (ps.getD k dp).z)/\w.cell? ⟨b,off+k*5+3,be⟩=AI (U O (ps.getD k dp).h)/\w.cell? ⟨b,off+k*5+4,be⟩=AI (U O (ps.getD k dp).s)
theorem F9.below{w w':World}{b off:Nat}{ps:List Pl}(h:F9 w b off ps)(hb:Below w.heap.size w w'):F9 w' b off ps:=λk hk=>by
 obtain⟨h0,h1,h2,h3,h4⟩:=h k hk;have aR:b<w.heap.size:=World.block_lt_of_cell? w ⟨b,off+k*5,be⟩ h0;exact⟨by rw[hb.cell aR];exact h0,by rw[hb.cell aR];exact h1,by rw[hb.cell aR];exact h2,by rw[hb.cell aR];exact h3,by rw[hb.cell aR];exact h4⟩
def jf:List Pl->Int
 |[]=>0
 |p::r=>if dZ p=0 then jf r else 3
theorem oE:∀(ps:List Pl),jf ps=0↔∀j,j<ps.length->dZ (ps.getD j dp)=0
 |[]=>by simp[jf]
 |p::r=>by
  unfold jf;by_cases h:dZ p=0
  .rw[if_pos h,oE r]
   constructor
   .intro g j hj
    cases j with
    |zero=>simpa using h
    |succ j=>simpa using g j (by simpa using hj)
   .intro g j hj
    simpa using g (j+1) (by simpa using hj)
  .rw[if_neg h]
   exact⟨λe=>by simp at e,λg=>absurd (by simpa using g 0 (by simp)) h⟩
theorem tR:∀(ps:List Pl),jf ps=0\/jf ps=3
 |[]=>.inl rfl
 |p::r=>by
  unfold jf;split
  .exact tR r
  .exact .inr rfl
theorem Ga{ps:List Pl}{k:Nat}(hk:k<ps.length)(h:dZ (ps.getD k dp)≠0):jf ps=3:=by
 rcases tR ps with e|e
 .exact absurd ((oE ps).1 e k hk) h
 .exact e
theorem kE(ps:List Pl)(b off n cap:Nat)(w:World)(hn:ps.length=n)(hr:F9 w b off ps)(yQ:n<=1000) :
 Calls AS 233 #[J (AI ⟨b,off,be⟩) n cap] w λe w'=>e=AT (U O (jf ps))/\Below w.heap.size w w':=by
 have HR:Hid (F9 w b off ps):=hr;have HN:Hid _:=hn;clear hr hn;go_enter Tryz.func233,Tryz.ntmps233;go_wp2;go_loopw [8] (λi w'=>∃k:Nat,k<=n/\i=U O k/\Hid (Below w.heap.size w w')/\Hid (∀j,j<k->dZ (ps.getD j dp)=0)) (λi _=>n-(intOf i).toNat)
 case atStart=>exact⟨0,IH _,rfl,Ib _ _,λj hj=>by omega⟩
 case round=>
  obtain⟨k,hk,rfl,HB,HZ⟩:=hrel;by_cases aR:k<n
  .obtain⟨c0,c1,c2,c3,c4⟩:=HR.out.below HB.out k (by rw[HN.out];exact aR)
   have HS:Hid (dZ (ps.getD k dp)=0->∀j,j<k+1->dZ (ps.getD j dp)=0):=λh j hj=>by
    by_cases e:j=k
    .subst e;exact h
    .exact HZ.out j (by omega)
   have HX:Hid (dZ (ps.getD k dp)≠0->jf ps=dZ (ps.getD k dp)):=λh=>by
    rw[Ga (by rw[HN.out];exact aR) h];exact((Dt _).resolve_left h).symm
   generalize ps.getD k dp=pk at *;obtain⟨x,y,z,h,s⟩:=pk;simp only at c0 c1 c2 c3 c4;clear HZ;go_wp2_with fail;refine(lK ⟨x,y,z,h,s⟩ _).mono ?_;rintro e w1 ⟨rfl,aB⟩;have aY:Hid _:=(HB.out.alloc HB.out.size _).trans (aB.mono (by have:=HB.out.size;simp;omega));clear aB c0 c1 c2 c3 c4;by_cases hc:dZ ⟨x,y,z,h,s⟩=0
   .have hc':(dZ ⟨x,y,z,h,s⟩!=0)=false:=by simpa using hc
    have tr:=HS.out hc;have T3:Hid _:=tr;clear tr HS HX hc;go_wp2_with fail;go_roundw
    case rel=>exact⟨k+1,by omega,by go_num,aY,T3⟩
    case measure=>simp[intOf];omega
   .have hc':(dZ ⟨x,y,z,h,s⟩!=0)=true:=by simpa using hc
    have HE:Hid _:=HX.out hc;clear HS HX hc;go_wp2_with fail;go_ret;exact⟨xE HE.out.symm,aY.out⟩
  .have HE:Hid _:=(oE ps).2 (λj hj=>HZ.out j (by have:=HN.out;omega))
   clear HZ;go_wp2_with fail;go_ret;exact⟨xE HE.out.symm,HB.out⟩
def DF(a b:Pl):Int:=(a.x-b.x)*(a.x-b.x)+(a.y-b.y)*(a.y-b.y)+(a.z-b.z)*(a.z-b.z)
def fN(a b:Pl):Int:=rt (DF a b)
def rQ(a b:Pl):Int:=fN a b+a.h+b.h
theorem Ai{m:Int}(h0 : -9223372036854775808<=m)(h1:m<=9223372036854775807):IntKind.i64.wrap m=m:=by
 rw[IY];omega
theorem sq_nonneg(x:Int):0<=x*x:=by
 rcases Int.le_total 0 x with h|h
 .exact Int.mul_nonneg h h
 .exact Int.mul_nonneg_of_nonpos_of_nonpos h h
theorem aaM{x m:Int}(h0 : -m<=x)(h1:x<=m):x*x<=m*m:=by
 rcases Int.le_total 0 x with h|h
 .exact DA h h1
 .have:=DA (a := -x) (b:=m) (by omega) (by omega)
  rwa [Int.neg_mul_neg] at this
theorem wv{x:Int}(h0 : -20000000<=x)(h1:x<=20000000):x*x<=400000000000000:=aaM (m:=20000000) h0 h1
theorem Aj{a b:Pl}(ha:rn a)(hb:rn b):0<=DF a b/\DF a b<=1200000000000000:=by
 have h1:=wv (x:=a.x-b.x) (by have:=ha.x0;have:=hb.x1;omega) (by have:=ha.x1;have:=hb.x0;omega);have h2:=wv (x:=a.y-b.y) (by have:=ha.y0;have:=hb.y1;omega) (by have:=ha.y1;have:=hb.y0;omega);have h3:=wv (x:=a.z-b.z) (by have:=ha.z0;have:=hb.z1;omega) (by have:=ha.z1;have:=hb.z0;omega);have g1:=sq_nonneg (a.x-b.x);have g2:=sq_nonneg (a.y-b.y);have g3:=sq_nonneg (a.z-b.z);unfold DF;omega
theorem Gb{n r:Int}(h:qS n r):qS n (rt n):=by rw[rt_eq h];exact h
theorem DG:∀(n:Nat),∃r:Nat,qS n r
 |0=>⟨0,by decide,by decide,by decide⟩
 |n+1=>by
  obtain⟨r,h0,h1,h2⟩:=DG n;by_cases h:(((r+1:Nat):Int))*((r+1:Nat):Int)<=((n+1:Nat):Int)
  .refine⟨r+1,by omega,h,?_⟩
   have e1:((r:Int)+1+1)*((r:Int)+1+1)=((r:Int)+1)*((r:Int)+1)+2*r+3:=by
    simp only[Int.add_mul,Int.mul_add];omega
   push_cast
   omega
  .refine⟨r,h0,by push_cast;omega,by push_cast at h ⊢;omega⟩
theorem aaN{n:Int}(h:0<=n):qS n (rt n):=by
 obtain⟨r,hr⟩:=DG n.toNat;rw[Int.toNat_of_nonneg h] at hr;exact Gb hr
theorem aaO{n:Int}(h0:0<=n)(h1:n<=1200000000000000):0<=rt n/\rt n<=34641016:=by
 obtain⟨h,g,_⟩:=aaN h0;refine⟨h,?_⟩;apply Classical.byContradiction;intro c;have:=DA (a:=34641017) (b:=rt n) (by omega) (by omega);omega
theorem qP{a b:Pl}(ha:rn a)(hb:rn b):0<=fN a b/\fN a b<=34641016:=
 aaO (Aj ha hb).1 (Aj ha hb).2
theorem qO(a b:Pl)(w:World)(ha:rn a)(hb:rn b) :
 Calls AS 270 #[Ik #[U O a.x,U O a.y,U O a.z,U O a.h,U O a.s],Ik #[U O b.x,U O b.y,U O b.z,U O b.h,U O b.s]] w λe w'=>e=AT (U O (fN a b))/\Below w.heap.size w w':=by
 have h1:=wv (x:=a.x-b.x) (by have:=ha.x0;have:=hb.x1;omega) (by have:=ha.x1;have:=hb.x0;omega);have h2:=wv (x:=a.y-b.y) (by have:=ha.y0;have:=hb.y1;omega) (by have:=ha.y1;have:=hb.y0;omega);have h3:=wv (x:=a.z-b.z) (by have:=ha.z0;have:=hb.z1;omega) (by have:=ha.z1;have:=hb.z0;omega);have g1:=sq_nonneg (a.x-b.x);have g2:=sq_nonneg (a.y-b.y);have g3:=sq_nonneg (a.z-b.z);have HE:Hid (fN a b=rt ((a.x-b.x)*(a.x-b.x)+(a.y-b.y)*(a.y-b.y)+(a.z-b.z)*(a.z-b.z))):=(show fN a b=_ from rfl);obtain⟨ax0,ax1,ay0,ay1,az0,az1,_,_,_,_⟩:=ha;obtain⟨bx0,bx1,by0,by1,bz0,bz1,_,_,_,_⟩:=hb;generalize fN a b=r at *;obtain⟨x1,y1,z1,p1,s1⟩:=a;obtain⟨x2,y2,z2,p2,s2⟩:=b;simp only at *;go_enter Tryz.func270,Tryz.ntmps270;go_wp2_with fail;go_quiet (fail)
 go_wp2_with (go_at_call 286;refine(Lo _ _ (by omega) (by omega)).mono ?_;rintro e w' ⟨rfl,rfl⟩);go_ret;exact⟨xE HE.out.symm,Jc (((Ib _ _).alloc (Ic _) _).alloc (by simp) _) _⟩
theorem Nw(a b:Pl)(w:World)(ha:rn a)(hb:rn b) :
 Calls AS 234 #[Ik #[U O a.x,U O a.y,U O a.z,U O a.h,U O a.s],Ik #[U O b.x,U O b.y,U O b.z,U O b.h,U O b.s]] w λe w'=>e=AT (U O (rQ a b))/\Below w.heap.size w w':=by
 obtain⟨r0,r1⟩:=qP ha hb;have HE:Hid (rQ a b=fN a b+a.h+b.h):=(show rQ a b=_ from rfl);have so:=λw=>qO a b w ha hb;have h0:=ha.h0;have h1:=ha.h1;have g0:=hb.h0;have g1:=hb.h1;clear ha hb;generalize fN a b=r at *;generalize rQ a b=f at *;obtain⟨x1,y1,z1,p1,s1⟩:=a;obtain⟨x2,y2,z2,p2,s2⟩:=b;simp only at *;generalize hW:(w.alloc (By #[U O x1,U O y1,U O z1,U O p1,U O s1] 39)).alloc (By #[U O x2,U O y2,U O z2,U O p2,U O s2] 39)=W at *;have HW:Hid (Below w.heap.size w W):=by rw[<- hW];exact((Ib _ _).alloc (Ic _) _).alloc (by simp) _
 have E0:∀d os,(Ij (Iv W d) os).cell? ⟨w.heap.size,0,be⟩=AI (U O x1):=Ig (by rw[<- hW];simp);have E1:∀d os,(Ij (Iv W d) os).cell? ⟨w.heap.size,1,be⟩=AI (U O y1):=Ig (by rw[<- hW];simp);have E2:∀d os,(Ij (Iv W d) os).cell? ⟨w.heap.size,2,be⟩=AI (U O z1):=Ig (by rw[<- hW];simp);have E3:∀d os,(Ij (Iv W d) os).cell? ⟨w.heap.size,3,be⟩=AI (U O p1):=Ig (by rw[<- hW];simp);have E4:∀d os,(Ij (Iv W d) os).cell? ⟨w.heap.size,4,be⟩=AI (U O s1):=Ig (by rw[<- hW];simp);have F0:∀d os,(Ij (Iv W d) os).cell? ⟨w.heap.size+1,0,be⟩=AI (U O x2):=Ig (by rw[<- hW];simp);have F1:∀d os,(Ij (Iv W d) os).cell? ⟨w.heap.size+1,1,be⟩=AI (U O y2):=Ig (by rw[<- hW];simp);have F2:∀d os,(Ij (Iv W d) os).cell? ⟨w.heap.size+1,2,be⟩=AI (U O z2):=Ig (by rw[<- hW];simp);have F3:∀d os,(Ij (Iv W d) os).cell? ⟨w.heap.size+1,3,be⟩=AI (U O p2):=Ig (by rw[<- hW];simp);have F4:∀d os,(Ij (Iv W d) os).cell? ⟨w.heap.size+1,4,be⟩=AI (U O s2):=Ig (by rw[<- hW];simp);have cN:∀d os,Calls AS 270 #[Ik #[U O x1,U O y1,U O z1,U O p1,U O s1],Ik #[U O x2,U O y2,U O z2,U O p2,U O s2]] (Ij (Iv W d) os) λe fD=>e=AT (U O r)/\∃p:JI,fD=Ij (Iv W p.d) p.os:=λd os=>
  IU ((so _).mono (by rintro e w' ⟨rfl,hb⟩;exact⟨rfl,hb⟩))
 clear so;go_enter Tryz.func234,Tryz.ntmps234;go_wp2_with fail;refine IA (by kernel_rfl) (by kernel_rfl) ?_;repeat(quiet_step (exact cN _ _))
 refine bE λdq gT dR=>?_;clear cN E0 E1 E2 E3 E4 F0 F1 F2 F3 F4;go_wp2_with fail;go_ret;exact⟨xE (by rw[Ai (m:=r+p1) (by omega) (by omega),Ai (by omega) (by omega)];exact HE.out.symm),HW.out.trans (dR.out.mono HW.out.size)⟩
theorem wa(a b:Pl):jf [a,b]=0↔rn a/\rn b:=by
 rw[<- nj,<- nj];unfold jf jf jf;by_cases h:dZ a=0<;>by_cases g:dZ b=0<;>simp[h,g]
theorem fy{W:World}{cs:Array Value}{t:TypeId}{g k:Nat}(hg:g=W.heap.size):(W.alloc (By cs t)).cell? ⟨g,k,be⟩=cs[k]?:=by subst hg;simp
theorem oC{W:World}{o:Obj}{g k:Nat}(hg:g<W.heap.size):(W.alloc o).cell? ⟨g,k,be⟩=W.cell? ⟨g,k,be⟩:=
 ((Ib W.heap.size W).alloc (Ic _) o).cell (p:=⟨g,k,be⟩) hg
theorem tS{W:World}{a b:Pl}{t:TypeId}{g:Nat}(hg:g=W.heap.size):F9 (W.alloc (By #[U O a.x,U O a.y,U O a.z,U O a.h,U O a.s,U O b.x,U O b.y,U O b.z,U O b.h,U O b.s] t)) g 0 [a,b]:=by
 intro k hk
 match k,hk with
 |0,_=>exact⟨fy hg,fy hg,fy hg,fy hg,fy hg⟩
 |1,_=>exact⟨fy hg,fy hg,fy hg,fy hg,fy hg⟩
def mT(n a b:Int):Bool:=decide (a<=n)&&decide (n<=b)
theorem aev{a b:Bool}(h:a=b):Ending.returned (Ia a)=AT (Ia b):=by rw[h]
theorem Fb{n a b:Int}(h:mT n a b=true):a<=n/\n<=b:=by simpa[mT] using h
end Go.Proofs.YtfidhgjmifendaaGreatDoor
