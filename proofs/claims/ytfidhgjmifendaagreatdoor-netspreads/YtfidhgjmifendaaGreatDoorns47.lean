import Derived.Test.YtfidhgjmifendaaGreatDoorns30
import Derived.Test.YtfidhgjmifendaaGreatDoorns45
set_option maxHeartbeats 12800000
set_option maxRecDepth 100000
open Go renaming maxLen→Il,TypeId→I5,heap_alloc_new→Ih,cell_regrown→Iq,bodyPost_ret→IK
open List renaming getD→Ip,getElem?_eq_getElem→If,append_assoc→Io,mem_or_eq_of_mem_set→Jm,length_map→JJ
open Go.Obj renaming cells→By
open Option renaming some→AI,none→be
open Go.Value renaming string→Y,bool→Ia,slice→J,int→U,pointer→Ie,agg→Ij,tuple→Ik,func→IT
open Go.World renaming drew→JD,block_lt_of_cell?→Iy
open Go.IntKind renaming i64→O
open Go.Ending renaming returned→AT
open Go.Proofs.Tryz renaming prog→AS,underlying3→ID
open Array renaming getElem?_eq_some_iff→BY
open Go.RowKit.Below renaming refl→Ib
open Nat renaming le_refl→Ic,le_trans→Ir,zero_add→IC
open Go.Instr renaming lookup→OX
open Go.Lib renaming alloc_old→On
namespace Go.Proofs.YtfidhgjmifendaaGreatDoor
open Go.RowKit
theorem gK.isW{base:Nat}{w:World}{p:Pk}{vm vs vg vw:Value}(h:gK base w p vm vs vg vw)(hk:p.VR):kz w p vm vs vg vw:=
 ⟨bF h.ms (λm hm=>by have:=(hk.ms.2 m hm).1;unfold Il;omega),Sv.bF h.sv (λm hm=>by obtain⟨h1,h2,h3,h4,_⟩:=hk.sv.2 m hm;refine⟨?_,?_,?_,?_⟩<;>(unfold Il;omega)),Gw.bF h.gw (λm hm=>by have:=(hk.gw.2 m hm).1;show _<=_;unfold Il;omega),Wh.bF h.wh (λm hm=>by have:=(hk.wh.2 m hm).1;show _<=_;unfold Il;omega),by have:=hk.cV;unfold Il;omega,nS h.ms⟩
theorem Pb(L:List Nx)(k:Nat)(hk:k<L.length):ji L=ji (L.take k)++(L.getD k bZ).cs++ji (L.drop (k+1)):=by
 have h:L=L.take k++([L.getD k bZ]++L.drop (k+1)):=by
  rw[Ip,If hk,Option.getD_some,List.singleton_append,List.getElem_cons_drop,List.take_append_drop]
 have h2:=congrArg ji h;rw[kJ,kJ,sV,<- Io] at h2;exact h2
theorem Pc(L:List Nx)(k:Nat)(hk:k<L.length)(y:Nx):ji (L.set k y)=ji (L.take k)++y.cs++ji (L.drop (k+1)):=by
 rw[List.set_eq_take_append_cons_drop,if_pos hk,show L.take k++y::L.drop (k+1)=L.take k++([y]++L.drop (k+1)) from rfl,kJ,kJ,sV,Io]
theorem cP.row{B b:Nat}{w w':World}{n:Nd}{vm vr vs vg vw:Value}{cs:Array Value}(h:cP B w n vm vr vs vg vw)(hb:w.heap[b]?=AI (By cs 42 (0,0)))(hk:∀q,q≠b->w'.heap[q]?=w.heap[q]?):cP B w' n vm vr vs vg vw:=by
 have hq:∀(q:Nat) (c:Array Value) (T:I5) (f:Nat×Nat),T≠42->w.heap[q]?=AI (By c T f)->w'.heap[q]?=AI (By c T f):=λq c T f hT e=>(hk q (λe2=>by subst e2;rw[hb] at e;simp at e;exact hT e.2.1.symm)).trans e;exact⟨ev h.ms (λq c f e=>hq q c _ f (by decide) e),ev h.rs (λq c f e=>hq q c _ f (by decide) e),ev h.sv (λq c f e=>hq q c _ f (by decide) e),ev h.gw (λq c f e=>hq q c _ f (by decide) e),ev h.wh (λq c f e=>hq q c _ f (by decide) e)⟩
def afI(C:Nat)(n:Nd)(V:World)(xs:List Value):Prop:=∃y:Nx,xs=y.cs/\y.n=n/\cP C V y.n y.vm y.vr y.vs y.vg y.vw/\iw y.n
def afJ(p:Pk)(V:World)(xs:List Value):Prop:=∃vm vs vg vw,xs=[Y p.cV,Ia p.whole,vm,vs,vg,vw]/\kz V p vm vs vg vw
theorem cM.turn{C nb k:Nat}{w V:World}{L:List Nx}{y:Nx}(h:cM C w nb L)(hb:Below w.heap.size w V)(hC:C<=w.heap.size)(hk:k<L.length)(ho:cP C V y.n y.vm y.vr y.vs y.vg y.vw)(gR:iw y.n):cM C (JD (aC nb y.cs (k*12) V)) nb (L.set k y):=by
 have hv:=h.below hb hC;have eA:∀q,q≠nb->(JD (aC nb y.cs (k*12) V)).heap[q]?=V.heap[q]?:=λq hq=>by rw[dD];exact aV hq _ _ _
 refine⟨h.le,?_,λx hx=>?_,λx hx=>?_⟩
 .have hr:=hv.row
  rw[Pb L k hk] at hr;have h2:=o9 (b:=nb) y.cs (ji (L.take k)) (L.getD k bZ).cs (ji (L.drop (k+1))) hr (by rw[jG,jG]);rw[yb,List.length_take,Nat.min_eq_left (by omega)] at h2;rw[dD,Pc L k hk];exact h2
 .rcases Jm hx with h1|rfl
  .exact(hv.own x h1).row hv.row eA
  .exact ho.row hv.row eA
 .rcases Jm hx with h1|rfl
  .exact h.ok x h1
  .exact gR
theorem kN.row{C g nb:Nat}{w w':World}{un ul:Value}{ls:List Lt.fg}{v:Ev}{cs:Array Value}(h:kN C w g un ul ls v)(hb:w.heap[nb]?=AI (By cs 42 (0,0)))(hk:∀q,q≠nb->w'.heap[q]?=w.heap[q]?):kN C w' g un ul ls v:=by
 have hq:∀(q:Nat) (c:Array Value) (T:I5) (f:Nat×Nat),T≠42->w.heap[q]?=AI (By c T f)->w'.heap[q]?=AI (By c T f):=λq c T f hT e=>(hk q (λe2=>by subst e2;rw[hb] at e;simp at e;exact hT e.2.1.symm)).trans e;exact⟨hq _ _ _ _ (by decide) h.hg,h.le,ev h.ls (λq c f e=>hq q c _ f (by decide) e)⟩
theorem FP(g nb n j:Nat)(R:Array Value)(v0 v1 v2 v3 v4 v5 v6 v7 v8 v9 v10 v11:Value)(u0 u1:ByteArray)(b2 b3 b4 b5 b11:Option Addr)(m2 e2 m3 e3 m4 e4 m5 e5 m11 e11:Nat)(u6 u7 u8 u9 u10:Int)(w:World)(hj:j<n)(g0:w.cell? ⟨g,0,be⟩=AI (J (AI ⟨nb,0,be⟩) n n))(g3:w.cell? ⟨g,3,be⟩=AI (U O (j:Int)))(cR:w.heap[nb]?=AI (By R 42 (0,0)))(Mx:nb≠g)(c0:R[j*12]?=AI v0)(c1:R[j*12+1]?=AI v1)(c2:R[j*12+2]?=AI v2)(c3:R[j*12+3]?=AI v3)(c4:R[j*12+4]?=AI v4)(c5:R[j*12+5]?=AI v5)(c6:R[j*12+6]?=AI v6)(c7:R[j*12+7]?=AI v7)(c8:R[j*12+8]?=AI v8)(c9:R[j*12+9]?=AI v9)(c10:R[j*12+10]?=AI v10)(c11:R[j*12+11]?=AI v11) :
 Calls AS 84 #[Ie (AI ⟨g,0,be⟩),Ij #[Y u0,Y u1,J b2 m2 e2,J b3 m3 e3,J b4 m4 e4,J b5 m5 e5,U O u6,U O u7,U O u8,U O u9,U O u10,J b11 m11 e11],U O 0] w λe w'=>e=AT (U O 0)/\w'=JD (aC nb [Y u0,Y u1,J b2 m2 e2,J b3 m3 e3,J b4 m4 e4,J b5 m5 e5,U O u6,U O u7,U O u8,U O u9,U O u10,J b11 m11 e11] (j*12) (w.alloc (By #[Y u0,Y u1,J b2 m2 e2,J b3 m3 e3,J b4 m4 e4,J b5 m5 e5,U O u6,U O u7,U O u8,U O u9,U O u10,J b11 m11 e11] 42))):=by
 have du:=Iy w _ g0;have aR:=(BY.1 cR).1;obtain⟨V,hV,NX,-,vH⟩:=bY w #[Y u0,Y u1,J b2 m2 e2,J b3 m3 e3,J b4 m4 e4,J b5 m5 e5,U O u6,U O u7,U O u8,U O u9,U O u10,J b11 m11 e11] 42;have ow:=(NX.block nb aR).trans cR;have a0:=(NX.cell (p:=⟨g,0,be⟩) du).trans g0;have a3:=(NX.cell (p:=⟨g,3,be⟩) du).trans g3;have d0:=(ae ow _).trans c0;have z0:V.frozen? ⟨nb,j*12,be⟩=false:=aj ow _;have d1:V.cell? ⟨nb,j*12+1,be⟩=AI v1:=(ae ow _).trans c1;have z1:V.frozen? ⟨nb,j*12+1,be⟩=false:=aj ow _;have d2:V.cell? ⟨nb,j*12+2,be⟩=AI v2:=(ae ow _).trans c2;have z2:V.frozen? ⟨nb,j*12+2,be⟩=false:=aj ow _;have d3:V.cell? ⟨nb,j*12+3,be⟩=AI v3:=(ae ow _).trans c3;have z3:V.frozen? ⟨nb,j*12+3,be⟩=false:=aj ow _;have d4:V.cell? ⟨nb,j*12+4,be⟩=AI v4:=(ae ow _).trans c4;have z4:V.frozen? ⟨nb,j*12+4,be⟩=false:=aj ow _;have d5:V.cell? ⟨nb,j*12+5,be⟩=AI v5:=(ae ow _).trans c5;have z5:V.frozen? ⟨nb,j*12+5,be⟩=false:=aj ow _;have d6:V.cell? ⟨nb,j*12+6,be⟩=AI v6:=(ae ow _).trans c6;have z6:V.frozen? ⟨nb,j*12+6,be⟩=false:=aj ow _;have d7:V.cell? ⟨nb,j*12+7,be⟩=AI v7:=(ae ow _).trans c7;have z7:V.frozen? ⟨nb,j*12+7,be⟩=false:=aj ow _;have d8:V.cell? ⟨nb,j*12+8,be⟩=AI v8:=(ae ow _).trans c8;have z8:V.frozen? ⟨nb,j*12+8,be⟩=false:=aj ow _;have d9:V.cell? ⟨nb,j*12+9,be⟩=AI v9:=(ae ow _).trans c9;have z9:V.frozen? ⟨nb,j*12+9,be⟩=false:=aj ow _;have d10:V.cell? ⟨nb,j*12+10,be⟩=AI v10:=(ae ow _).trans c10;have z10:V.frozen? ⟨nb,j*12+10,be⟩=false:=aj ow _;have d11:V.cell? ⟨nb,j*12+11,be⟩=AI v11:=(ae ow _).trans c11;have z11:V.frozen? ⟨nb,j*12+11,be⟩=false:=aj ow _;obtain⟨y0,y1,y2,y3,y4,y5,y6,y7,y8,y9,y10,y11⟩:=bB vH;have Vy:nb≠w.heap.size:=by omega
 have xe:(j:Int)<(n:Int):=by omega
 have P4:(0:Int)<=(j:Int):=by omega
 have hjt:((j:Int)).toNat=j:=by omega
 obtain⟨W5,jo⟩:∃W5,W5=JD (aC nb [Y u0,Y u1,J b2 m2 e2,J b3 m3 e3,J b4 m4 e4,J b5 m5 e5,U O u6,U O u7,U O u8,U O u9,U O u10,J b11 m11 e11] (j*12) V):=⟨_,rfl⟩;rw[<- hV,<- jo];clear NX vH ow g0 g3 cR du aR hj c0 c1 c2 c3 c4 c5 c6 c7 c8 c9 c10 c11;simp only[aC,Nat.add_assoc,Nat.reduceAdd] at jo;go_enter Tryz.func84,Tryz.ntmps84;go_upto_region 1 with fail
 rw[<- hV];clear hV;go_wp2_with fail;go_region_held3 (λw'=>w'.cell? ⟨g,0,be⟩=AI (J (AI ⟨nb,0,be⟩) n n)/\w'.cell? ⟨g,3,be⟩=AI (U O (j:Int))/\w'.cell? ⟨w.heap.size,0,be⟩=AI (Y u0)/\w'.cell? ⟨w.heap.size,1,be⟩=AI (Y u1)/\w'.cell? ⟨w.heap.size,2,be⟩=AI (J b2 m2 e2)/\w'.cell? ⟨w.heap.size,3,be⟩=AI (J b3 m3 e3)/\w'.cell? ⟨w.heap.size,4,be⟩=AI (J b4 m4 e4)/\w'.cell? ⟨w.heap.size,5,be⟩=AI (J b5 m5 e5)/\w'.cell? ⟨w.heap.size,6,be⟩=AI (U O u6)/\w'.cell? ⟨w.heap.size,7,be⟩=AI (U O u7)/\w'.cell? ⟨w.heap.size,8,be⟩=AI (U O u8)/\w'.cell? ⟨w.heap.size,9,be⟩=AI (U O u9)/\w'.cell? ⟨w.heap.size,10,be⟩=AI (U O u10)/\w'.cell? ⟨w.heap.size,11,be⟩=AI (J b11 m11 e11)) (simp only[World.cell?_setCell_far,World.cell?_drew,ne_eq,Mx,Vy,not_false_eq_true,a0,a3,y0,y1,y2,y3,y4,y5,y6,y7,y8,y9,y10,y11,and_self]) (fail)
 go_wp2_with fail;rw[<- jo];go_ret;exact⟨rfl,rfl⟩
theorem CA(C g nb j:Nat)(ul:Value)(ls:List Lt.fg)(v:Ev)(L:List Nx)(y:Nx)(w:World)(h:kN C w g (J (AI ⟨nb,0,be⟩) L.length L.length) ul ls v)(hN:cM C w nb L)(hC:C<=w.heap.size)(hv:v.which=(j:Int))(hj:j<L.length)(ho:cP C w y.n y.vm y.vr y.vs y.vg y.vw)(hk:iw y.n) :
 Calls AS 84 #[Ie (AI ⟨g,0,be⟩),Ij (dv y.n y.vm y.vr y.vs y.vg y.vw),U O 0] w λe w'=>e=AT (U O 0)/\Below C w w'/\cM C w' nb (L.set j y)/\kN C w' g (J (AI ⟨nb,0,be⟩) L.length L.length) ul ls v/\∀q,q≠nb->q<w.heap.size->w'.heap[q]?=w.heap[q]?:=by
 have dI:w.cell? ⟨g,0,be⟩=AI (J (AI ⟨nb,0,be⟩) L.length L.length):=ae h.hg 0;have lF:w.cell? ⟨g,3,be⟩=AI (U O (j:Int)):=by rw[<- hv];exact ae h.hg 3
 have Mx:nb≠g:=λe=>by
  have h1:=hN.row;rw[e,h.hg] at h1;simp at h1
 have hc:=λi hi=>mm L j hj i hi;have cf:∀i,i<12->∃u,(ji L).toArray[j*12+i]?=AI u:=λi hi=>by
  refine⟨(L.getD j bZ).cs[i]'(by rw[jG];exact hi),?_⟩;rw[List.getElem?_toArray,hc i hi,If]
 obtain⟨v0,c0⟩:=cf 0 (by omega);obtain⟨v1,c1⟩:=cf 1 (by omega);obtain⟨v2,c2⟩:=cf 2 (by omega);obtain⟨v3,c3⟩:=cf 3 (by omega);obtain⟨v4,c4⟩:=cf 4 (by omega);obtain⟨v5,c5⟩:=cf 5 (by omega);obtain⟨v6,c6⟩:=cf 6 (by omega);obtain⟨v7,c7⟩:=cf 7 (by omega);obtain⟨v8,c8⟩:=cf 8 (by omega);obtain⟨v9,c9⟩:=cf 9 (by omega);obtain⟨v10,c10⟩:=cf 10 (by omega);obtain⟨v11,c11⟩:=cf 11 (by omega);have hb:Below w.heap.size w (w.alloc (By (dv y.n y.vm y.vr y.vs y.vg y.vw) 42)):=(Ib _ _).alloc (Ic _) _;have eA:∀q,q≠nb->(JD (aC nb y.cs (j*12) (w.alloc (By (dv y.n y.vm y.vr y.vs y.vg y.vw) 42)))).heap[q]?=(w.alloc (By (dv y.n y.vm y.vr y.vs y.vg y.vw) 42)).heap[q]?:=λq hq=>by rw[dD];exact aV hq _ _ _
 have HF:Below C w (JD (aC nb y.cs (j*12) (w.alloc (By (dv y.n y.vm y.vr y.vs y.vg y.vw) 42))))/\cM C (JD (aC nb y.cs (j*12) (w.alloc (By (dv y.n y.vm y.vr y.vs y.vg y.vw) 42)))) nb (L.set j y)/\kN C (JD (aC nb y.cs (j*12) (w.alloc (By (dv y.n y.vm y.vr y.vs y.vg y.vw) 42)))) g (J (AI ⟨nb,0,be⟩) L.length L.length) ul ls v/\∀q,q≠nb->q<w.heap.size->(JD (aC nb y.cs (j*12) (w.alloc (By (dv y.n y.vm y.vr y.vs y.vg y.vw) 42)))).heap[q]?=w.heap[q]? :=
  ⟨cF (aT hN.le _ _ (hb.mono hC)),hN.turn hb hC hj (ho.below hb) hk,(h.below hb).row (hN.below hb hC).row eA,λq hq hl=>(eA q hq).trans (hb.block q hl)⟩
 obtain⟨⟨nm,ct,ms,rs,sv,gw,⟨px,py,pz,ph,pq⟩,wh⟩,vm,vr,vs,vg,vw⟩:=y;obtain⟨a2,x2,h2⟩:=aL ho.ms;obtain⟨a3,x3,h3⟩:=aL ho.rs;obtain⟨a4,x4,h4⟩:=aL ho.sv;obtain⟨a5,x5,h5⟩:=aL ho.gw;obtain⟨a11,x11,h11⟩:=aL ho.wh;simp only at h2 h3 h4 h5 h11;subst h2 h3 h4 h5 h11;refine(FP g nb L.length j (ji L).toArray v0 v1 v2 v3 v4 v5 v6 v7 v8 v9 v10 v11 _ _ _ _ _ _ _ _ _ _ _ _ _ _ _ _ _ _ _ _ _ _ w hj dI lF hN.row Mx c0 c1 c2 c3 c4 c5 c6 c7 c8 c9 c10 c11).mono ?_;rintro e w' ⟨rfl,rfl⟩;exact⟨rfl,HF⟩
end Go.Proofs.YtfidhgjmifendaaGreatDoor
namespace Go.Proofs.YtfidhgjmifendaaGreatDoor
open Go.RowKit Go.WideMaps Go.Maps
def Lz(v:Value):Option (DataW Value×List MemPlace):=AI (.held v,[])
def kI(k:Int):Lit:=.int .i64 k
theorem LA(k:Int):WideAt.IsKeyLit (kI k):=by simp[kI,WideAt.IsKeyLit]
theorem Rq{a b:Int}(h:a≠b):kI a≠kI b:=λe=>h (by simpa[kI] using e)
def uP:List (Int×Value)->Int->Option Value
 |[],_=>be
 |(a,v)::r,k=>if k=a then AI v else uP r k
def yr(w:World)(b n:Nat)(M:List (Int×Value)):Prop:=∃D:DataW Value,w.ownsMap AS 3 Lz b n D/\(∀k,has D (kI k)=(uP M k).isSome)/\∀k,D.atKey (kI k) (.held .nilFunc)=.held ((uP M k).getD .nilFunc)
theorem Rr:Keyed AS 3:=int_keyed ID
theorem Tw(w:World):(zeroValue 73).run AS w=.ok .nilFunc w:=by kernel_rfl
theorem FQ(w:World):yr (w.alloc (.map #[] 0)) w.heap.size 0 []:=⟨.map [],World.ownsMap_made w AS 3 Lz,λk=>by simp[has,uP],λk=>by simp[DataW.atKey,uP]⟩
theorem yr.look{w:World}{b n:Nat}{M:List (Int×Value)}(h:yr w b n M){k:Int}(hk:(Lit.int .i64 k).wf=true):(OX 104 (.map (AI b)) (U O k) true).run AS w=.ok (Ik #[(uP M k).getD .nilFunc,Ia (uP M k).isSome]) w:=by
 obtain⟨D,h1,h2,h3⟩:=h;obtain⟨v,ps,jW,hv⟩:=h1.look_ok Rr Tryz.underlying104 (Tw w) (show Lz .nilFunc=AI (.held .nilFunc,[]) from rfl) (keyOf_int_mk ID hk);have e:v=(uP M k).getD .nilFunc:=by
  have h4:(DataW.held v:DataW Value)=D.atKey (kI k) (.held .nilFunc):=by
   simp only[Lz,Option.some.injEq,Prod.mk.injEq] at hv;exact hv.1
  rw[h3 k] at h4;injection h4
 have e2:has D (.int O k)=(uP M k).isSome:=h2 k;rw[jW,e,e2]
theorem yr.put{w:World}{b n:Nat}{M:List (Int×Value)}(h:yr w b n M)(hn:n<Il){k:Int}(hk:(Lit.int .i64 k).wf=true)(v:Value):∃w',(Instr.mapUpdate 104 (.map (AI b)) (U O k) v).run AS w=.ok () w'/\yr w' b (n+1) ((k,v)::M)/\w.grownBy w' (AI b):=by
 obtain⟨D,h1,h2,h3⟩:=h;obtain⟨w',jW,ho,hg⟩:=h1.update Rr Tryz.underlying104 hn (keyOf_int_mk ID hk) (show Lz v=AI (.held v,[]) from rfl);refine⟨w',jW,⟨_,ho,λx=>?_,λx=>?_⟩,hg⟩
 .by_cases e:x=k
  .subst e
   rw[uP,if_pos rfl];exact has_put_same h1.isMap (LA _) _
  .rw[uP,if_neg e,<- h2 x]
   exact has_put_other (Rq e) _
 .by_cases e:x=k
  .subst e
   rw[uP,if_pos rfl];exact atKey_put_same h1.isMap (LA _) _ _
  .rw[uP,if_neg e,<- h3 x]
   exact atKey_put_other (Rq e) _ _
def uB(g pb:Nat):List (Int×Value):=[(12,IT (.func 96) #[] #[Ie (AI ⟨pb,0,be⟩)]),(11,IT (.func 94) #[] #[Ie (AI ⟨pb,0,be⟩)]),(10,IT (.func 92) #[] #[Ie (AI ⟨pb,0,be⟩)]),(9,IT (.func 90) #[] #[Ie (AI ⟨pb,0,be⟩)]),(8,IT (.func 88) #[] #[Ie (AI ⟨pb,0,be⟩)]),(7,IT (.func 86) #[] #[Ie (AI ⟨pb,0,be⟩)]),(6,IT (.func 83) #[] #[Ie (AI ⟨pb,0,be⟩)]),(5,IT (.func 82) #[Ie (AI ⟨g,0,be⟩)] #[]),(4,IT (.func 81) #[Ie (AI ⟨g,0,be⟩)] #[]),(3,IT (.func 80) #[Ie (AI ⟨g,0,be⟩)] #[]),(2,IT (.func 79) #[Ie (AI ⟨g,0,be⟩)] #[]),(1,IT (.func 78) #[Ie (AI ⟨g,0,be⟩)] #[])]
theorem ku(g:Nat)(w:World) :
 Calls AS 51 #[Ie (AI ⟨g,0,be⟩)] w λe w'=>e=AT (.map (AI (w.heap.size+1)))/\yr w' (w.heap.size+1) 12 (uB g w.heap.size)/\w'.heap[w.heap.size]?=AI (By #[Ie (AI ⟨g,0,be⟩)] 70 (0,0))/\Below w.heap.size w w':=by
 obtain⟨W0,bN⟩:∃W0,W0=(w.alloc (By #[Ie (AI ⟨g,0,be⟩)] 70)).alloc (.map #[] 0):=⟨_,rfl⟩;have bO:Below w.heap.size w W0:=by rw[bN];exact((Ib _ _).alloc (Ic _) _).alloc (by simp) _
 have k0:W0.heap[w.heap.size]?=AI (By #[Ie (AI ⟨g,0,be⟩)] 70 (0,0)):=by
  rw[bN];exact(On _ _ _ (by simp)).trans (Ih w _)
 have eK:w.heap.size+2<=W0.heap.size:=by rw[bN];simp
 have m0:yr W0 (w.heap.size+1) 0 []:=by
  have:=FQ (w.alloc (By #[Ie (AI ⟨g,0,be⟩)] 70));rw[bN];simpa using this
 obtain⟨w1,r1,m1,g1⟩:=m0.put (by decide) (k:=1) (by decide) (IT (.func 78) #[Ie (AI ⟨g,0,be⟩)] #[]);have ft:=Ir eK g1.size;have k1:=(g1.block _ (by omega) (by simp)).trans k0;have aB:=bO.grown g1 (by omega) (λq hq=>by cases hq;omega);obtain⟨w2,r2,m2,g2⟩:=m1.put (by decide) (k:=2) (by decide) (IT (.func 79) #[Ie (AI ⟨g,0,be⟩)] #[]);have iv:=Ir ft g2.size;have k2:=(g2.block _ (by omega) (by simp)).trans k1;have aK:=aB.grown g2 (by omega) (λq hq=>by cases hq;omega);obtain⟨w3,r3,m3,g3⟩:=m2.put (by decide) (k:=3) (by decide) (IT (.func 80) #[Ie (AI ⟨g,0,be⟩)] #[]);have sn:=Ir iv g3.size;have k3:=(g3.block _ (by omega) (by simp)).trans k2;have bX:=aK.grown g3 (by omega) (λq hq=>by cases hq;omega);obtain⟨w4,r4,m4,g4⟩:=m3.put (by decide) (k:=4) (by decide) (IT (.func 81) #[Ie (AI ⟨g,0,be⟩)] #[]);have AZ:=Ir sn g4.size;have k4:=(g4.block _ (by omega) (by simp)).trans k3;have eU:=bX.grown g4 (by omega) (λq hq=>by cases hq;omega);obtain⟨w5,r5,m5,g5⟩:=m4.put (by decide) (k:=5) (by decide) (IT (.func 82) #[Ie (AI ⟨g,0,be⟩)] #[]);have Kb:=Ir AZ g5.size;have k5:=(g5.block _ (by omega) (by simp)).trans k4;have jD:=eU.grown g5 (by omega) (λq hq=>by cases hq;omega);obtain⟨w6,r6,m6,g6⟩:=m5.put (by decide) (k:=6) (by decide) (IT (.func 83) #[] #[Ie (AI ⟨w.heap.size,0,be⟩)]);have hs6:=Ir Kb g6.size;have k6:=(g6.block _ (by omega) (by simp)).trans k5;have sy:=jD.grown g6 (by omega) (λq hq=>by cases hq;omega);obtain⟨w7,r7,m7,g7⟩:=m6.put (by decide) (k:=7) (by decide) (IT (.func 86) #[] #[Ie (AI ⟨w.heap.size,0,be⟩)]);have PX:=Ir hs6 g7.size;have k7:=(g7.block _ (by omega) (by simp)).trans k6;have GD:=sy.grown g7 (by omega) (λq hq=>by cases hq;omega);obtain⟨w8,r8,m8,g8⟩:=m7.put (by decide) (k:=8) (by decide) (IT (.func 88) #[] #[Ie (AI ⟨w.heap.size,0,be⟩)]);have WE:=Ir PX g8.size;have k8:=(g8.block _ (by omega) (by simp)).trans k7;have My:=GD.grown g8 (by omega) (λq hq=>by cases hq;omega);obtain⟨w9,r9,m9,g9⟩:=m8.put (by decide) (k:=9) (by decide) (IT (.func 90) #[] #[Ie (AI ⟨w.heap.size,0,be⟩)]);have Tk:=Ir WE g9.size;have k9:=(g9.block _ (by omega) (by simp)).trans k8;have uM:=My.grown g9 (by omega) (λq hq=>by cases hq;omega);obtain⟨w10,r10,m10,g10⟩:=m9.put (by decide) (k:=10) (by decide) (IT (.func 92) #[] #[Ie (AI ⟨w.heap.size,0,be⟩)]);have aan:=Ir Tk g10.size;have k10:=(g10.block _ (by omega) (by simp)).trans k9;have FR:=uM.grown g10 (by omega) (λq hq=>by cases hq;omega);obtain⟨w11,r11,m11,g11⟩:=m10.put (by decide) (k:=11) (by decide) (IT (.func 94) #[] #[Ie (AI ⟨w.heap.size,0,be⟩)]);have aao:=Ir aan g11.size;have k11:=(g11.block _ (by omega) (by simp)).trans k10;have FT:=FR.grown g11 (by omega) (λq hq=>by cases hq;omega);obtain⟨w12,r12,m12,g12⟩:=m11.put (by decide) (k:=12) (by decide) (IT (.func 96) #[] #[Ie (AI ⟨w.heap.size,0,be⟩)]);have afK:=Ir aao g12.size;have k12:=(g12.block _ (by omega) (by simp)).trans k11;have FU:=FT.grown g12 (by omega) (λq hq=>by cases hq;omega);have gZ:Hid (yr w12 (w.heap.size+1) 12 (uB g w.heap.size)/\w12.heap[w.heap.size]?=AI (By #[Ie (AI ⟨g,0,be⟩)] 70 (0,0))/\Below w.heap.size w w12):=⟨m12,k12,FU⟩;have c0:=ae k0 0;have c1:=ae k1 0;have c2:=ae k2 0;have c3:=ae k3 0;have c4:=ae k4 0;clear m0 k0 bO eK m1 k1 aB ft m2 k2 aK iv m3 k3 bX sn m4 k4 eU AZ m5 k5 jD Kb m6 k6 sy hs6 m7 k7 GD PX m8 k8 My WE m9 k9 uM Tk m10 k10 FR aan m11 k11 FT aao m12 k12 FU afK g1 g2 g3 g4 g5 g6 g7 g8 g9 g10 g11 g12;have Hb := @run_makeMap AS;subst bN;go_enter Tryz.func51,Tryz.ntmps51;go_wp2_with fail;go_ret;exact⟨rfl,gZ.out⟩
theorem FV(g:Nat)(k:Int)(w:World)(hw:(Lit.int .i64 k).wf=true)(hf:uP (uB g w.heap.size) k=be)(hg:w.cell? ⟨g,2,be⟩=AI (U O k)) :
 Calls AS 33 #[Ie (AI ⟨g,0,be⟩)] w λe w'=>e=AT (U O 7)/\Below w.heap.size w w':=by
 have du:=Iy w _ hg;have HH:Hid (Calls AS 51 #[Ie (AI ⟨g,0,be⟩)] w.drew λe w1=>∃mb,e=AT (.map (AI mb))/\(OX 104 (.map (AI mb)) (U O k) true).run AS w1=.ok (Ik #[.nilFunc,Ia false]) w1/\w1.cell? ⟨g,2,be⟩=AI (U O k)/\Hid (Below w.heap.size w w1)):=by
  refine(ku g w.drew).mono ?_;rintro e w1 ⟨rfl,hm,hp,hb⟩;have aB:=(Ib _ _).drew.trans hb;have hl:=hm.look hw;rw[show uP (uB g w.drew.heap.size) k=be from hf] at hl;exact⟨_,rfl,hl,(aB.cell (p:=⟨g,2,be⟩) du).trans hg,aB⟩
 have sr:Hid (w.heap.size<w.heap.size+1):=Nat.lt_succ_self _;clear du hf hw;go_enter Tryz.func33,Tryz.ntmps33;go_wp2_with fail;go_region_held3 (λw'=>w'.cell? ⟨g,2,be⟩=AI (U O k)) (go_keep) (first|(go_at_call 51;refine HH.out.mono ?_;rintro e w1 ⟨mb,rfl,Dd,hS,ba⟩)|fail)
 go_wp2_with fail;go_ret;exact⟨rfl,ba.out⟩
theorem FW(kf:Nat)(fs cs:Array Value)(g:Nat)(k:Int)(w:World)(hw:(Lit.int .i64 k).wf=true)(hf:uP (uB g w.heap.size) k=AI (IT (.func kf) fs cs))(hg:w.cell? ⟨g,2,be⟩=AI (U O k))(hT:∀W,Below w.heap.size w W->Calls AS 52 #[Ie (AI ⟨g,0,be⟩)] W λe w'=>e=AT (Ia false)/\Below W.heap.size W w') :
 Calls AS 33 #[Ie (AI ⟨g,0,be⟩)] w λe w'=>e=AT (U O 5)/\Below w.heap.size w w':=by
 have du:=Iy w _ hg;have HH:Hid (Calls AS 51 #[Ie (AI ⟨g,0,be⟩)] w.drew λe w1=>∃mb,e=AT (.map (AI mb))/\(OX 104 (.map (AI mb)) (U O k) true).run AS w1=.ok (Ik #[IT (.func kf) fs cs,Ia true]) w1/\w1.cell? ⟨g,2,be⟩=AI (U O k)/\Hid (Below w.heap.size w w1)):=by
  refine(ku g w.drew).mono ?_;rintro e w1 ⟨rfl,hm,hp,hb⟩;have aB:=(Ib _ _).drew.trans hb;have hl:=hm.look hw;rw[show uP (uB g w.drew.heap.size) k=AI (IT (.func kf) fs cs) from hf] at hl;exact⟨_,rfl,hl,(aB.cell (p:=⟨g,2,be⟩) du).trans hg,aB⟩
 have sr:Hid (w.heap.size<w.heap.size+1):=Nat.lt_succ_self _;have HT:Hid _:=hT;clear hT du hf hw;go_enter Tryz.func33,Tryz.ntmps33;go_wp2_with fail;go_region_held3 (λw'=>w'.cell? ⟨g,2,be⟩=AI (U O k)) (go_keep) (first|(go_at_call 51;refine HH.out.mono ?_;rintro e w1 ⟨mb,rfl,Dd,hS,ba⟩)|fail)
 go_wp2_with fail;refine(HT.out _ ba.out).mono ?_;rintro e w2 ⟨rfl,aK⟩;have bu:Hid _:=ba.out.trans (aK.mono ba.out.size);clear aK Dd hS ba HT HH;go_wp2_with fail;go_ret;exact⟨rfl,bu.out⟩
theorem yt(c:Int)(hc:c=3\/c=4\/c=5)(g m:Nat)(a:Option Addr)(cap:Nat)(x:Int)(w:World)(h1:w.cell? ⟨g,1,be⟩=AI (J a m cap))(h2:w.cell? ⟨g,2,be⟩=AI (U O c))(h3:w.cell? ⟨g,3,be⟩=AI (U O x))(hm:m<=20) :
 Calls AS 52 #[Ie (AI ⟨g,0,be⟩)] w λe w'=>e=AT (Ia (within x 0 ((m:Int)-1)))/\Below w.heap.size w w':=by
 have hz:IntKind.i64.wrap ((m:Int)-1)=(m:Int)-1:=by rw[IntKind.wrap_i64];omega
 have HWI:Hid (∀W:World,Calls _ _ _ _ _):=λW=>cB x 0 ((m:Int)-1) W;generalize within x 0 ((m:Int)-1)=b at *;rcases hc with rfl|rfl|rfl;all_goals
  go_enter Tryz.func52,Tryz.ntmps52;go_wp2_with fail;have F1:=Iq h1;have F3:=Iq h3;have C0:∀d os,Calls AS 54 #[U O x,U O 0,U O ((m:Int)-1)] (Go.Sort.grow (redrawn w d) os) λe fT=>e=AT (Ia b)/\∃p:Regrown,fT=Go.Sort.grow (redrawn w p.d) p.os:=λd os=>Calls.regrown_of ((HWI.out _).mono (λe w' h=>⟨h.1,by rw[h.2];exact Ib _ _⟩));refine wp_region_quiet_below (by kernel_rfl) (by kernel_rfl) ?_;repeat(quiet_step (exact C0 _ _))
  refine bM λdq jL ee=>?_;clear C0 F1 F3;go_wp2_with fail;go_ret;exact⟨rfl,ee.out⟩
theorem Tx(c:Int)(hc:c=6\/c=7\/c=8\/c=10\/c=11\/c=12)(g n:Nat)(a:Option Addr)(cap:Nat)(x:Int)(w:World)(h0:w.cell? ⟨g,0,be⟩=AI (J a n cap))(h2:w.cell? ⟨g,2,be⟩=AI (U O c))(h3:w.cell? ⟨g,3,be⟩=AI (U O x))(hn:n<=6) :
 Calls AS 52 #[Ie (AI ⟨g,0,be⟩)] w λe w'=>e=AT (Ia (within x 0 ((n:Int)-1)))/\Below w.heap.size w w':=by
 have H1:=λ(_:Unit)=>ml g n a cap x w h0 hn;generalize within x 0 ((n:Int)-1)=b at *;have H1:Hid _:=H1;clear hn;rcases hc with rfl|rfl|rfl|rfl|rfl|rfl;all_goals
  go_enter Tryz.func52,Tryz.ntmps52;go_wp2_with fail;refine(H1.out ()).mono ?_;rintro e w1 ⟨rfl,aB⟩;have ba:Hid _:=aB;clear aB;go_wp2_with fail;go_ret;exact⟨rfl,ba.out⟩
theorem uC(c:Int)(hc:c=1\/c=2\/c=9)(g n:Nat)(a:Option Addr)(cap:Nat)(x y:Int)(w:World)(h0:w.cell? ⟨g,0,be⟩=AI (J a n cap))(h2:w.cell? ⟨g,2,be⟩=AI (U O c))(h3:w.cell? ⟨g,3,be⟩=AI (U O x))(h4:w.cell? ⟨g,4,be⟩=AI (U O y))(hn:n<=6) :
 Calls AS 52 #[Ie (AI ⟨g,0,be⟩)] w λe w'=>e=AT (Ia (within x 0 ((n:Int)-1)&&within y 0 ((n:Int)-1)))/\Below w.heap.size w w':=by
 have du:=Iy w _ h0;have H1:=λ(_:Unit)=>ml g n a cap x w h0 hn;have H2:=λ(W:World) (hW:Below w.heap.size w W)=>ml g n a cap y W ((hW.cell (p:=⟨g,0,be⟩) du).trans h0) hn;have HG:Hid (∀W,Below w.heap.size w W->W.cell? ⟨g,4,be⟩=AI (U O y)):=λW hW=>(hW.cell (p:=⟨g,4,be⟩) du).trans h4;generalize within x 0 ((n:Int)-1)=b1 at *;generalize within y 0 ((n:Int)-1)=b2 at *;have H1:Hid _:=H1;have H2:Hid _:=H2;clear hn du;cases b1
 .rcases hc with rfl|rfl|rfl
  all_goals
   go_enter Tryz.func52,Tryz.ntmps52;go_wp2_with fail;refine(H1.out ()).mono ?_;rintro e w1 ⟨rfl,aB⟩;have ba:Hid _:=aB;clear aB;go_wp2_with fail;go_ret;exact⟨rfl,ba.out⟩
 .rcases hc with rfl|rfl|rfl
  all_goals
   go_enter Tryz.func52,Tryz.ntmps52;go_wp2_with fail;refine(H1.out ()).mono ?_;rintro e w1 ⟨rfl,aB⟩;have ba:Hid _:=aB;have g4:=HG.out w1 aB;clear aB;go_wp2_with fail;refine(H2.out w1 ba.out).mono ?_;rintro e w2 ⟨rfl,aK⟩;have bu:Hid _:=ba.out.trans (aK.mono ba.out.size);clear aK;go_wp2_with fail;go_ret;exact⟨rfl,bu.out⟩
theorem qF(kf:Nat)(fs cs:Array Value)(eg:∀args w,(callFunc kf args).run AS w=.ok (.enter kf args) w)(g:Nat)(k:Int)(R:Int->World->Prop)(w:World)(hw:(Lit.int .i64 k).wf=true)(hf:uP (uB g w.heap.size) k=AI (IT (.func kf) fs cs))(hg:w.cell? ⟨g,2,be⟩=AI (U O k))(hT:∀W,Below w.heap.size w W->Calls AS 52 #[Ie (AI ⟨g,0,be⟩)] W λe w'=>e=AT (Ia true)/\Below W.heap.size W w')(hF:∀W,Below w.heap.size w W->W.heap[w.heap.size]?=AI (By #[Ie (AI ⟨g,0,be⟩)] 70 (0,0))->Calls AS kf (fs++cs) W λe w'=>∃er,e=AT (U O er)/\R er w') :
 Calls AS 33 #[Ie (AI ⟨g,0,be⟩)] w λe w'=>∃er,e=AT (U O er)/\R er w':=by
 have du:=Iy w _ hg;have HH:Hid (Calls AS 51 #[Ie (AI ⟨g,0,be⟩)] w.drew λe w1=>∃mb,e=AT (.map (AI mb))/\(OX 104 (.map (AI mb)) (U O k) true).run AS w1=.ok (Ik #[IT (.func kf) fs cs,Ia true]) w1/\w1.cell? ⟨g,2,be⟩=AI (U O k)/\Hid (Below w.heap.size w w1/\w1.heap[w.heap.size]?=AI (By #[Ie (AI ⟨g,0,be⟩)] 70 (0,0)))):=by
  refine(ku g w.drew).mono ?_;rintro e w1 ⟨rfl,hm,hp,hb⟩;have aB:=(Ib _ _).drew.trans hb;have hl:=hm.look hw;rw[show uP (uB g w.drew.heap.size) k=AI (IT (.func kf) fs cs) from hf] at hl;exact⟨_,rfl,hl,(aB.cell (p:=⟨g,2,be⟩) du).trans hg,aB,hp⟩
 have HT:Hid _:=hT;have HF:Hid _:=hF;have sr:Hid (w.heap.size<w.heap.size+1):=Nat.lt_succ_self _;clear hT hF du hf hw;go_enter Tryz.func33,Tryz.ntmps33;go_wp2_with fail;go_region_held3 (λw'=>w'.cell? ⟨g,2,be⟩=AI (U O k)) (go_keep) (first|(go_at_call 51;refine HH.out.mono ?_;rintro e w1 ⟨mb,rfl,Dd,hS,ba⟩)|fail)
 go_wp2_with fail;refine(HT.out _ ba.out.1).mono ?_;rintro e w2 ⟨rfl,aK⟩;have rU:=(aK.block _ (BY.1 ba.out.2).1).trans ba.out.2;have HC:=HF.out w2 (ba.out.1.trans (aK.mono ba.out.1.size)) rU;clear aK rU Dd hS ba HF HT HH;go_wp2_with fail;refine HC.mono ?_;rintro e w3 ⟨er,rfl,hr⟩;go_wp2_with fail;go_ret;exact⟨er,rfl,hr⟩
end Go.Proofs.YtfidhgjmifendaaGreatDoor
namespace Go.Proofs.YtfidhgjmifendaaGreatDoor
open Go.RowKit
def A7(v:Ev):Array Value:=#[U O v.kind,U O v.which,U O v.other,U O v.n,Y v.name,U O v.p.x,U O v.p.y,U O v.p.z,U O v.p.h,U O v.p.s,Y v.s.node,Y v.s.bP,Y v.s.name,Y v.s.tag,U O v.s.addr,U O v.s.port,Ia v.s.an,U O v.s.version,Ia v.s.gone]
def fa(C:Nat)(w:World)(t:Nt)(un ul:Value):Prop:=∃nb L,un=J (AI ⟨nb,0,be⟩) L.length L.length/\L.map (·.n)=t.ns/\cM C w nb L/\Lt.Own C w ul t.ls
theorem cM.afL{C nb:Nat}{w:World}{L:List Nx}(h:cM C w nb L):vF w nb 0 (L.map (·.n)):=λj hj=>by
 have FJ:j<L.length:=by simpa using hj
 have hn:(L.getD j bZ).n=(L.map (·.n)).getD j bC:=by
  rw[Ip,Ip,List.getElem?_map,If FJ];rfl
 have ho:=h.own _ (gv FJ);have hk:=h.ok _ (gv FJ);have hg:=λi hi=>h.cell FJ i hi;rw[<- hn];exact⟨_,_,_,_,_,ho.is hk,λi hi=>by rw[hg i hi,Nx.cs,Array.getElem?_toList]⟩
theorem fa.is{C:Nat}{w:World}{t:Nt}{un ul:Value}(h:fa C w t un ul)(hk:∀l∈t.ls,l.ok):fo w t un ul:=by
 obtain⟨nb,L,rfl,hm,hN,hl⟩:=h;have hr:=hN.afL;rw[hm] at hr;refine⟨⟨AI ⟨nb,0,be⟩,L.length,by rw[<- hm,JJ],.inr ⟨nb,0,rfl,(BY.1 hN.row).1,hr⟩⟩,Lt.bF hl hk⟩
theorem cM.fi{C nb:Nat}{w w':World}{L:List Nx}(h:cM C w nb L)(hk:∀b,C<=b->b<w.heap.size->w'.heap[b]?=w.heap[b]?):cM C w' nb L:=⟨h.le,(hk nb h.le (BY.1 h.row).1).trans h.row,λx hx=>(h.own x hx).fi hk,h.ok⟩
theorem cM.mono{A C nb:Nat}{w:World}{L:List Nx}(h:cM C w nb L)(hA:A<=C):cM A w nb L:=⟨Ir hA h.le,h.row,λx hx=>(h.own x hx).mono hA,h.ok⟩
theorem ox{P:Program}{a:Act}{o:Oper}{W:World}(ty:I5)(x:Operand)(ho:o.op=.load ty x)(g:Nat)(hx:a.eval x=Ie (AI ⟨g,0,be⟩))(T:I5)(cs:Array Value)(fr:Nat×Nat)(d:TypeDesc)(hg:W.heap[g]?=AI (By cs T fr))(hu:P.underlying ty=AI d)(hd:(match d with | .struct _ | .array _ _=>true|_=>false)=true)(hi:(P.info? ty).map (·.size)=AI cs.size):(execOp a.eval o).run P W=.ok (.value (Ij cs)) W:=by
 unfold execOp;simp only[ho,hx,Instr.loadAt,Instr.sureAddr,Sem.run_bind,Sem.run_pure,Result.andThen_ok,run_loadVar_row W g T ty cs fr d hg hu hd hi]
def qG(w:World)(t:Nt)(e:Ending)(w':World):Prop:=Below w.heap.size w w'/\∃a k c b l d,e=AT (Ik #[Ij #[J a k c,J b l d],U O 0])/\fa w.heap.size w' t (J a k c) (J b l d)
def ik(C:Nat)(w':World)(g nb:Nat)(L:List Nx)(v:Ev)(Q:Prop)(R:Nt->Prop)(er:Int):Prop:=(er≠0->Q)/\(er=0->∃t',R t'/\∃a k c L',L'.length=L.length/\L'.map (·.n)=t'.ns/\cM C w' nb L'/\kN C w' g (J (AI ⟨nb,0,be⟩) L.length L.length) (J a k c) t'.ls v)
theorem ik.of{C:Nat}{w':World}{g nb:Nat}{L:List Nx}{v:Ev}{R:Nt->Prop}{er:Int}(h:er=0->∃t',R t'/\∃a k c L',L'.length=L.length/\L'.map (·.n)=t'.ns/\cM C w' nb L'/\kN C w' g (J (AI ⟨nb,0,be⟩) L.length L.length) (J a k c) t'.ls v):ik C w' g nb L v True R er:=⟨λ_=>trivial,h⟩
def nv(w:World)(Q:Prop)(R:Nt->Prop)(e:Ending)(w':World):Prop:=Below w.heap.size w w'/\((∃er,er≠0/\Q/\e=AT (Ik #[Ij #[J be 0 0,J be 0 0],U O er]))\/∃t' a k c b l d,R t'/\e=AT (Ik #[Ij #[J a k c,J b l d],U O 0])/\fa w.heap.size w' t' (J a k c) (J b l d))
theorem qH(t:Nt)(Q:Prop)(R:Nt->Prop)(vn vl:Value)(v:Ev)(w:World)(hV:Rv w.heap.size w)(h:fo w t vn vl)(hs:t.DI)(he:t.e=0)(hP:∀W C g nb ul L,Below w.heap.size w W->w.heap.size<=C->C<=W.heap.size->cM C W nb L->L.map (·.n)=t.ns->kN C W g (J (AI ⟨nb,0,be⟩) L.length L.length) ul t.ls v->Calls AS 33 #[Ie (AI ⟨g,0,be⟩)] W λe w'=>∃er,e=AT (U O er)/\Below C W w'/\Hid (ik C w' g nb L v Q R er)) :
 Calls AS 19 #[Ij #[vn,vl],Ij (A7 v)] w (nv w Q R):=by
 have oq:Hid (∀W,Below w.heap.size w W->Calls AS 11 #[Ij #[vn,vl]] W λe w'=>e=AT (U O 0)/\Below W.heap.size W w'):=λW hW=>by
  have hc:=qt t vn vl W (hV.after hW) (h.below hW) hs (Nt.aeY he);rw[he] at hc;exact hc
 have hz:=Nt.aN he;have aap:=h.ns.ok;have Ff:Hid (∀W,Below w.heap.size w W->Calls AS 32 #[Ij #[vn,vl]] W λe w'=>∃nb n a l c,e=AT (Ij #[J (AI ⟨nb,0,be⟩) n n,J a l c])/\Below W.heap.size W w'/\Hid (∃L,n=L.length/\L.map (·.n)=t.ns/\cM W.heap.size w' nb L/\Lt.Own W.heap.size w' (J a l c) t.ls)):=λW hW=>by
  refine(uj t vn vl W (h.below hW) hz.1 hz.2.1 (λn hn=>Nd.Rl (hz.2.2.1 n hn))).mono ?_;rintro e w' ⟨un,a,l,c,L,rfl,ho,hb⟩;have Tl:=ho.un;subst Tl;have hLn:t.ns.length=L.length:=by rw[<- ho.ns,JJ]
  exact⟨_,_,_,_,_,rfl,hb,L,hLn,ho.ns,⟨by omega,ho.row,λx hx=>(ho.own x hx).mono (by omega),λx hx=>aap _ (by rw[<- ho.ns];exact List.mem_map_of_mem hx)⟩,Lt.Own.mono ho.ls (by omega)⟩
 have HP:Hid _:=hP;obtain⟨⟨pn,cn,Fg,_⟩,⟨pl,cl,kB,_,_⟩⟩:=h;subst Fg kB;clear hP hV hs hz aap he;generalize t.ns.length=n at *;generalize t.ls.length=m at *;obtain⟨k0,k1,k2,k3,nm,⟨p0,p1,p2,p3,p4⟩,⟨s0,s1,s2,s3,s4,s5,s6,s7,s8⟩⟩:=v;simp only[A7];obtain⟨W0,bN⟩:∃W0,W0=((w.alloc (By #[J pn n cn,J pl m cl] 27)).alloc (By #[U O k0,U O k1,U O k2,U O k3,Y nm,U O p0,U O p1,U O p2,U O p3,U O p4,Y s0,Y s1,Y s2,Y s3,U O s4,U O s5,Ia s6,U O s7,Ia s8] 59)).alloc (By #[J be 0 0,J be 0 0] 27):=⟨_,rfl⟩;have bO:Below w.heap.size w W0:=by rw[bN];exact(((Ib _ _).alloc (Ic _) _).alloc (by simp) _).alloc (by simp;omega) _
 have eK:W0.heap.size=w.heap.size+3:=by rw[bN];simp
 have uN:W0.heap[w.heap.size]?=AI (By #[J pn n cn,J pl m cl] 27 (0,0)):=by rw[bN];exact((On _ _ _ (by simp;omega)).trans (On _ _ _ (by simp))).trans (Ih w _)
 have Rg:W0.heap[w.heap.size+1]?=AI (By #[U O k0,U O k1,U O k2,U O k3,Y nm,U O p0,U O p1,U O p2,U O p3,U O p4,Y s0,Y s1,Y s2,Y s3,U O s4,U O s5,Ia s6,U O s7,Ia s8] 59 (0,0)):=by
  rw[bN];have:=Ih (w.alloc (By #[J pn n cn,J pl m cl] 27)) (By #[U O k0,U O k1,U O k2,U O k3,Y nm,U O p0,U O p1,U O p2,U O p3,U O p4,Y s0,Y s1,Y s2,Y s3,U O s4,U O s5,Ia s6,U O s7,Ia s8] 59);refine(On _ _ _ (by simp)).trans ?_;simpa using this
 have hr0:W0.heap[w.heap.size+2]?=AI (By #[J be 0 0,J be 0 0] 27 (0,0)):=by
  rw[bN];have:=Ih ((w.alloc (By #[J pn n cn,J pl m cl] 27)).alloc (By #[U O k0,U O k1,U O k2,U O k3,Y nm,U O p0,U O p1,U O p2,U O p3,U O p4,Y s0,Y s1,Y s2,Y s3,U O s4,U O s5,Ia s6,U O s7,Ia s8] 59)) (By #[J be 0 0,J be 0 0] 27);simpa using this
 have db:Hid _:=bO;have HX:Hid (∀W,Below W0.heap.size W0 W->W.heap[w.heap.size]?=AI (By #[J pn n cn,J pl m cl] 27 (0,0))/\W.heap[w.heap.size+1]?=AI (By #[U O k0,U O k1,U O k2,U O k3,Y nm,U O p0,U O p1,U O p2,U O p3,U O p4,Y s0,Y s1,Y s2,Y s3,U O s4,U O s5,Ia s6,U O s7,Ia s8] 59 (0,0))/\W.heap[w.heap.size+2]?=AI (By #[J be 0 0,J be 0 0] 27 (0,0))):=λW hW=>⟨(hW.block _ (by omega)).trans uN,(hW.block _ (by omega)).trans Rg,(hW.block _ (by omega)).trans hr0⟩;have KB:Hid (∀W:World,W.heap[w.heap.size]?=AI (By #[J pn n cn,J pl m cl] 27 (0,0))->W.heap[w.heap.size+1]?=AI (By #[U O k0,U O k1,U O k2,U O k3,Y nm,U O p0,U O p1,U O p2,U O p3,U O p4,Y s0,Y s1,Y s2,Y s3,U O s4,U O s5,Ia s6,U O s7,Ia s8] 59 (0,0))->W.cell? ⟨w.heap.size,0,be⟩=AI (J pn n cn)/\W.cell? ⟨w.heap.size,1,be⟩=AI (J pl m cl)/\W.cell? ⟨w.heap.size+1,0,be⟩=AI (U O k0)/\W.cell? ⟨w.heap.size+1,1,be⟩=AI (U O k1)/\W.cell? ⟨w.heap.size+1,2,be⟩=AI (U O k2)/\W.cell? ⟨w.heap.size+1,3,be⟩=AI (U O k3)/\W.cell? ⟨w.heap.size+1,4,be⟩=AI (Y nm)/\W.cell? ⟨w.heap.size+1,5,be⟩=AI (U O p0)/\W.cell? ⟨w.heap.size+1,6,be⟩=AI (U O p1)/\W.cell? ⟨w.heap.size+1,7,be⟩=AI (U O p2)/\W.cell? ⟨w.heap.size+1,8,be⟩=AI (U O p3)/\W.cell? ⟨w.heap.size+1,9,be⟩=AI (U O p4)/\W.cell? ⟨w.heap.size+1,10,be⟩=AI (Y s0)/\W.cell? ⟨w.heap.size+1,11,be⟩=AI (Y s1)/\W.cell? ⟨w.heap.size+1,12,be⟩=AI (Y s2)/\W.cell? ⟨w.heap.size+1,13,be⟩=AI (Y s3)/\W.cell? ⟨w.heap.size+1,14,be⟩=AI (U O s4)/\W.cell? ⟨w.heap.size+1,15,be⟩=AI (U O s5)/\W.cell? ⟨w.heap.size+1,16,be⟩=AI (Ia s6)/\W.cell? ⟨w.heap.size+1,17,be⟩=AI (U O s7)/\W.cell? ⟨w.heap.size+1,18,be⟩=AI (Ia s8)):=λW h1 h2=>⟨ae h1 0,ae h1 1,ae h2 0,ae h2 1,ae h2 2,ae h2 3,ae h2 4,ae h2 5,ae h2 6,ae h2 7,ae h2 8,ae h2 9,ae h2 10,ae h2 11,ae h2 12,ae h2 13,ae h2 14,ae h2 15,ae h2 16,ae h2 17,ae h2 18⟩;have n0:=ae uN 0;have n1:=ae uN 1;have sr:Hid _:=eK;clear bO eK uN Rg hr0;go_enter Tryz.func19,Tryz.ntmps19;go_upto_region 1 with fail
 rw[<- bN];clear bN;go_wp2_with fail;refine(oq.out W0 db.out).mono ?_;rintro e w1 ⟨rfl,aB⟩;have CB:Hid _:=aB;have ba:Hid _:=db.out.trans (aB.mono db.out.size);clear aB n0 n1 oq;go_wp2_with fail;refine wp_region_held_drew (S:=λW=>W.heap[w.heap.size]?=AI (By #[J pn n cn,J pl m cl] 27 (0,0))/\W.heap[w.heap.size+1]?=AI (By #[U O k0,U O k1,U O k2,U O k3,Y nm,U O p0,U O p1,U O p2,U O p3,U O p4,Y s0,Y s1,Y s2,Y s3,U O s4,U O s5,Ia s6,U O s7,Ia s8] 59 (0,0))) (by kernel_rfl) ⟨(HX.out w1 CB.out).1,(HX.out w1 CB.out).2.1⟩ (λbU=>?_);refine wpAnyH_take (i:=0) (v:=Ij #[J pn n cn,J pl m cl]) rfl (by kernel_rfl) (by kernel_rfl) (by kernel_rfl) (λ_ _ _ h=>h) (Or.inl ⟨by rfl,?hy⟩) (by assumption) ?_
 case hy=>
  intro W Ml;have i0:=ae Ml.1 0;have i1:=ae Ml.1 1;clear Ml bU;go_simp;try with_reducible rfl
 refine cd 2 (v:=Ij #[U O k0,U O k1,U O k2,U O k3,Y nm,U O p0,U O p1,U O p2,U O p3,U O p4,Y s0,Y s1,Y s2,Y s3,U O s4,U O s5,Ia s6,U O s7,Ia s8]) ?_ (hy:=Or.inl ⟨by rfl,λW Ml=>ox 59 (.tmp 3) rfl (w.heap.size+1) rfl 59 #[U O k0,U O k1,U O k2,U O k3,Y nm,U O p0,U O p1,U O p2,U O p3,U O p4,Y s0,Y s1,Y s2,Y s3,U O s4,U O s5,Ia s6,U O s7,Ia s8] (0,0) _ Ml.2 Tryz.underlying59 rfl (by kernel_rfl)⟩);refine cz 1 (λK hK=>?_);have HK:Hid _:=hK;clear hK;go_simp;refine Calls.mono (Ff.out _ (cF ba.out)) ?_;rintro e w2 ⟨nb,nn,a,l,c,rfl,aK,Vx⟩;have vJ:Hid _:=(cF CB.out).trans (aK.mono CB.out.size);clear aK;refine HK.out _ _ ⟨(HX.out w2 vJ.out).1,(HX.out w2 vJ.out).2.1⟩ (λbU=>?_);clear HK K;refine cd 3 (v:=Ij #[J (AI ⟨nb,0,be⟩) nn nn,J a l c,U O k0,U O k1,U O k2,U O k3,Y nm,U O p0,U O p1,U O p2,U O p3,U O p4,Y s0,Y s1,Y s2,Y s3,U O s4,U O s5,Ia s6,U O s7,Ia s8]) ?_;refine cz 4 (λK hK=>?_);have HK:Hid _:=hK;clear hK;go_simp;refine HK.out _ _ ⟨((Ib w2.heap.size w2).alloc (Ic _) _).block _ (BY.1 (HX.out w2 vJ.out).1).1 |>.trans (HX.out w2 vJ.out).1,((Ib w2.heap.size w2).alloc (Ic _) _).block _ (BY.1 (HX.out w2 vJ.out).2.1).1 |>.trans (HX.out w2 vJ.out).2.1⟩ (λbU=>?_);clear HK K;refine cd 5 (v:=Ie (AI ⟨w2.heap.size,0,be⟩)) ?_;refine wpAnyH_done (by kernel_rfl) ?_ _;clear bU;go_wp2_with fail;obtain⟨L,hnn,nx,hN,hL⟩:=Vx.out;subst hnn;obtain⟨W3,eu⟩:∃W3,W3=w2.alloc (By #[J (AI ⟨nb,0,be⟩) L.length L.length,J a l c,U O k0,U O k1,U O k2,U O k3,Y nm,U O p0,U O p1,U O p2,U O p3,U O p4,Y s0,Y s1,Y s2,Y s3,U O s4,U O s5,Ia s6,U O s7,Ia s8] 72):=⟨_,rfl⟩;have bX:Below w2.heap.size w2 W3:=by rw[eu];exact(Ib _ _).alloc (Ic _) _
 have Kf:=CB.out.size;have Ty:=vJ.out.size;have CC:Hid _:=vJ.out.trans (bX.mono Ty);have lF:W3.heap[w2.heap.size]?=AI (By #[J (AI ⟨nb,0,be⟩) L.length L.length,J a l c,U O k0,U O k1,U O k2,U O k3,Y nm,U O p0,U O p1,U O p2,U O p3,U O p4,Y s0,Y s1,Y s2,Y s3,U O s4,U O s5,Ia s6,U O s7,Ia s8] 72 (0,0)):=by rw[eu];exact Ih w2 _
 have T9:=HP.out W3 W0.heap.size w2.heap.size nb (J a l c) L (db.out.trans (CC.out.mono db.out.size)) db.out.size CC.out.size ((hN.below bX (by have:=hN.le;have:=(BY.1 hN.row).1;omega)).mono Kf) nx ⟨lF,Ty,(Lt.Own.mono hL Kf).below bX⟩;clear bX lF hN hL nx Vx HP Kf;rw[<- eu];clear eu;refine T9.mono ?_;rintro e w4 ⟨er,rfl,eU,HPI⟩;have FX:=(eU.block _ (by have:=sr.out;omega)).trans (HX.out W3 CC.out).2.2;have g0:=ae FX 0;have g1:=ae FX 1;have f0:w4.frozen? ⟨w.heap.size+2,0,be⟩=false:=aj FX 0;have f1:w4.frozen? ⟨w.heap.size+2,1,be⟩=false:=aj FX 1;by_cases aQ:er=0
 .subst aQ
  obtain⟨t4,hR4,a4,k4,c4,L4,Rt,Ru,hN4,hP4⟩:=HPI.out.2 rfl;clear g0 g1 f0 f1;have x0:w4.cell? ⟨w2.heap.size,0,be⟩=AI (J (AI ⟨nb,0,be⟩) L.length L.length):=ae hP4.hg 0;have x1:w4.cell? ⟨w2.heap.size,1,be⟩=AI (J a4 k4 c4):=ae hP4.hg 1;obtain⟨W5,jo⟩:∃W5,W5=aC (w.heap.size+2) [J (AI ⟨nb,0,be⟩) L.length L.length,J a4 k4 c4] 0 w4:=⟨_,rfl⟩;have GW:W5.heap[w.heap.size+2]?=AI (By #[J (AI ⟨nb,0,be⟩) L.length L.length,J a4 k4 c4] 27 (0,0)):=by rw[jo];exact bA [J (AI ⟨nb,0,be⟩) L.length L.length,J a4 k4 c4] [] [J be 0 0,J be 0 0] FX rfl
  have eA:∀q,q≠w.heap.size+2->W5.heap[q]?=w4.heap[q]?:=λq hq=>by rw[jo];exact aV hq _ _ _
  have rj:∀b,W0.heap.size<=b->b<w4.heap.size->W5.heap[b]?=w4.heap[b]?:=λb hb _=>eA b (by have:=sr.out;omega);have gZ:Hid (nv w Q R (AT (Ik #[Ij #[J (AI ⟨nb,0,be⟩) L.length L.length,J a4 k4 c4],U O 0])) W5):=by
   refine⟨by rw[jo];exact aT (by omega) _ _ ((db.out.trans (CC.out.mono db.out.size)).trans (eU.mono db.out.size)),.inr ⟨t4,_,_,_,_,_,_,hR4,rfl,nb,L4,by rw[Rt],Ru,(hN4.fi rj).mono db.out.size,Lt.Own.mono (ej rj hP4.ls) db.out.size⟩⟩
  have g0:w4.cell? ⟨w.heap.size+2,0,be⟩=AI (J be 0 0):=ae FX 0;have g1:w4.cell? ⟨w.heap.size+2,1,be⟩=AI (J be 0 0):=ae FX 1;have f0:=aj FX 0;have f1:=aj FX 1;have q0:=ae GW 0;have q1:=ae GW 1;clear FX GW eA rj hP4 hN4 Ru hR4 eU Rt HPI T9 HX KB CC vJ CB ba db sr Ty Ff;generalize L.length=nl at *;go_wp2_with fail;simp only[aC,IC] at jo;rw[<- jo];clear jo g0 g1 f0 f1 x0 x1;exact IK (v:=Ik #[Ij #[J (AI ⟨nb,0,be⟩) nl nl,J a4 k4 c4],U O 0]) (by simp[results,Tryz.results19,go_sem,q0,q1]) rfl gZ.out
 .have hd:(er==0)=false:=by simpa using aQ
  have hd2:(er !=0)=true:=by simpa using aQ
  obtain⟨W5,jo⟩:∃W5,W5=aC (w.heap.size+2) [J be 0 0,J be 0 0] 0 w4:=⟨_,rfl⟩;have GW:W5.heap[w.heap.size+2]?=AI (By #[J be 0 0,J be 0 0] 27 (0,0)):=by rw[jo];exact bA [J be 0 0,J be 0 0] [] [J be 0 0,J be 0 0] FX rfl
  have gZ:Hid (nv w Q R (AT (Ik #[Ij #[J be 0 0,J be 0 0],U O er])) W5):=by
   exact⟨by rw[jo];exact aT (by omega) _ _ ((db.out.trans (CC.out.mono db.out.size)).trans (eU.mono db.out.size)),.inl ⟨er,aQ,HPI.out.1 aQ,rfl⟩⟩
  have q0:=ae GW 0;have q1:=ae GW 1;clear FX GW eU T9 HX KB CC vJ CB ba db sr Ty Ff HPI aQ;generalize L.length=nl at *;go_wp2_with fail;simp only[aC,IC] at jo;rw[<- jo];clear jo g0 g1 f0 f1;exact IK (v:=Ik #[Ij #[J be 0 0,J be 0 0],U O er]) (by simp[results,Tryz.results19,go_sem,q0,q1]) rfl gZ.out
theorem uD{L:List Nx}{ns:List Nd}(hm:L.map (·.n)=ns){j:Nat}(hj:j<L.length):(L.getD j bZ).n=ns.getD j bC:=by
 rw[<- hm,Ip,Ip,List.getElem?_map,If hj];rfl
theorem iQ{k n:Nat}(h:k<n):within (k:Int) 0 ((n:Int)-1)=true:=by
 unfold within;simp;omega
def kx(nm:ByteArray)(l:List Mem):Pk:=⟨nm,false,l,[],[],[]⟩
def afN(C:Nat)(n:Nd)(l:List Mem)(V:World)(xs:List Value)(q:Value):Prop:=(∃y:Nx,xs=y.cs/\y.n=n/\cP C V y.n y.vm y.vr y.vs y.vg y.vw/\iw y.n)/\Own C V q l
end Go.Proofs.YtfidhgjmifendaaGreatDoor
