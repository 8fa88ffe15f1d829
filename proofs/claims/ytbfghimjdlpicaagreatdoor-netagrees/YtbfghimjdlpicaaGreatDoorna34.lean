import Derived.Test.YtbfghimjdlpicaaGreatDoorna33
set_option maxHeartbeats 12800000
set_option maxRecDepth 100000
open List renaming getD→Ir,getElem?_eq_getElem→Ic,append_assoc→Iq,mem_or_eq_of_mem_set→Jq
open Go.Obj renaming cells→By
open Option renaming some→AI,none→be
open Go.Value renaming string→Y,slice→J,int→U,pointer→If
open Go.World renaming drew→JL
open Go.IntKind renaming i64→O
open Array renaming getElem?_eq_some_iff→BY
namespace Go.Proofs.YtbfghimjdlpicaaGreatDoor
open Go.RowKit
theorem iB.isW{base:Nat}{w:World}{p:Pk}{vm vs vg vw:Value}(h:iB base w p vm vs vg vw)(hk:p.Wok):lz w p vm vs vg vw:=
 ⟨bM h.ms (λm hm=>by have:=(hk.ms.2 m hm).1;unfold maxLen;omega),Sv.bM h.sv (λm hm=>by obtain⟨h1,h2,h3,h4,_⟩:=hk.sv.2 m hm;refine⟨?_,?_,?_,?_⟩<;>(unfold maxLen;omega)),Gw.bM h.gw (λm hm=>by have:=(hk.gw.2 m hm).1;show _<=_;unfold maxLen;omega),Wh.bM h.wh (λm hm=>by have:=(hk.wh.2 m hm).1;show _<=_;unfold maxLen;omega),by have:=hk.du;unfold maxLen;omega,pd h.ms⟩
theorem S7(L:List Nx)(k:Nat)(hk:k<L.length):jP L=jP (L.take k)++(L.getD k cz).cs++jP (L.drop (k+1)):=by
 have h:L=L.take k++([L.getD k cz]++L.drop (k+1)):=by
  rw[Ir,Ic hk,Option.getD_some,List.singleton_append,List.getElem_cons_drop,List.take_append_drop]
 have h2:=congrArg jP h;rw[lN,lN,uv,<- Iq] at h2;exact h2
theorem S8(L:List Nx)(k:Nat)(hk:k<L.length)(y:Nx):jP (L.set k y)=jP (L.take k)++y.cs++jP (L.drop (k+1)):=by
 rw[List.set_eq_take_append_cons_drop,if_pos hk,show L.take k++y::L.drop (k+1)=L.take k++([y]++L.drop (k+1)) from rfl,lN,lN,uv,Iq]
theorem cZ.row{B b:Nat}{w w':World}{n:Nd}{vm vr vs vg vw:Value}{cs:Array Value}(h:cZ B w n vm vr vs vg vw)(hb:w.heap[b]?=AI (By cs 50 (0,0)))(hk:∀q,q≠b->w'.heap[q]?=w.heap[q]?):cZ B w' n vm vr vs vg vw:=by
 have hq:∀(q:Nat) (c:Array Value) (T:TypeId) (f:Nat×Nat),T≠50->w.heap[q]?=AI (By c T f)->w'.heap[q]?=AI (By c T f):=λq c T f hT e=>(hk q (λe2=>by subst e2;rw[hb] at e;simp at e;exact hT e.2.1.symm)).trans e;exact⟨eS h.ms (λq c f e=>hq q c _ f (by decide) e),eS h.rs (λq c f e=>hq q c _ f (by decide) e),eS h.sv (λq c f e=>hq q c _ f (by decide) e),eS h.gw (λq c f e=>hq q c _ f (by decide) e),eS h.wh (λq c f e=>hq q c _ f (by decide) e)⟩
def ai0(C:Nat)(n:Nd)(V:World)(xs:List Value):Prop:=∃y:Nx,xs=y.cs/\y.n=n/\cZ C V y.n y.vm y.vr y.vs y.vg y.vw/\iE y.n
def ai1(p:Pk)(V:World)(xs:List Value):Prop:=∃vm vs vg vw,xs=[Y p.du,.bool p.whole,vm,vs,vg,vw]/\lz V p vm vs vg vw
theorem cW.turn{C nb k:Nat}{w V:World}{L:List Nx}{y:Nx}(h:cW C w nb L)(hb:Below w.heap.size w V)(hC:C<=w.heap.size)(hk:k<L.length)(ho:cZ C V y.n y.vm y.vr y.vs y.vg y.vw)(gP:iE y.n):cW C (JL (aF nb y.cs (k*12) V)) nb (L.set k y):=by
 have hv:=h.below hb hC;have eU:∀q,q≠nb->(JL (aF nb y.cs (k*12) V)).heap[q]?=V.heap[q]?:=λq hq=>by rw[dS];exact bc hq _ _ _
 refine⟨h.le,?_,λx hx=>?_,λx hx=>?_⟩
 .have hr:=hv.row
  rw[S7 L k hk] at hr;have h2:=qP (b:=nb) y.cs (jP (L.take k)) (L.getD k cz).cs (jP (L.drop (k+1))) hr (by rw[kz,kz]);rw[zO,List.length_take,Nat.min_eq_left (by omega)] at h2;rw[dS,S8 L k hk];exact h2
 .rcases Jq hx with h1|rfl
  .exact(hv.own x h1).row hv.row eU
  .exact ho.row hv.row eU
 .rcases Jq hx with h1|rfl
  .exact h.ok x h1
  .exact gP
theorem lU.row{C g nb:Nat}{w w':World}{un ul:Value}{ls:List Lt.fy}{v:Ev}{cs:Array Value}(h:lU C w g un ul ls v)(hb:w.heap[nb]?=AI (By cs 50 (0,0)))(hk:∀q,q≠nb->w'.heap[q]?=w.heap[q]?):lU C w' g un ul ls v:=by
 have hq:∀(q:Nat) (c:Array Value) (T:TypeId) (f:Nat×Nat),T≠50->w.heap[q]?=AI (By c T f)->w'.heap[q]?=AI (By c T f):=λq c T f hT e=>(hk q (λe2=>by subst e2;rw[hb] at e;simp at e;exact hT e.2.1.symm)).trans e;exact⟨hq _ _ _ _ (by decide) h.hg,h.le,eS h.ls (λq c f e=>hq q c _ f (by decide) e)⟩
theorem Ks(g nb n j:Nat)(R:Array Value)(v0 v1 v2 v3 v4 v5 v6 v7 v8 v9 v10 v11:Value)(u0 u1:ByteArray)(b2 b3 b4 b5 b11:Option Addr)(m2 e2 m3 e3 m4 e4 m5 e5 m11 e11:Nat)(u6 u7 u8 u9 u10:Int)(w:World)(hj:j<n)(g0:w.cell? ⟨g,0,be⟩=AI (J (AI ⟨nb,0,be⟩) n n))(g3:w.cell? ⟨g,3,be⟩=AI (U O (j:Int)))(cL:w.heap[nb]?=AI (By R 50 (0,0)))(Rk:nb≠g)(c0:R[j*12]?=AI v0)(c1:R[j*12+1]?=AI v1)(c2:R[j*12+2]?=AI v2)(c3:R[j*12+3]?=AI v3)(c4:R[j*12+4]?=AI v4)(c5:R[j*12+5]?=AI v5)(c6:R[j*12+6]?=AI v6)(c7:R[j*12+7]?=AI v7)(c8:R[j*12+8]?=AI v8)(c9:R[j*12+9]?=AI v9)(c10:R[j*12+10]?=AI v10)(c11:R[j*12+11]?=AI v11) :
 Calls Tryz.prog 79 #[If (AI ⟨g,0,be⟩),.agg #[Y u0,Y u1,J b2 m2 e2,J b3 m3 e3,J b4 m4 e4,J b5 m5 e5,U O u6,U O u7,U O u8,U O u9,U O u10,J b11 m11 e11],U O 0] w λe w'=>e=.returned (U O 0)/\w'=JL (aF nb [Y u0,Y u1,J b2 m2 e2,J b3 m3 e3,J b4 m4 e4,J b5 m5 e5,U O u6,U O u7,U O u8,U O u9,U O u10,J b11 m11 e11] (j*12) (w.alloc (By #[Y u0,Y u1,J b2 m2 e2,J b3 m3 e3,J b4 m4 e4,J b5 m5 e5,U O u6,U O u7,U O u8,U O u9,U O u10,J b11 m11 e11] 50))):=by
 have dv:=World.block_lt_of_cell? w _ g0;have aO:=(BY.1 cL).1;obtain⟨V,hV,S9,-,xz⟩:=bV w #[Y u0,Y u1,J b2 m2 e2,J b3 m3 e3,J b4 m4 e4,J b5 m5 e5,U O u6,U O u7,U O u8,U O u9,U O u10,J b11 m11 e11] 50;have pR:=(S9.block nb aO).trans cL;have a0:=(S9.cell (p:=⟨g,0,be⟩) dv).trans g0;have a3:=(S9.cell (p:=⟨g,3,be⟩) dv).trans g3;have d0:=(ae pR _).trans c0;have z0:V.frozen? ⟨nb,j*12,be⟩=false:=aA pR _;have d1:V.cell? ⟨nb,j*12+1,be⟩=AI v1:=(ae pR _).trans c1;have z1:V.frozen? ⟨nb,j*12+1,be⟩=false:=aA pR _;have d2:V.cell? ⟨nb,j*12+2,be⟩=AI v2:=(ae pR _).trans c2;have z2:V.frozen? ⟨nb,j*12+2,be⟩=false:=aA pR _;have d3:V.cell? ⟨nb,j*12+3,be⟩=AI v3:=(ae pR _).trans c3;have z3:V.frozen? ⟨nb,j*12+3,be⟩=false:=aA pR _;have d4:V.cell? ⟨nb,j*12+4,be⟩=AI v4:=(ae pR _).trans c4;have z4:V.frozen? ⟨nb,j*12+4,be⟩=false:=aA pR _;have d5:V.cell? ⟨nb,j*12+5,be⟩=AI v5:=(ae pR _).trans c5;have z5:V.frozen? ⟨nb,j*12+5,be⟩=false:=aA pR _;have d6:V.cell? ⟨nb,j*12+6,be⟩=AI v6:=(ae pR _).trans c6;have z6:V.frozen? ⟨nb,j*12+6,be⟩=false:=aA pR _;have d7:V.cell? ⟨nb,j*12+7,be⟩=AI v7:=(ae pR _).trans c7;have z7:V.frozen? ⟨nb,j*12+7,be⟩=false:=aA pR _;have d8:V.cell? ⟨nb,j*12+8,be⟩=AI v8:=(ae pR _).trans c8;have z8:V.frozen? ⟨nb,j*12+8,be⟩=false:=aA pR _;have d9:V.cell? ⟨nb,j*12+9,be⟩=AI v9:=(ae pR _).trans c9;have z9:V.frozen? ⟨nb,j*12+9,be⟩=false:=aA pR _;have d10:V.cell? ⟨nb,j*12+10,be⟩=AI v10:=(ae pR _).trans c10;have z10:V.frozen? ⟨nb,j*12+10,be⟩=false:=aA pR _;have d11:V.cell? ⟨nb,j*12+11,be⟩=AI v11:=(ae pR _).trans c11;have z11:V.frozen? ⟨nb,j*12+11,be⟩=false:=aA pR _;obtain⟨y0,y1,y2,y3,y4,y5,y6,y7,y8,y9,y10,y11⟩:=bQ xz;have nE2:nb≠w.heap.size:=by omega
 have yP:(j:Int)<(n:Int):=by omega
 have T5:(0:Int)<=(j:Int):=by omega
 have hjt:((j:Int)).toNat=j:=by omega
 obtain⟨W5,iF⟩:∃W5,W5=JL (aF nb [Y u0,Y u1,J b2 m2 e2,J b3 m3 e3,J b4 m4 e4,J b5 m5 e5,U O u6,U O u7,U O u8,U O u9,U O u10,J b11 m11 e11] (j*12) V):=⟨_,rfl⟩;rw[<- hV,<- iF];clear S9 xz pR g0 g3 cL dv aO hj c0 c1 c2 c3 c4 c5 c6 c7 c8 c9 c10 c11;simp only[aF,Nat.add_assoc,Nat.reduceAdd] at iF;go_enter Tryz.func79,Tryz.ntmps79;go_upto_region 1 with fail
 rw[<- hV];clear hV;go_wp2_with fail;go_region_held3 (λw'=>w'.cell? ⟨g,0,be⟩=AI (J (AI ⟨nb,0,be⟩) n n)/\w'.cell? ⟨g,3,be⟩=AI (U O (j:Int))/\w'.cell? ⟨w.heap.size,0,be⟩=AI (Y u0)/\w'.cell? ⟨w.heap.size,1,be⟩=AI (Y u1)/\w'.cell? ⟨w.heap.size,2,be⟩=AI (J b2 m2 e2)/\w'.cell? ⟨w.heap.size,3,be⟩=AI (J b3 m3 e3)/\w'.cell? ⟨w.heap.size,4,be⟩=AI (J b4 m4 e4)/\w'.cell? ⟨w.heap.size,5,be⟩=AI (J b5 m5 e5)/\w'.cell? ⟨w.heap.size,6,be⟩=AI (U O u6)/\w'.cell? ⟨w.heap.size,7,be⟩=AI (U O u7)/\w'.cell? ⟨w.heap.size,8,be⟩=AI (U O u8)/\w'.cell? ⟨w.heap.size,9,be⟩=AI (U O u9)/\w'.cell? ⟨w.heap.size,10,be⟩=AI (U O u10)/\w'.cell? ⟨w.heap.size,11,be⟩=AI (J b11 m11 e11)) (simp only[World.cell?_setCell_far,World.cell?_drew,ne_eq,Rk,nE2,not_false_eq_true,a0,a3,y0,y1,y2,y3,y4,y5,y6,y7,y8,y9,y10,y11,and_self]) (fail)
 go_wp2_with fail;rw[<- iF];go_ret;exact⟨rfl,rfl⟩
theorem D3(C g nb j:Nat)(ul:Value)(ls:List Lt.fy)(v:Ev)(L:List Nx)(y:Nx)(w:World)(h:lU C w g (J (AI ⟨nb,0,be⟩) L.length L.length) ul ls v)(hN:cW C w nb L)(hC:C<=w.heap.size)(hv:v.which=(j:Int))(hj:j<L.length)(ho:cZ C w y.n y.vm y.vr y.vs y.vg y.vw)(hk:iE y.n) :
 Calls Tryz.prog 79 #[If (AI ⟨g,0,be⟩),.agg (dE y.n y.vm y.vr y.vs y.vg y.vw),U O 0] w λe w'=>e=.returned (U O 0)/\Below C w w'/\cW C w' nb (L.set j y)/\lU C w' g (J (AI ⟨nb,0,be⟩) L.length L.length) ul ls v/\∀q,q≠nb->q<w.heap.size->w'.heap[q]?=w.heap[q]?:=by
 have dX:w.cell? ⟨g,0,be⟩=AI (J (AI ⟨nb,0,be⟩) L.length L.length):=ae h.hg 0;have mJ:w.cell? ⟨g,3,be⟩=AI (U O (j:Int)):=by rw[<- hv];exact ae h.hg 3
 have Rk:nb≠g:=λe=>by
  have h1:=hN.row;rw[e,h.hg] at h1;simp at h1
 have hc:=λi hi=>nF L j hj i hi;have cE:∀i,i<12->∃u,(jP L).toArray[j*12+i]?=AI u:=λi hi=>by
  refine⟨(L.getD j cz).cs[i]'(by rw[kz];exact hi),?_⟩;rw[List.getElem?_toArray,hc i hi,Ic]
 obtain⟨v0,c0⟩:=cE 0 (by omega);obtain⟨v1,c1⟩:=cE 1 (by omega);obtain⟨v2,c2⟩:=cE 2 (by omega);obtain⟨v3,c3⟩:=cE 3 (by omega);obtain⟨v4,c4⟩:=cE 4 (by omega);obtain⟨v5,c5⟩:=cE 5 (by omega);obtain⟨v6,c6⟩:=cE 6 (by omega);obtain⟨v7,c7⟩:=cE 7 (by omega);obtain⟨v8,c8⟩:=cE 8 (by omega);obtain⟨v9,c9⟩:=cE 9 (by omega);obtain⟨v10,c10⟩:=cE 10 (by omega);obtain⟨v11,c11⟩:=cE 11 (by omega);have hb:Below w.heap.size w (w.alloc (By (dE y.n y.vm y.vr y.vs y.vg y.vw) 50)):=(Below.refl _ _).alloc (Nat.le_refl _) _;have eU:∀q,q≠nb->(JL (aF nb y.cs (j*12) (w.alloc (By (dE y.n y.vm y.vr y.vs y.vg y.vw) 50)))).heap[q]?=(w.alloc (By (dE y.n y.vm y.vr y.vs y.vg y.vw) 50)).heap[q]?:=λq hq=>by rw[dS];exact bc hq _ _ _
 have HF:Below C w (JL (aF nb y.cs (j*12) (w.alloc (By (dE y.n y.vm y.vr y.vs y.vg y.vw) 50))))/\cW C (JL (aF nb y.cs (j*12) (w.alloc (By (dE y.n y.vm y.vr y.vs y.vg y.vw) 50)))) nb (L.set j y)/\lU C (JL (aF nb y.cs (j*12) (w.alloc (By (dE y.n y.vm y.vr y.vs y.vg y.vw) 50)))) g (J (AI ⟨nb,0,be⟩) L.length L.length) ul ls v/\∀q,q≠nb->q<w.heap.size->(JL (aF nb y.cs (j*12) (w.alloc (By (dE y.n y.vm y.vr y.vs y.vg y.vw) 50)))).heap[q]?=w.heap[q]? :=
  ⟨cQ (aU hN.le _ _ (hb.mono hC)),hN.turn hb hC hj (ho.below hb) hk,(h.below hb).row (hN.below hb hC).row eU,λq hq hl=>(eU q hq).trans (hb.block q hl)⟩
 obtain⟨⟨nm,ct,ms,rs,sv,gw,⟨px,py,pz,ph,pq⟩,wh⟩,vm,vr,vs,vg,vw⟩:=y;obtain⟨a2,x2,h2⟩:=aQ ho.ms;obtain⟨a3,x3,h3⟩:=aQ ho.rs;obtain⟨a4,x4,h4⟩:=aQ ho.sv;obtain⟨a5,x5,h5⟩:=aQ ho.gw;obtain⟨a11,x11,h11⟩:=aQ ho.wh;simp only at h2 h3 h4 h5 h11;subst h2 h3 h4 h5 h11;refine(Ks g nb L.length j (jP L).toArray v0 v1 v2 v3 v4 v5 v6 v7 v8 v9 v10 v11 _ _ _ _ _ _ _ _ _ _ _ _ _ _ _ _ _ _ _ _ _ _ w hj dX mJ hN.row Rk c0 c1 c2 c3 c4 c5 c6 c7 c8 c9 c10 c11).mono ?_;rintro e w' ⟨rfl,rfl⟩;exact⟨rfl,HF⟩
def Cv(v:Ev):Array Value:=#[U O v.kind,U O v.which,U O v.other,U O v.n,Y v.name,U O v.p.x,U O v.p.y,U O v.p.z,U O v.p.h,U O v.p.s,Y v.s.node,Y v.s.bf,Y v.s.name,Y v.s.tag,U O v.s.addr,U O v.s.port,.bool v.s.af,U O v.s.version,.bool v.s.gone]
def eP(C:Nat)(w:World)(t:Nt)(un ul:Value):Prop:=∃nb L,un=J (AI ⟨nb,0,be⟩) L.length L.length/\L.map (·.n)=t.ns/\cW C w nb L/\Lt.Own C w ul t.ls
theorem cW.ai7{C nb:Nat}{w:World}{L:List Nx}(h:cW C w nb L):tX w nb 0 (L.map (·.n)):=λj hj=>by
 have Ko:j<L.length:=by simpa using hj
 have hn:(L.getD j cz).n=(L.map (·.n)).getD j aM:=by
  rw[Ir,Ir,List.getElem?_map,Ic Ko];rfl
 have ho:=h.own _ (ik Ko);have hk:=h.ok _ (ik Ko);have hg:=λi hi=>h.cell Ko i hi;rw[<- hn];exact⟨_,_,_,_,_,ho.is hk,λi hi=>by rw[hg i hi,Nx.cs,Array.getElem?_toList]⟩
theorem eP.is{C:Nat}{w:World}{t:Nt}{un ul:Value}(h:eP C w t un ul)(hk:∀l∈t.ls,l.ok):fC w t un ul:=by
 obtain⟨nb,L,rfl,hm,hN,hl⟩:=h;have hr:=hN.ai7;rw[hm] at hr;refine⟨⟨AI ⟨nb,0,be⟩,L.length,by rw[<- hm,List.length_map],.inr ⟨nb,0,rfl,(BY.1 hN.row).1,hr⟩⟩,Lt.bM hl hk⟩
theorem cW.fN{C nb:Nat}{w w':World}{L:List Nx}(h:cW C w nb L)(hk:∀b,C<=b->b<w.heap.size->w'.heap[b]?=w.heap[b]?):cW C w' nb L:=⟨h.le,(hk nb h.le (BY.1 h.row).1).trans h.row,λx hx=>(h.own x hx).fN hk,h.ok⟩
theorem cW.mono{A C nb:Nat}{w:World}{L:List Nx}(h:cW C w nb L)(hA:A<=C):cW A w nb L:=⟨Nat.le_trans hA h.le,h.row,λx hx=>(h.own x hx).mono hA,h.ok⟩
theorem pS{P:Program}{a:Act}{o:Oper}{W:World}(ty:TypeId)(x:Operand)(ho:o.op=.load ty x)(g:Nat)(hx:a.eval x=If (AI ⟨g,0,be⟩))(T:TypeId)(cs:Array Value)(fr:Nat×Nat)(d:TypeDesc)(hg:W.heap[g]?=AI (By cs T fr))(hu:P.underlying ty=AI d)(hd:(match d with | .struct _ | .array _ _=>true|_=>false)=true)(hi:(P.info? ty).map (·.size)=AI cs.size):(execOp a.eval o).run P W=.ok (.value (.agg cs)) W:=by
 unfold execOp;simp only[ho,hx,Instr.loadAt,Instr.sureAddr,Sem.run_bind,Sem.run_pure,Result.andThen_ok,run_loadVar_row W g T ty cs fr d hg hu hd hi]
def lp(w:World)(t:Nt)(e:Ending)(w':World):Prop:=Below w.heap.size w w'/\∃a k c b l d,e=.returned (.tuple #[.agg #[J a k c,J b l d],U O 0])/\eP w.heap.size w' t (J a k c) (J b l d)
theorem vS{L:List Nx}{ns:List Nd}(hm:L.map (·.n)=ns){j:Nat}(hj:j<L.length):(L.getD j cz).n=ns.getD j aM:=by
 rw[<- hm,Ir,Ir,List.getElem?_map,Ic hj];rfl
theorem lq{k n:Nat}(h:k<n):within (k:Int) 0 ((n:Int)-1)=true:=by
 unfold within;simp;omega
def rZ(nm:ByteArray)(l:List Mem):Pk:=⟨nm,false,l,[],[],[]⟩
def ai8(C:Nat)(n:Nd)(l:List Mem)(V:World)(xs:List Value)(q:Value):Prop:=(∃y:Nx,xs=y.cs/\y.n=n/\cZ C V y.n y.vm y.vr y.vs y.vg y.vw/\iE y.n)/\Own C V q l
end Go.Proofs.YtbfghimjdlpicaaGreatDoor
