import Derived.Test.YtfidhgjmifendaaGreatDoorng32
import Derived.Test.YtfidhgjmifendaaGreatDoorng46
set_option maxHeartbeats 12800000
set_option maxRecDepth 100000
open Go renaming maxLen→Io,TypeId→I4,heap_alloc_new→Ii,cell_regrown→Ig,bodyPost_ret→IL
open List renaming getD→Iq,getElem?_eq_getElem→Ie,append_assoc→Ip,mem_or_eq_of_mem_set→JS,length_map→Oa
open Option renaming some→AI,none→be
open Go.World renaming drew→JB,block_lt_of_cell?→Iy
open Go.Proofs.Tryz renaming prog→AS,underlying3→IF
open Go.Instr renaming lookup→OW
open Go.RowKit.Below renaming refl→Ib
open Nat renaming le_refl→Ic,le_trans→Ir,zero_add→ID
open Go.Lib renaming alloc_old→Ob
open Array renaming getElem?_eq_some_iff→BY
namespace Go.Proofs.YtfidhgjmifendaaGreatDoor
open Go.RowKit
theorem gz.isW{base:Nat}{w:World}{p:Pk}{vm vs vg vw:Value}(h:gz base w p vm vs vg vw)(hk:p.Vw):jY w p vm vs vg vw:=
 ⟨bF h.ms (λm hm=>by have:=(hk.ms.2 m hm).1;unfold Io;omega),Sv.bF h.sv (λm hm=>by obtain⟨h1,h2,h3,h4,_⟩:=hk.sv.2 m hm;refine⟨?_,?_,?_,?_⟩<;>(unfold Io;omega)),Gw.bF h.gw (λm hm=>by have:=(hk.gw.2 m hm).1;show _<=_;unfold Io;omega),Wh.bF h.wh (λm hm=>by have:=(hk.wh.2 m hm).1;show _<=_;unfold Io;omega),by have:=hk.cT;unfold Io;omega,nv h.ms⟩
theorem N1(L:List Nx)(k:Nat)(hk:k<L.length):iS L=iS (L.take k)++(L.getD k bW).cs++iS (L.drop (k+1)):=by
 have h:L=L.take k++([L.getD k bW]++L.drop (k+1)):=by
  rw[Iq,Ie hk,Option.getD_some,List.singleton_append,List.getElem_cons_drop,List.take_append_drop]
 have h2:=congrArg iS h;rw[ko,ko,sn,<- Ip] at h2;exact h2
theorem N2(L:List Nx)(k:Nat)(hk:k<L.length)(y:Nx):iS (L.set k y)=iS (L.take k)++y.cs++iS (L.drop (k+1)):=by
 rw[List.set_eq_take_append_cons_drop,if_pos hk,show L.take k++y::L.drop (k+1)=L.take k++([y]++L.drop (k+1)) from rfl,ko,ko,sn,Ip]
theorem cJ.row{B b:Nat}{w w':World}{n:Nd}{vm vr vs vg vw:Value}{cs:Array Value}(h:cJ B w n vm vr vs vg vw)(hb:w.heap[b]?=AI (.cells cs 42 (0,0)))(hk:∀q,q≠b->w'.heap[q]?=w.heap[q]?):cJ B w' n vm vr vs vg vw:=by
 have hq:∀(q:Nat) (c:Array Value) (T:I4) (f:Nat×Nat),T≠42->w.heap[q]?=AI (.cells c T f)->w'.heap[q]?=AI (.cells c T f):=λq c T f hT e=>(hk q (λe2=>by subst e2;rw[hb] at e;simp at e;exact hT e.2.1.symm)).trans e;exact⟨en h.ms (λq c f e=>hq q c _ f (by decide) e),en h.rs (λq c f e=>hq q c _ f (by decide) e),en h.sv (λq c f e=>hq q c _ f (by decide) e),en h.gw (λq c f e=>hq q c _ f (by decide) e),en h.wh (λq c f e=>hq q c _ f (by decide) e)⟩
def afi(C:Nat)(n:Nd)(V:World)(xs:List Value):Prop:=∃y:Nx,xs=y.cs/\y.n=n/\cJ C V y.n y.vm y.vr y.vs y.vg y.vw/\iq y.n
def afj(p:Pk)(V:World)(xs:List Value):Prop:=∃vm vs vg vw,xs=[.string p.cT,.bool p.whole,vm,vs,vg,vw]/\jY V p vm vs vg vw
theorem cG.turn{C nb k:Nat}{w V:World}{L:List Nx}{y:Nx}(h:cG C w nb L)(hb:Below w.heap.size w V)(hC:C<=w.heap.size)(hk:k<L.length)(ho:cJ C V y.n y.vm y.vr y.vs y.vg y.vw)(hY:iq y.n):cG C (JB (aD nb y.cs (k*12) V)) nb (L.set k y):=by
 have hv:=h.below hb hC;have et:∀q,q≠nb->(JB (aD nb y.cs (k*12) V)).heap[q]?=V.heap[q]?:=λq hq=>by rw[dA];exact aV hq _ _ _
 refine⟨h.le,?_,λx hx=>?_,λx hx=>?_⟩
 .have hr:=hv.row
  rw[N1 L k hk] at hr;have h2:=oz (b:=nb) y.cs (iS (L.take k)) (L.getD k bW).cs (iS (L.drop (k+1))) hr (by rw[jv,jv]);rw[xA,List.length_take,Nat.min_eq_left (by omega)] at h2;rw[dA,N2 L k hk];exact h2
 .rcases JS hx with h1|rfl
  .exact(hv.own x h1).row hv.row et
  .exact ho.row hv.row et
 .rcases JS hx with h1|rfl
  .exact h.ok x h1
  .exact hY
theorem ky.row{C g nb:Nat}{w w':World}{un ul:Value}{ls:List Lt.fg}{v:Ev}{cs:Array Value}(h:ky C w g un ul ls v)(hb:w.heap[nb]?=AI (.cells cs 42 (0,0)))(hk:∀q,q≠nb->w'.heap[q]?=w.heap[q]?):ky C w' g un ul ls v:=by
 have hq:∀(q:Nat) (c:Array Value) (T:I4) (f:Nat×Nat),T≠42->w.heap[q]?=AI (.cells c T f)->w'.heap[q]?=AI (.cells c T f):=λq c T f hT e=>(hk q (λe2=>by subst e2;rw[hb] at e;simp at e;exact hT e.2.1.symm)).trans e;exact⟨hq _ _ _ _ (by decide) h.hg,h.le,en h.ls (λq c f e=>hq q c _ f (by decide) e)⟩
end Go.Proofs.YtfidhgjmifendaaGreatDoor
namespace Go.Proofs.YtfidhgjmifendaaGreatDoor
open Go.RowKit Go.WideMaps Go.Maps
def Lf(v:Value):Option (DataW Value×List MemPlace):=AI (.held v,[])
def kI(k:Int):Lit:=.int .i64 k
theorem Lg(k:Int):WideAt.IsKeyLit (kI k):=by simp[kI,WideAt.IsKeyLit]
theorem Rq{a b:Int}(h:a≠b):kI a≠kI b:=λe=>h (by simpa[kI] using e)
def ui:List (Int×Value)->Int->Option Value
 |[],_=>be
 |(a,v)::r,k=>if k=a then AI v else ui r k
def xN(w:World)(b n:Nat)(M:List (Int×Value)):Prop:=∃D:DataW Value,w.ownsMap AS 3 Lf b n D/\(∀k,has D (kI k)=(ui M k).isSome)/\∀k,D.atKey (kI k) (.held .nilFunc)=.held ((ui M k).getD .nilFunc)
theorem Rr:Keyed AS 3:=int_keyed IF
theorem Ts(w:World):(zeroValue 73).run AS w=.ok .nilFunc w:=by kernel_rfl
theorem Fx(w:World):xN (w.alloc (.map #[] 0)) w.heap.size 0 []:=⟨.map [],World.ownsMap_made w AS 3 Lf,λk=>by simp[has,ui],λk=>by simp[DataW.atKey,ui]⟩
theorem xN.look{w:World}{b n:Nat}{M:List (Int×Value)}(h:xN w b n M){k:Int}(hk:(Lit.int .i64 k).wf=true):(OW 104 (.map (AI b)) (.int .i64 k) true).run AS w=.ok (.tuple #[(ui M k).getD .nilFunc,.bool (ui M k).isSome]) w:=by
 obtain⟨D,h1,h2,h3⟩:=h;obtain⟨v,ps,jK,hv⟩:=h1.look_ok Rr Tryz.underlying104 (Ts w) (show Lf .nilFunc=AI (.held .nilFunc,[]) from rfl) (keyOf_int_mk IF hk);have e:v=(ui M k).getD .nilFunc:=by
  have h4:(DataW.held v:DataW Value)=D.atKey (kI k) (.held .nilFunc):=by
   simp only[Lf,Option.some.injEq,Prod.mk.injEq] at hv;exact hv.1
  rw[h3 k] at h4;injection h4
 have e2:has D (.int .i64 k)=(ui M k).isSome:=h2 k;rw[jK,e,e2]
theorem xN.put{w:World}{b n:Nat}{M:List (Int×Value)}(h:xN w b n M)(hn:n<Io){k:Int}(hk:(Lit.int .i64 k).wf=true)(v:Value):∃w',(Instr.mapUpdate 104 (.map (AI b)) (.int .i64 k) v).run AS w=.ok () w'/\xN w' b (n+1) ((k,v)::M)/\w.grownBy w' (AI b):=by
 obtain⟨D,h1,h2,h3⟩:=h;obtain⟨w',jK,ho,hg⟩:=h1.update Rr Tryz.underlying104 hn (keyOf_int_mk IF hk) (show Lf v=AI (.held v,[]) from rfl);refine⟨w',jK,⟨_,ho,λx=>?_,λx=>?_⟩,hg⟩
 .by_cases e:x=k
  .subst e
   rw[ui,if_pos rfl];exact has_put_same h1.isMap (Lg _) _
  .rw[ui,if_neg e,<- h2 x]
   exact has_put_other (Rq e) _
 .by_cases e:x=k
  .subst e
   rw[ui,if_pos rfl];exact atKey_put_same h1.isMap (Lg _) _ _
  .rw[ui,if_neg e,<- h3 x]
   exact atKey_put_other (Rq e) _ _
def tV(g pb:Nat):List (Int×Value):=[(12,.func (.func 96) #[] #[.pointer (AI ⟨pb,0,be⟩)]),(11,.func (.func 94) #[] #[.pointer (AI ⟨pb,0,be⟩)]),(10,.func (.func 92) #[] #[.pointer (AI ⟨pb,0,be⟩)]),(9,.func (.func 90) #[] #[.pointer (AI ⟨pb,0,be⟩)]),(8,.func (.func 88) #[] #[.pointer (AI ⟨pb,0,be⟩)]),(7,.func (.func 86) #[] #[.pointer (AI ⟨pb,0,be⟩)]),(6,.func (.func 83) #[] #[.pointer (AI ⟨pb,0,be⟩)]),(5,.func (.func 82) #[.pointer (AI ⟨g,0,be⟩)] #[]),(4,.func (.func 81) #[.pointer (AI ⟨g,0,be⟩)] #[]),(3,.func (.func 80) #[.pointer (AI ⟨g,0,be⟩)] #[]),(2,.func (.func 79) #[.pointer (AI ⟨g,0,be⟩)] #[]),(1,.func (.func 78) #[.pointer (AI ⟨g,0,be⟩)] #[])]
theorem jU(g:Nat)(w:World) :
 Calls AS 51 #[.pointer (AI ⟨g,0,be⟩)] w λe w'=>e=.returned (.map (AI (w.heap.size+1)))/\xN w' (w.heap.size+1) 12 (tV g w.heap.size)/\w'.heap[w.heap.size]?=AI (.cells #[.pointer (AI ⟨g,0,be⟩)] 70 (0,0))/\Below w.heap.size w w':=by
 obtain⟨W0,bA⟩:∃W0,W0=(w.alloc (.cells #[.pointer (AI ⟨g,0,be⟩)] 70)).alloc (.map #[] 0):=⟨_,rfl⟩;have bM:Below w.heap.size w W0:=by rw[bA];exact((Ib _ _).alloc (Ic _) _).alloc (by simp) _
 have k0:W0.heap[w.heap.size]?=AI (.cells #[.pointer (AI ⟨g,0,be⟩)] 70 (0,0)):=by
  rw[bA];exact(Ob _ _ _ (by simp)).trans (Ii w _)
 have eE:w.heap.size+2<=W0.heap.size:=by rw[bA];simp
 have m0:xN W0 (w.heap.size+1) 0 []:=by
  have:=Fx (w.alloc (.cells #[.pointer (AI ⟨g,0,be⟩)] 70));rw[bA];simpa using this
 obtain⟨w1,r1,m1,g1⟩:=m0.put (by decide) (k:=1) (by decide) (.func (.func 78) #[.pointer (AI ⟨g,0,be⟩)] #[]);have fh:=Ir eE g1.size;have k1:=(g1.block _ (by omega) (by simp)).trans k0;have aB:=bM.grown g1 (by omega) (λq hq=>by cases hq;omega);obtain⟨w2,r2,m2,g2⟩:=m1.put (by decide) (k:=2) (by decide) (.func (.func 79) #[.pointer (AI ⟨g,0,be⟩)] #[]);have iU:=Ir fh g2.size;have k2:=(g2.block _ (by omega) (by simp)).trans k1;have aI:=aB.grown g2 (by omega) (λq hq=>by cases hq;omega);obtain⟨w3,r3,m3,g3⟩:=m2.put (by decide) (k:=3) (by decide) (.func (.func 80) #[.pointer (AI ⟨g,0,be⟩)] #[]);have rI:=Ir iU g3.size;have k3:=(g3.block _ (by omega) (by simp)).trans k2;have bU:=aI.grown g3 (by omega) (λq hq=>by cases hq;omega);obtain⟨w4,r4,m4,g4⟩:=m3.put (by decide) (k:=4) (by decide) (.func (.func 81) #[.pointer (AI ⟨g,0,be⟩)] #[]);have D8:=Ir rI g4.size;have k4:=(g4.block _ (by omega) (by simp)).trans k3;have eP:=bU.grown g4 (by omega) (λq hq=>by cases hq;omega);obtain⟨w5,r5,m5,g5⟩:=m4.put (by decide) (k:=5) (by decide) (.func (.func 82) #[.pointer (AI ⟨g,0,be⟩)] #[]);have HU:=Ir D8 g5.size;have k5:=(g5.block _ (by omega) (by simp)).trans k4;have jz:=eP.grown g5 (by omega) (λq hq=>by cases hq;omega);obtain⟨w6,r6,m6,g6⟩:=m5.put (by decide) (k:=6) (by decide) (.func (.func 83) #[] #[.pointer (AI ⟨w.heap.size,0,be⟩)]);have XY:=Ir HU g6.size;have k6:=(g6.block _ (by omega) (by simp)).trans k5;have rK:=jz.grown g6 (by omega) (λq hq=>by cases hq;omega);obtain⟨w7,r7,m7,g7⟩:=m6.put (by decide) (k:=7) (by decide) (.func (.func 86) #[] #[.pointer (AI ⟨w.heap.size,0,be⟩)]);have PE:=Ir XY g7.size;have k7:=(g7.block _ (by omega) (by simp)).trans k6;have Gk:=rK.grown g7 (by omega) (λq hq=>by cases hq;omega);obtain⟨w8,r8,m8,g8⟩:=m7.put (by decide) (k:=8) (by decide) (.func (.func 88) #[] #[.pointer (AI ⟨w.heap.size,0,be⟩)]);have We:=Ir PE g8.size;have k8:=(g8.block _ (by omega) (by simp)).trans k7;have XZ:=Gk.grown g8 (by omega) (λq hq=>by cases hq;omega);obtain⟨w9,r9,m9,g9⟩:=m8.put (by decide) (k:=9) (by decide) (.func (.func 90) #[] #[.pointer (AI ⟨w.heap.size,0,be⟩)]);have WQ:=Ir We g9.size;have k9:=(g9.block _ (by omega) (by simp)).trans k8;have yX:=XZ.grown g9 (by omega) (λq hq=>by cases hq;omega);obtain⟨w10,r10,m10,g10⟩:=m9.put (by decide) (k:=10) (by decide) (.func (.func 92) #[] #[.pointer (AI ⟨w.heap.size,0,be⟩)]);have X0:=Ir WQ g10.size;have k10:=(g10.block _ (by omega) (by simp)).trans k9;have X6:=yX.grown g10 (by omega) (λq hq=>by cases hq;omega);obtain⟨w11,r11,m11,g11⟩:=m10.put (by decide) (k:=11) (by decide) (.func (.func 94) #[] #[.pointer (AI ⟨w.heap.size,0,be⟩)]);have X7:=Ir X0 g11.size;have k11:=(g11.block _ (by omega) (by simp)).trans k10;have X8:=X6.grown g11 (by omega) (λq hq=>by cases hq;omega);obtain⟨w12,r12,m12,g12⟩:=m11.put (by decide) (k:=12) (by decide) (.func (.func 96) #[] #[.pointer (AI ⟨w.heap.size,0,be⟩)]);have afk:=Ir X7 g12.size;have k12:=(g12.block _ (by omega) (by simp)).trans k11;have X9:=X8.grown g12 (by omega) (λq hq=>by cases hq;omega);have gO:Hid (xN w12 (w.heap.size+1) 12 (tV g w.heap.size)/\w12.heap[w.heap.size]?=AI (.cells #[.pointer (AI ⟨g,0,be⟩)] 70 (0,0))/\Below w.heap.size w w12):=⟨m12,k12,X9⟩;have c0:=ae k0 0;have c1:=ae k1 0;have c2:=ae k2 0;have c3:=ae k3 0;have c4:=ae k4 0;clear m0 k0 bM eE m1 k1 aB fh m2 k2 aI iU m3 k3 bU rI m4 k4 eP D8 m5 k5 jz HU m6 k6 rK XY m7 k7 Gk PE m8 k8 XZ We m9 k9 yX WQ m10 k10 X6 X0 m11 k11 X8 X7 m12 k12 X9 afk g1 g2 g3 g4 g5 g6 g7 g8 g9 g10 g11 g12;have Ml := @run_makeMap AS;subst bA;go_enter Tryz.func51,Tryz.ntmps51;go_wp2_with fail;go_ret;exact⟨rfl,gO.out⟩
theorem Fy(g:Nat)(k:Int)(w:World)(hw:(Lit.int .i64 k).wf=true)(hf:ui (tV g w.heap.size) k=be)(hg:w.cell? ⟨g,2,be⟩=AI (.int .i64 k)) :
 Calls AS 33 #[.pointer (AI ⟨g,0,be⟩)] w λe w'=>e=.returned (.int .i64 7)/\Below w.heap.size w w':=by
 have di:=Iy w _ hg;have HH:Hid (Calls AS 51 #[.pointer (AI ⟨g,0,be⟩)] w.drew λe w1=>∃mb,e=.returned (.map (AI mb))/\(OW 104 (.map (AI mb)) (.int .i64 k) true).run AS w1=.ok (.tuple #[.nilFunc,.bool false]) w1/\w1.cell? ⟨g,2,be⟩=AI (.int .i64 k)/\Hid (Below w.heap.size w w1)):=by
  refine(jU g w.drew).mono ?_;rintro e w1 ⟨rfl,hm,hp,hb⟩;have aB:=(Ib _ _).drew.trans hb;have hl:=hm.look hw;rw[show ui (tV g w.drew.heap.size) k=be from hf] at hl;exact⟨_,rfl,hl,(aB.cell (p:=⟨g,2,be⟩) di).trans hg,aB⟩
 have rG:Hid (w.heap.size<w.heap.size+1):=Nat.lt_succ_self _;clear di hf hw;go_enter Tryz.func33,Tryz.ntmps33;go_wp2_with fail;go_region_held3 (λw'=>w'.cell? ⟨g,2,be⟩=AI (.int .i64 k)) (go_keep) (first|(go_at_call 51;refine HH.out.mono ?_;rintro e w1 ⟨mb,rfl,Av,hS,aY⟩)|fail)
 go_wp2_with fail;go_ret;exact⟨rfl,aY.out⟩
theorem Fz(kf:Nat)(fs cs:Array Value)(g:Nat)(k:Int)(w:World)(hw:(Lit.int .i64 k).wf=true)(hf:ui (tV g w.heap.size) k=AI (.func (.func kf) fs cs))(hg:w.cell? ⟨g,2,be⟩=AI (.int .i64 k))(hT:∀W,Below w.heap.size w W->Calls AS 52 #[.pointer (AI ⟨g,0,be⟩)] W λe w'=>e=.returned (.bool false)/\Below W.heap.size W w') :
 Calls AS 33 #[.pointer (AI ⟨g,0,be⟩)] w λe w'=>e=.returned (.int .i64 5)/\Below w.heap.size w w':=by
 have di:=Iy w _ hg;have HH:Hid (Calls AS 51 #[.pointer (AI ⟨g,0,be⟩)] w.drew λe w1=>∃mb,e=.returned (.map (AI mb))/\(OW 104 (.map (AI mb)) (.int .i64 k) true).run AS w1=.ok (.tuple #[.func (.func kf) fs cs,.bool true]) w1/\w1.cell? ⟨g,2,be⟩=AI (.int .i64 k)/\Hid (Below w.heap.size w w1)):=by
  refine(jU g w.drew).mono ?_;rintro e w1 ⟨rfl,hm,hp,hb⟩;have aB:=(Ib _ _).drew.trans hb;have hl:=hm.look hw;rw[show ui (tV g w.drew.heap.size) k=AI (.func (.func kf) fs cs) from hf] at hl;exact⟨_,rfl,hl,(aB.cell (p:=⟨g,2,be⟩) di).trans hg,aB⟩
 have rG:Hid (w.heap.size<w.heap.size+1):=Nat.lt_succ_self _;have HT:Hid _:=hT;clear hT di hf hw;go_enter Tryz.func33,Tryz.ntmps33;go_wp2_with fail;go_region_held3 (λw'=>w'.cell? ⟨g,2,be⟩=AI (.int .i64 k)) (go_keep) (first|(go_at_call 51;refine HH.out.mono ?_;rintro e w1 ⟨mb,rfl,Av,hS,aY⟩)|fail)
 go_wp2_with fail;refine(HT.out _ aY.out).mono ?_;rintro e w2 ⟨rfl,aI⟩;have bp:Hid _:=aY.out.trans (aI.mono aY.out.size);clear aI Av hS aY HT HH;go_wp2_with fail;go_ret;exact⟨rfl,bp.out⟩
theorem xO(c:Int)(hc:c=3\/c=4\/c=5)(g m:Nat)(a:Option Addr)(cap:Nat)(x:Int)(w:World)(h1:w.cell? ⟨g,1,be⟩=AI (.slice a m cap))(h2:w.cell? ⟨g,2,be⟩=AI (.int .i64 c))(h3:w.cell? ⟨g,3,be⟩=AI (.int .i64 x))(hm:m<=20) :
 Calls AS 52 #[.pointer (AI ⟨g,0,be⟩)] w λe w'=>e=.returned (.bool (within x 0 ((m:Int)-1)))/\Below w.heap.size w w':=by
 have hz:IntKind.i64.wrap ((m:Int)-1)=(m:Int)-1:=by rw[IntKind.wrap_i64];omega
 have HWI:Hid (∀W:World,Calls _ _ _ _ _):=λW=>cf x 0 ((m:Int)-1) W;generalize within x 0 ((m:Int)-1)=b at *;rcases hc with rfl|rfl|rfl;all_goals
  go_enter Tryz.func52,Tryz.ntmps52;go_wp2_with fail;have F1:=Ig h1;have F3:=Ig h3;have C0:∀d os,Calls AS 54 #[.int .i64 x,.int .i64 0,.int .i64 ((m:Int)-1)] (Go.Sort.grow (redrawn w d) os) λe fD=>e=.returned (.bool b)/\∃p:Regrown,fD=Go.Sort.grow (redrawn w p.d) p.os:=λd os=>Calls.regrown_of ((HWI.out _).mono (λe w' h=>⟨h.1,by rw[h.2];exact Ib _ _⟩));refine wp_region_quiet_below (by kernel_rfl) (by kernel_rfl) ?_;repeat(quiet_step (exact C0 _ _))
  refine bE λdq gT dR=>?_;clear C0 F1 F3;go_wp2_with fail;go_ret;exact⟨rfl,dR.out⟩
theorem Tt(c:Int)(hc:c=6\/c=7\/c=8\/c=10\/c=11\/c=12)(g n:Nat)(a:Option Addr)(cap:Nat)(x:Int)(w:World)(h0:w.cell? ⟨g,0,be⟩=AI (.slice a n cap))(h2:w.cell? ⟨g,2,be⟩=AI (.int .i64 c))(h3:w.cell? ⟨g,3,be⟩=AI (.int .i64 x))(hn:n<=6) :
 Calls AS 52 #[.pointer (AI ⟨g,0,be⟩)] w λe w'=>e=.returned (.bool (within x 0 ((n:Int)-1)))/\Below w.heap.size w w':=by
 have H1:=λ(_:Unit)=>lP g n a cap x w h0 hn;generalize within x 0 ((n:Int)-1)=b at *;have H1:Hid _:=H1;clear hn;rcases hc with rfl|rfl|rfl|rfl|rfl|rfl;all_goals
  go_enter Tryz.func52,Tryz.ntmps52;go_wp2_with fail;refine(H1.out ()).mono ?_;rintro e w1 ⟨rfl,aB⟩;have aY:Hid _:=aB;clear aB;go_wp2_with fail;go_ret;exact⟨rfl,aY.out⟩
theorem xP(c:Int)(hc:c=1\/c=2\/c=9)(g n:Nat)(a:Option Addr)(cap:Nat)(x y:Int)(w:World)(h0:w.cell? ⟨g,0,be⟩=AI (.slice a n cap))(h2:w.cell? ⟨g,2,be⟩=AI (.int .i64 c))(h3:w.cell? ⟨g,3,be⟩=AI (.int .i64 x))(h4:w.cell? ⟨g,4,be⟩=AI (.int .i64 y))(hn:n<=6) :
 Calls AS 52 #[.pointer (AI ⟨g,0,be⟩)] w λe w'=>e=.returned (.bool (within x 0 ((n:Int)-1)&&within y 0 ((n:Int)-1)))/\Below w.heap.size w w':=by
 have di:=Iy w _ h0;have H1:=λ(_:Unit)=>lP g n a cap x w h0 hn;have H2:=λ(W:World) (hW:Below w.heap.size w W)=>lP g n a cap y W ((hW.cell (p:=⟨g,0,be⟩) di).trans h0) hn;have HG:Hid (∀W,Below w.heap.size w W->W.cell? ⟨g,4,be⟩=AI (.int .i64 y)):=λW hW=>(hW.cell (p:=⟨g,4,be⟩) di).trans h4;generalize within x 0 ((n:Int)-1)=b1 at *;generalize within y 0 ((n:Int)-1)=b2 at *;have H1:Hid _:=H1;have H2:Hid _:=H2;clear hn di;cases b1
 .rcases hc with rfl|rfl|rfl
  all_goals
   go_enter Tryz.func52,Tryz.ntmps52;go_wp2_with fail;refine(H1.out ()).mono ?_;rintro e w1 ⟨rfl,aB⟩;have aY:Hid _:=aB;clear aB;go_wp2_with fail;go_ret;exact⟨rfl,aY.out⟩
 .rcases hc with rfl|rfl|rfl
  all_goals
   go_enter Tryz.func52,Tryz.ntmps52;go_wp2_with fail;refine(H1.out ()).mono ?_;rintro e w1 ⟨rfl,aB⟩;have aY:Hid _:=aB;have g4:=HG.out w1 aB;clear aB;go_wp2_with fail;refine(H2.out w1 aY.out).mono ?_;rintro e w2 ⟨rfl,aI⟩;have bp:Hid _:=aY.out.trans (aI.mono aY.out.size);clear aI;go_wp2_with fail;go_ret;exact⟨rfl,bp.out⟩
theorem tW(kf:Nat)(fs cs:Array Value)(eg:∀args w,(callFunc kf args).run AS w=.ok (.enter kf args) w)(g:Nat)(k:Int)(R:Int->World->Prop)(w:World)(hw:(Lit.int .i64 k).wf=true)(hf:ui (tV g w.heap.size) k=AI (.func (.func kf) fs cs))(hg:w.cell? ⟨g,2,be⟩=AI (.int .i64 k))(hT:∀W,Below w.heap.size w W->Calls AS 52 #[.pointer (AI ⟨g,0,be⟩)] W λe w'=>e=.returned (.bool true)/\Below W.heap.size W w')(hF:∀W,Below w.heap.size w W->W.heap[w.heap.size]?=AI (.cells #[.pointer (AI ⟨g,0,be⟩)] 70 (0,0))->Calls AS kf (fs++cs) W λe w'=>∃er,e=.returned (.int .i64 er)/\R er w') :
 Calls AS 33 #[.pointer (AI ⟨g,0,be⟩)] w λe w'=>∃er,e=.returned (.int .i64 er)/\R er w':=by
 have di:=Iy w _ hg;have HH:Hid (Calls AS 51 #[.pointer (AI ⟨g,0,be⟩)] w.drew λe w1=>∃mb,e=.returned (.map (AI mb))/\(OW 104 (.map (AI mb)) (.int .i64 k) true).run AS w1=.ok (.tuple #[.func (.func kf) fs cs,.bool true]) w1/\w1.cell? ⟨g,2,be⟩=AI (.int .i64 k)/\Hid (Below w.heap.size w w1/\w1.heap[w.heap.size]?=AI (.cells #[.pointer (AI ⟨g,0,be⟩)] 70 (0,0)))):=by
  refine(jU g w.drew).mono ?_;rintro e w1 ⟨rfl,hm,hp,hb⟩;have aB:=(Ib _ _).drew.trans hb;have hl:=hm.look hw;rw[show ui (tV g w.drew.heap.size) k=AI (.func (.func kf) fs cs) from hf] at hl;exact⟨_,rfl,hl,(aB.cell (p:=⟨g,2,be⟩) di).trans hg,aB,hp⟩
 have HT:Hid _:=hT;have HF:Hid _:=hF;have rG:Hid (w.heap.size<w.heap.size+1):=Nat.lt_succ_self _;clear hT hF di hf hw;go_enter Tryz.func33,Tryz.ntmps33;go_wp2_with fail;go_region_held3 (λw'=>w'.cell? ⟨g,2,be⟩=AI (.int .i64 k)) (go_keep) (first|(go_at_call 51;refine HH.out.mono ?_;rintro e w1 ⟨mb,rfl,Av,hS,aY⟩)|fail)
 go_wp2_with fail;refine(HT.out _ aY.out.1).mono ?_;rintro e w2 ⟨rfl,aI⟩;have rm:=(aI.block _ (BY.1 aY.out.2).1).trans aY.out.2;have HC:=HF.out w2 (aY.out.1.trans (aI.mono aY.out.1.size)) rm;clear aI rm Av hS aY HF HT HH;go_wp2_with fail;refine HC.mono ?_;rintro e w3 ⟨er,rfl,hr⟩;go_wp2_with fail;go_ret;exact⟨er,rfl,hr⟩
end Go.Proofs.YtfidhgjmifendaaGreatDoor
namespace Go.Proofs.YtfidhgjmifendaaGreatDoor
open Go.RowKit
def Ch(v:Ev):Array Value:=#[.int .i64 v.kind,.int .i64 v.which,.int .i64 v.other,.int .i64 v.n,.string v.name,.int .i64 v.p.x,.int .i64 v.p.y,.int .i64 v.p.z,.int .i64 v.p.h,.int .i64 v.p.s,.string v.s.node,.string v.s.bq,.string v.s.name,.string v.s.tag,.int .i64 v.s.addr,.int .i64 v.s.port,.bool v.s.aj,.int .i64 v.s.version,.bool v.s.gone]
def fJ(C:Nat)(w:World)(t:Nt)(un ul:Value):Prop:=∃nb L,un=.slice (AI ⟨nb,0,be⟩) L.length L.length/\L.map (·.n)=t.ns/\cG C w nb L/\Lt.Own C w ul t.ls
theorem cG.afl{C nb:Nat}{w:World}{L:List Nx}(h:cG C w nb L):uX w nb 0 (L.map (·.n)):=λj hj=>by
 have Fm:j<L.length:=by simpa using hj
 have hn:(L.getD j bW).n=(L.map (·.n)).getD j ek:=by
  rw[Iq,Iq,List.getElem?_map,Ie Fm];rfl
 have ho:=h.own _ (gl Fm);have hk:=h.ok _ (gl Fm);have hg:=λi hi=>h.cell Fm i hi;rw[<- hn];exact⟨_,_,_,_,_,ho.is hk,λi hi=>by rw[hg i hi,Nx.cs,Array.getElem?_toList]⟩
theorem fJ.is{C:Nat}{w:World}{t:Nt}{un ul:Value}(h:fJ C w t un ul)(hk:∀l∈t.ls,l.ok):fU w t un ul:=by
 obtain⟨nb,L,rfl,hm,hN,hl⟩:=h;have hr:=hN.afl;rw[hm] at hr;refine⟨⟨AI ⟨nb,0,be⟩,L.length,by rw[<- hm,Oa],.inr ⟨nb,0,rfl,(BY.1 hN.row).1,hr⟩⟩,Lt.bF hl hk⟩
theorem cG.fa{C nb:Nat}{w w':World}{L:List Nx}(h:cG C w nb L)(hk:∀b,C<=b->b<w.heap.size->w'.heap[b]?=w.heap[b]?):cG C w' nb L:=⟨h.le,(hk nb h.le (BY.1 h.row).1).trans h.row,λx hx=>(h.own x hx).fa hk,h.ok⟩
theorem cG.mono{A C nb:Nat}{w:World}{L:List Nx}(h:cG C w nb L)(hA:A<=C):cG A w nb L:=⟨Ir hA h.le,h.row,λx hx=>(h.own x hx).mono hA,h.ok⟩
theorem nN{P:Program}{a:Act}{o:Oper}{W:World}(ty:I4)(x:Operand)(ho:o.op=.load ty x)(g:Nat)(hx:a.eval x=.pointer (AI ⟨g,0,be⟩))(T:I4)(cs:Array Value)(fr:Nat×Nat)(d:TypeDesc)(hg:W.heap[g]?=AI (.cells cs T fr))(hu:P.underlying ty=AI d)(hd:(match d with | .struct _ | .array _ _=>true|_=>false)=true)(hi:(P.info? ty).map (·.size)=AI cs.size):(execOp a.eval o).run P W=.ok (.value (.agg cs)) W:=by
 unfold execOp;simp only[ho,hx,Instr.loadAt,Instr.sureAddr,Sem.run_bind,Sem.run_pure,Result.andThen_ok,run_loadVar_row W g T ty cs fr d hg hu hd hi]
def tX(w:World)(t:Nt)(e:Ending)(w':World):Prop:=Below w.heap.size w w'/\∃a k c b l d,e=.returned (.tuple #[.agg #[.slice a k c,.slice b l d],.int .i64 0])/\fJ w.heap.size w' t (.slice a k c) (.slice b l d)
def iH(C:Nat)(w':World)(g nb:Nat)(L:List Nx)(v:Ev)(Q:Prop)(R:Nt->Prop)(er:Int):Prop:=(er≠0->Q)/\(er=0->∃t',R t'/\∃a k c L',L'.length=L.length/\L'.map (·.n)=t'.ns/\cG C w' nb L'/\ky C w' g (.slice (AI ⟨nb,0,be⟩) L.length L.length) (.slice a k c) t'.ls v)
theorem iH.of{C:Nat}{w':World}{g nb:Nat}{L:List Nx}{v:Ev}{R:Nt->Prop}{er:Int}(h:er=0->∃t',R t'/\∃a k c L',L'.length=L.length/\L'.map (·.n)=t'.ns/\cG C w' nb L'/\ky C w' g (.slice (AI ⟨nb,0,be⟩) L.length L.length) (.slice a k c) t'.ls v):iH C w' g nb L v True R er:=⟨λ_=>trivial,h⟩
def qQ(w:World)(Q:Prop)(R:Nt->Prop)(e:Ending)(w':World):Prop:=Below w.heap.size w w'/\((∃er,er≠0/\Q/\e=.returned (.tuple #[.agg #[.slice be 0 0,.slice be 0 0],.int .i64 er]))\/∃t' a k c b l d,R t'/\e=.returned (.tuple #[.agg #[.slice a k c,.slice b l d],.int .i64 0])/\fJ w.heap.size w' t' (.slice a k c) (.slice b l d))
theorem tY(t:Nt)(Q:Prop)(R:Nt->Prop)(vn vl:Value)(v:Ev)(w:World)(hV:Rv w.heap.size w)(h:fU w t vn vl)(hs:t.Di)(he:t.e=0)(hP:∀W C g nb ul L,Below w.heap.size w W->w.heap.size<=C->C<=W.heap.size->cG C W nb L->L.map (·.n)=t.ns->ky C W g (.slice (AI ⟨nb,0,be⟩) L.length L.length) ul t.ls v->Calls AS 33 #[.pointer (AI ⟨g,0,be⟩)] W λe w'=>∃er,e=.returned (.int .i64 er)/\Below C W w'/\Hid (iH C w' g nb L v Q R er)) :
 Calls AS 19 #[.agg #[vn,vl],.agg (Ch v)] w (qQ w Q R):=by
 have mr:Hid (∀W,Below w.heap.size w W->Calls AS 11 #[.agg #[vn,vl]] W λe w'=>e=.returned (.int .i64 0)/\Below W.heap.size W w'):=λW hW=>by
  have hc:=lQ t vn vl W (hV.after hW) (h.below hW) hs (Nt.Ws he);rw[he] at hc;exact hc
 have hz:=Nt.bc he;have aaa:=h.ns.ok;have EI:Hid (∀W,Below w.heap.size w W->Calls AS 32 #[.agg #[vn,vl]] W λe w'=>∃nb n a l c,e=.returned (.agg #[.slice (AI ⟨nb,0,be⟩) n n,.slice a l c])/\Below W.heap.size W w'/\Hid (∃L,n=L.length/\L.map (·.n)=t.ns/\cG W.heap.size w' nb L/\Lt.Own W.heap.size w' (.slice a l c) t.ls)):=λW hW=>by
  refine(tL t vn vl W (h.below hW) hz.1 hz.2.1 (λn hn=>Nd.P4 (hz.2.2.1 n hn))).mono ?_;rintro e w' ⟨un,a,l,c,L,rfl,ho,hb⟩;have Te:=ho.un;subst Te;have hLn:t.ns.length=L.length:=by rw[<- ho.ns,Oa]
  exact⟨_,_,_,_,_,rfl,hb,L,hLn,ho.ns,⟨by omega,ho.row,λx hx=>(ho.own x hx).mono (by omega),λx hx=>aaa _ (by rw[<- ho.ns];exact List.mem_map_of_mem hx)⟩,Lt.Own.mono ho.ls (by omega)⟩
 have HP:Hid _:=hP;obtain⟨⟨pn,cn,EJ,_⟩,⟨pl,cl,kY,_,_⟩⟩:=h;subst EJ kY;clear hP hV hs hz aaa he;generalize t.ns.length=n at *;generalize t.ls.length=m at *;obtain⟨k0,k1,k2,k3,nm,⟨p0,p1,p2,p3,p4⟩,⟨s0,s1,s2,s3,s4,s5,s6,s7,s8⟩⟩:=v;simp only[Ch];obtain⟨W0,bA⟩:∃W0,W0=((w.alloc (.cells #[.slice pn n cn,.slice pl m cl] 27)).alloc (.cells #[.int .i64 k0,.int .i64 k1,.int .i64 k2,.int .i64 k3,.string nm,.int .i64 p0,.int .i64 p1,.int .i64 p2,.int .i64 p3,.int .i64 p4,.string s0,.string s1,.string s2,.string s3,.int .i64 s4,.int .i64 s5,.bool s6,.int .i64 s7,.bool s8] 59)).alloc (.cells #[.slice be 0 0,.slice be 0 0] 27):=⟨_,rfl⟩;have bM:Below w.heap.size w W0:=by rw[bA];exact(((Ib _ _).alloc (Ic _) _).alloc (by simp) _).alloc (by simp;omega) _
 have eE:W0.heap.size=w.heap.size+3:=by rw[bA];simp
 have yM:W0.heap[w.heap.size]?=AI (.cells #[.slice pn n cn,.slice pl m cl] 27 (0,0)):=by rw[bA];exact((Ob _ _ _ (by simp;omega)).trans (Ob _ _ _ (by simp))).trans (Ii w _)
 have P0:W0.heap[w.heap.size+1]?=AI (.cells #[.int .i64 k0,.int .i64 k1,.int .i64 k2,.int .i64 k3,.string nm,.int .i64 p0,.int .i64 p1,.int .i64 p2,.int .i64 p3,.int .i64 p4,.string s0,.string s1,.string s2,.string s3,.int .i64 s4,.int .i64 s5,.bool s6,.int .i64 s7,.bool s8] 59 (0,0)):=by
  rw[bA];have:=Ii (w.alloc (.cells #[.slice pn n cn,.slice pl m cl] 27)) (.cells #[.int .i64 k0,.int .i64 k1,.int .i64 k2,.int .i64 k3,.string nm,.int .i64 p0,.int .i64 p1,.int .i64 p2,.int .i64 p3,.int .i64 p4,.string s0,.string s1,.string s2,.string s3,.int .i64 s4,.int .i64 s5,.bool s6,.int .i64 s7,.bool s8] 59);refine(Ob _ _ _ (by simp)).trans ?_;simpa using this
 have hr0:W0.heap[w.heap.size+2]?=AI (.cells #[.slice be 0 0,.slice be 0 0] 27 (0,0)):=by
  rw[bA];have:=Ii ((w.alloc (.cells #[.slice pn n cn,.slice pl m cl] 27)).alloc (.cells #[.int .i64 k0,.int .i64 k1,.int .i64 k2,.int .i64 k3,.string nm,.int .i64 p0,.int .i64 p1,.int .i64 p2,.int .i64 p3,.int .i64 p4,.string s0,.string s1,.string s2,.string s3,.int .i64 s4,.int .i64 s5,.bool s6,.int .i64 s7,.bool s8] 59)) (.cells #[.slice be 0 0,.slice be 0 0] 27);simpa using this
 have cY:Hid _:=bM;have HX:Hid (∀W,Below W0.heap.size W0 W->W.heap[w.heap.size]?=AI (.cells #[.slice pn n cn,.slice pl m cl] 27 (0,0))/\W.heap[w.heap.size+1]?=AI (.cells #[.int .i64 k0,.int .i64 k1,.int .i64 k2,.int .i64 k3,.string nm,.int .i64 p0,.int .i64 p1,.int .i64 p2,.int .i64 p3,.int .i64 p4,.string s0,.string s1,.string s2,.string s3,.int .i64 s4,.int .i64 s5,.bool s6,.int .i64 s7,.bool s8] 59 (0,0))/\W.heap[w.heap.size+2]?=AI (.cells #[.slice be 0 0,.slice be 0 0] 27 (0,0))):=λW hW=>⟨(hW.block _ (by omega)).trans yM,(hW.block _ (by omega)).trans P0,(hW.block _ (by omega)).trans hr0⟩;have Kj:Hid (∀W:World,W.heap[w.heap.size]?=AI (.cells #[.slice pn n cn,.slice pl m cl] 27 (0,0))->W.heap[w.heap.size+1]?=AI (.cells #[.int .i64 k0,.int .i64 k1,.int .i64 k2,.int .i64 k3,.string nm,.int .i64 p0,.int .i64 p1,.int .i64 p2,.int .i64 p3,.int .i64 p4,.string s0,.string s1,.string s2,.string s3,.int .i64 s4,.int .i64 s5,.bool s6,.int .i64 s7,.bool s8] 59 (0,0))->W.cell? ⟨w.heap.size,0,be⟩=AI (.slice pn n cn)/\W.cell? ⟨w.heap.size,1,be⟩=AI (.slice pl m cl)/\W.cell? ⟨w.heap.size+1,0,be⟩=AI (.int .i64 k0)/\W.cell? ⟨w.heap.size+1,1,be⟩=AI (.int .i64 k1)/\W.cell? ⟨w.heap.size+1,2,be⟩=AI (.int .i64 k2)/\W.cell? ⟨w.heap.size+1,3,be⟩=AI (.int .i64 k3)/\W.cell? ⟨w.heap.size+1,4,be⟩=AI (.string nm)/\W.cell? ⟨w.heap.size+1,5,be⟩=AI (.int .i64 p0)/\W.cell? ⟨w.heap.size+1,6,be⟩=AI (.int .i64 p1)/\W.cell? ⟨w.heap.size+1,7,be⟩=AI (.int .i64 p2)/\W.cell? ⟨w.heap.size+1,8,be⟩=AI (.int .i64 p3)/\W.cell? ⟨w.heap.size+1,9,be⟩=AI (.int .i64 p4)/\W.cell? ⟨w.heap.size+1,10,be⟩=AI (.string s0)/\W.cell? ⟨w.heap.size+1,11,be⟩=AI (.string s1)/\W.cell? ⟨w.heap.size+1,12,be⟩=AI (.string s2)/\W.cell? ⟨w.heap.size+1,13,be⟩=AI (.string s3)/\W.cell? ⟨w.heap.size+1,14,be⟩=AI (.int .i64 s4)/\W.cell? ⟨w.heap.size+1,15,be⟩=AI (.int .i64 s5)/\W.cell? ⟨w.heap.size+1,16,be⟩=AI (.bool s6)/\W.cell? ⟨w.heap.size+1,17,be⟩=AI (.int .i64 s7)/\W.cell? ⟨w.heap.size+1,18,be⟩=AI (.bool s8)):=λW h1 h2=>⟨ae h1 0,ae h1 1,ae h2 0,ae h2 1,ae h2 2,ae h2 3,ae h2 4,ae h2 5,ae h2 6,ae h2 7,ae h2 8,ae h2 9,ae h2 10,ae h2 11,ae h2 12,ae h2 13,ae h2 14,ae h2 15,ae h2 16,ae h2 17,ae h2 18⟩;have n0:=ae yM 0;have n1:=ae yM 1;have rG:Hid _:=eE;clear bM eE yM P0 hr0;go_enter Tryz.func19,Tryz.ntmps19;go_upto_region 1 with fail
 rw[<- bA];clear bA;go_wp2_with fail;refine(mr.out W0 cY.out).mono ?_;rintro e w1 ⟨rfl,aB⟩;have Ci:Hid _:=aB;have aY:Hid _:=cY.out.trans (aB.mono cY.out.size);clear aB n0 n1 mr;go_wp2_with fail;refine wp_region_held_drew (S:=λW=>W.heap[w.heap.size]?=AI (.cells #[.slice pn n cn,.slice pl m cl] 27 (0,0))/\W.heap[w.heap.size+1]?=AI (.cells #[.int .i64 k0,.int .i64 k1,.int .i64 k2,.int .i64 k3,.string nm,.int .i64 p0,.int .i64 p1,.int .i64 p2,.int .i64 p3,.int .i64 p4,.string s0,.string s1,.string s2,.string s3,.int .i64 s4,.int .i64 s5,.bool s6,.int .i64 s7,.bool s8] 59 (0,0))) (by kernel_rfl) ⟨(HX.out w1 Ci.out).1,(HX.out w1 Ci.out).2.1⟩ (λbP=>?_);refine wpAnyH_take (i:=0) (v:=.agg #[.slice pn n cn,.slice pl m cl]) rfl (by kernel_rfl) (by kernel_rfl) (by kernel_rfl) (λ_ _ _ h=>h) (Or.inl ⟨by rfl,?hy⟩) (by assumption) ?_
 case hy=>
  intro W LS;have i0:=ae LS.1 0;have i1:=ae LS.1 1;clear LS bP;go_simp;try with_reducible rfl
 refine bY 2 (v:=.agg #[.int .i64 k0,.int .i64 k1,.int .i64 k2,.int .i64 k3,.string nm,.int .i64 p0,.int .i64 p1,.int .i64 p2,.int .i64 p3,.int .i64 p4,.string s0,.string s1,.string s2,.string s3,.int .i64 s4,.int .i64 s5,.bool s6,.int .i64 s7,.bool s8]) ?_ (hy:=Or.inl ⟨by rfl,λW LS=>nN 59 (.tmp 3) rfl (w.heap.size+1) rfl 59 #[.int .i64 k0,.int .i64 k1,.int .i64 k2,.int .i64 k3,.string nm,.int .i64 p0,.int .i64 p1,.int .i64 p2,.int .i64 p3,.int .i64 p4,.string s0,.string s1,.string s2,.string s3,.int .i64 s4,.int .i64 s5,.bool s6,.int .i64 s7,.bool s8] (0,0) _ LS.2 Tryz.underlying59 rfl (by kernel_rfl)⟩);refine cd 1 (λK hK=>?_);have HK:Hid _:=hK;clear hK;go_simp;refine Calls.mono (EI.out _ (cA aY.out)) ?_;rintro e w2 ⟨nb,nn,a,l,c,rfl,aI,T9⟩;have vd:Hid _:=(cA Ci.out).trans (aI.mono Ci.out.size);clear aI;refine HK.out _ _ ⟨(HX.out w2 vd.out).1,(HX.out w2 vd.out).2.1⟩ (λbP=>?_);clear HK K;refine bY 3 (v:=.agg #[.slice (AI ⟨nb,0,be⟩) nn nn,.slice a l c,.int .i64 k0,.int .i64 k1,.int .i64 k2,.int .i64 k3,.string nm,.int .i64 p0,.int .i64 p1,.int .i64 p2,.int .i64 p3,.int .i64 p4,.string s0,.string s1,.string s2,.string s3,.int .i64 s4,.int .i64 s5,.bool s6,.int .i64 s7,.bool s8]) ?_;refine cd 4 (λK hK=>?_);have HK:Hid _:=hK;clear hK;go_simp;refine HK.out _ _ ⟨((Ib w2.heap.size w2).alloc (Ic _) _).block _ (BY.1 (HX.out w2 vd.out).1).1 |>.trans (HX.out w2 vd.out).1,((Ib w2.heap.size w2).alloc (Ic _) _).block _ (BY.1 (HX.out w2 vd.out).2.1).1 |>.trans (HX.out w2 vd.out).2.1⟩ (λbP=>?_);clear HK K;refine bY 5 (v:=.pointer (AI ⟨w2.heap.size,0,be⟩)) ?_;refine wpAnyH_done (by kernel_rfl) ?_ _;clear bP;go_wp2_with fail;obtain⟨L,hnn,pV,hN,hL⟩:=T9.out;subst hnn;obtain⟨W3,ep⟩:∃W3,W3=w2.alloc (.cells #[.slice (AI ⟨nb,0,be⟩) L.length L.length,.slice a l c,.int .i64 k0,.int .i64 k1,.int .i64 k2,.int .i64 k3,.string nm,.int .i64 p0,.int .i64 p1,.int .i64 p2,.int .i64 p3,.int .i64 p4,.string s0,.string s1,.string s2,.string s3,.int .i64 s4,.int .i64 s5,.bool s6,.int .i64 s7,.bool s8] 72):=⟨_,rfl⟩;have bU:Below w2.heap.size w2 W3:=by rw[ep];exact(Ib _ _).alloc (Ic _) _
 have Hc:=Ci.out.size;have hC3:=vd.out.size;have Cj:Hid _:=vd.out.trans (bU.mono hC3);have lh:W3.heap[w2.heap.size]?=AI (.cells #[.slice (AI ⟨nb,0,be⟩) L.length L.length,.slice a l c,.int .i64 k0,.int .i64 k1,.int .i64 k2,.int .i64 k3,.string nm,.int .i64 p0,.int .i64 p1,.int .i64 p2,.int .i64 p3,.int .i64 p4,.string s0,.string s1,.string s2,.string s3,.int .i64 s4,.int .i64 s5,.bool s6,.int .i64 s7,.bool s8] 72 (0,0)):=by rw[ep];exact Ii w2 _
 have TQ:=HP.out W3 W0.heap.size w2.heap.size nb (.slice a l c) L (cY.out.trans (Cj.out.mono cY.out.size)) cY.out.size Cj.out.size ((hN.below bU (by have:=hN.le;have:=(BY.1 hN.row).1;omega)).mono Hc) pV ⟨lh,hC3,(Lt.Own.mono hL Hc).below bU⟩;clear bU lh hN hL pV T9 HP Hc;rw[<- ep];clear ep;refine TQ.mono ?_;rintro e w4 ⟨er,rfl,eP,HPI⟩;have FA:=(eP.block _ (by have:=rG.out;omega)).trans (HX.out W3 Cj.out).2.2;have g0:=ae FA 0;have g1:=ae FA 1;have f0:w4.frozen? ⟨w.heap.size+2,0,be⟩=false:=an FA 0;have f1:w4.frozen? ⟨w.heap.size+2,1,be⟩=false:=an FA 1;by_cases aT:er=0
 .subst aT
  obtain⟨t4,hR4,a4,k4,c4,L4,Rt,Ru,hN4,hP4⟩:=HPI.out.2 rfl;clear g0 g1 f0 f1;have x0:w4.cell? ⟨w2.heap.size,0,be⟩=AI (.slice (AI ⟨nb,0,be⟩) L.length L.length):=ae hP4.hg 0;have x1:w4.cell? ⟨w2.heap.size,1,be⟩=AI (.slice a4 k4 c4):=ae hP4.hg 1;obtain⟨W5,iV⟩:∃W5,W5=aD (w.heap.size+2) [.slice (AI ⟨nb,0,be⟩) L.length L.length,.slice a4 k4 c4] 0 w4:=⟨_,rfl⟩;have Ft:W5.heap[w.heap.size+2]?=AI (.cells #[.slice (AI ⟨nb,0,be⟩) L.length L.length,.slice a4 k4 c4] 27 (0,0)):=by rw[iV];exact bD [.slice (AI ⟨nb,0,be⟩) L.length L.length,.slice a4 k4 c4] [] [.slice be 0 0,.slice be 0 0] FA rfl
  have et:∀q,q≠w.heap.size+2->W5.heap[q]?=w4.heap[q]?:=λq hq=>by rw[iV];exact aV hq _ _ _
  have rZ:∀b,W0.heap.size<=b->b<w4.heap.size->W5.heap[b]?=w4.heap[b]?:=λb hb _=>et b (by have:=rG.out;omega);have gO:Hid (qQ w Q R (.returned (.tuple #[.agg #[.slice (AI ⟨nb,0,be⟩) L.length L.length,.slice a4 k4 c4],.int .i64 0])) W5):=by
   refine⟨by rw[iV];exact aP (by omega) _ _ ((cY.out.trans (Cj.out.mono cY.out.size)).trans (eP.mono cY.out.size)),.inr ⟨t4,_,_,_,_,_,_,hR4,rfl,nb,L4,by rw[Rt],Ru,(hN4.fa rZ).mono cY.out.size,Lt.Own.mono (ee rZ hP4.ls) cY.out.size⟩⟩
  have g0:w4.cell? ⟨w.heap.size+2,0,be⟩=AI (.slice be 0 0):=ae FA 0;have g1:w4.cell? ⟨w.heap.size+2,1,be⟩=AI (.slice be 0 0):=ae FA 1;have f0:=an FA 0;have f1:=an FA 1;have q0:=ae Ft 0;have q1:=ae Ft 1;clear FA Ft et rZ hP4 hN4 Ru hR4 eP Rt HPI TQ HX Kj Cj vd Ci aY cY rG hC3 EI;generalize L.length=nl at *;go_wp2_with fail;simp only[aD,ID] at iV;rw[<- iV];clear iV g0 g1 f0 f1 x0 x1;exact IL (v:=.tuple #[.agg #[.slice (AI ⟨nb,0,be⟩) nl nl,.slice a4 k4 c4],.int .i64 0]) (by simp[results,Tryz.results19,go_sem,q0,q1]) rfl gO.out
 .have hd:(er==0)=false:=by simpa using aT
  have hd2:(er !=0)=true:=by simpa using aT
  obtain⟨W5,iV⟩:∃W5,W5=aD (w.heap.size+2) [.slice be 0 0,.slice be 0 0] 0 w4:=⟨_,rfl⟩;have Ft:W5.heap[w.heap.size+2]?=AI (.cells #[.slice be 0 0,.slice be 0 0] 27 (0,0)):=by rw[iV];exact bD [.slice be 0 0,.slice be 0 0] [] [.slice be 0 0,.slice be 0 0] FA rfl
  have gO:Hid (qQ w Q R (.returned (.tuple #[.agg #[.slice be 0 0,.slice be 0 0],.int .i64 er])) W5):=by
   exact⟨by rw[iV];exact aP (by omega) _ _ ((cY.out.trans (Cj.out.mono cY.out.size)).trans (eP.mono cY.out.size)),.inl ⟨er,aT,HPI.out.1 aT,rfl⟩⟩
  have q0:=ae Ft 0;have q1:=ae Ft 1;clear FA Ft eP TQ HX Kj Cj vd Ci aY cY rG hC3 EI HPI aT;generalize L.length=nl at *;go_wp2_with fail;simp only[aD,ID] at iV;rw[<- iV];clear iV g0 g1 f0 f1;exact IL (v:=.tuple #[.agg #[.slice be 0 0,.slice be 0 0],.int .i64 er]) (by simp[results,Tryz.results19,go_sem,q0,q1]) rfl gO.out
end Go.Proofs.YtfidhgjmifendaaGreatDoor
