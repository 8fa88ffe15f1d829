import Derived.Test.YtffdoiokmiklgaaGreatDoorX39
import Derived.Test.YtffdoiokmiklgaaGreatDoorX35
import Derived.Test.YtffdoiokmiklgaaGreatDoorX29
import Derived.Test.YtffdoiokmiklgaaGreatDoorX36
import Derived.Test.YtffdoiokmiklgaaGreatDoorX37
import Derived.Test.YtffdoiokmiklgaaGreatDoorX27
import Derived.Lib.QuietBelow
import Derived.Test.YtffdoiokmiklgaaGreatDoorX38
namespace Go.Proofs.YtffdoiokmiklgaaGreatDoor
open Go.RowKit
theorem PkOwn.isW {base:Nat} {w:World} {p:Pk} {vm vs vg vw:Value} (h:PkOwn base w p vm vs vg vw) (hk:p.Wok):PkIs w p vm vs vg vw:=
 ⟨own_names h.ms (fun m hm=>by have:=(hk.ms.2 m hm).1;unfold maxLen;omega),Sv.own_names h.sv (fun m hm=>by obtain ⟨h1,h2,h3,h4,_⟩:=hk.sv.2 m hm;refine ⟨?_,?_,?_,?_⟩<;>(unfold maxLen;omega)),Gw.own_names h.gw (fun m hm=>by have:=(hk.gw.2 m hm).1;show _≤_;unfold maxLen;omega),Wh.own_names h.wh (fun m hm=>by have:=(hk.wh.2 m hm).1;show _≤_;unfold maxLen;omega),by have:=hk.frm;unfold maxLen;omega,roomy_own h.ms⟩
theorem nfl_cut (L:List Nx) (k:Nat) (hk:k < L.length):nfl L=nfl (L.take k)++(L.getD k nx0).cs++nfl (L.drop (k+1)):=by
 have h:L=L.take k++([L.getD k nx0]++L.drop (k+1)):=by
  rw [List.getD,List.getElem?_eq_getElem hk,Option.getD_some,List.singleton_append,List.getElem_cons_drop,List.take_append_drop]
 have h2:=congrArg nfl h
 rw [nfl_app,nfl_app,nfl_one,← List.append_assoc] at h2
 exact h2
theorem nfl_set (L:List Nx) (k:Nat) (hk:k < L.length) (y:Nx):nfl (L.set k y)=nfl (L.take k)++y.cs++nfl (L.drop (k+1)):=by
 rw [List.set_eq_take_append_cons_drop,if_pos hk,show L.take k++y :: L.drop (k+1)=L.take k++([y]++L.drop (k+1)) from rfl,nfl_app,nfl_app,nfl_one,List.append_assoc]
theorem NdOwn.row {B b:Nat} {w w':World} {n:Nd} {vm vr vs vg vw:Value} {cs:Array Value} (h:NdOwn B w n vm vr vs vg vw) (hb:w.heap[b]?=some (.cells cs 51 (0,0))) (hk:∀ q,q≠b→w'.heap[q]?=w.heap[q]?):NdOwn B w' n vm vr vs vg vw:=by
 have hq:∀ (q:Nat) (c:Array Value) (T:TypeId) (f:Nat × Nat),T≠51→w.heap[q]?=some (.cells c T f)→w'.heap[q]?=some (.cells c T f):=fun q c T f hT e=>(hk q (fun e2=>by subst e2;rw [hb] at e;simp at e;exact hT e.2.1.symm)).trans e
 exact ⟨row_ty h.ms (fun q c f e=>hq q c _ f (by decide) e),row_ty h.rs (fun q c f e=>hq q c _ f (by decide) e),row_ty h.sv (fun q c f e=>hq q c _ f (by decide) e),row_ty h.gw (fun q c f e=>hq q c _ f (by decide) e),row_ty h.wh (fun q c f e=>hq q c _ f (by decide) e)⟩
def IsNx (C:Nat) (n:Nd) (V:World) (xs:List Value):Prop:=∃ y:Nx,xs=y.cs∧y.n=n∧NdOwn C V y.n y.vm y.vr y.vs y.vg y.vw∧NdOk y.n
def IsPx (p:Pk) (V:World) (xs:List Value):Prop:=∃ vm vs vg vw,xs=[.string p.frm,.bool p.whole,vm,vs,vg,vw]∧PkIs V p vm vs vg vw
theorem NsOwn.turn {C nb k:Nat} {w V:World} {L:List Nx} {y:Nx} (h:NsOwn C w nb L) (hb:Below w.heap.size w V) (hC:C≤w.heap.size) (hk:k < L.length) (ho:NdOwn C V y.n y.vm y.vr y.vs y.vg y.vw) (hok:NdOk y.n):NsOwn C (World.drew (setAll nb y.cs (k * 12) V)) nb (L.set k y):=by
 have hv:=h.below hb hC
 have hoth:∀ q,q≠nb→(World.drew (setAll nb y.cs (k * 12) V)).heap[q]?=V.heap[q]?:=fun q hq=>by rw [drew_heap];exact setAll_other hq _ _ _
 refine ⟨h.le,?_,fun x hx=>?_,fun x hx=>?_⟩
 ·have hr:=hv.row
  rw [nfl_cut L k hk] at hr
  have h2:=setAll_mid (b:=nb) y.cs (nfl (L.take k)) (L.getD k nx0).cs (nfl (L.drop (k+1))) hr (by rw [ncs_len,ncs_len])
  rw [nfl_len,List.length_take,Nat.min_eq_left (by omega)] at h2
  rw [drew_heap,nfl_set L k hk]
  exact h2
 ·rcases List.mem_or_eq_of_mem_set hx with h1 | rfl
  ·exact (hv.own x h1).row hv.row hoth
  ·exact ho.row hv.row hoth
 ·rcases List.mem_or_eq_of_mem_set hx with h1 | rfl
  ·exact h.ok x h1
  ·exact hok
theorem Plr.row {C g nb:Nat} {w w':World} {un ul:Value} {ls:List Lt.Ltr} {v:Ev} {cs:Array Value} (h:Plr C w g un ul ls v) (hb:w.heap[nb]?=some (.cells cs 51 (0,0))) (hk:∀ q,q≠nb→w'.heap[q]?=w.heap[q]?):Plr C w' g un ul ls v:=by
 have hq:∀ (q:Nat) (c:Array Value) (T:TypeId) (f:Nat × Nat),T≠51→w.heap[q]?=some (.cells c T f)→w'.heap[q]?=some (.cells c T f):=fun q c T f hT e=>(hk q (fun e2=>by subst e2;rw [hb] at e;simp at e;exact hT e.2.1.symm)).trans e
 exact ⟨hq _ _ _ _ (by decide) h.hg,h.le,row_ty h.ls (fun q c f e=>hq q c _ f (by decide) e)⟩
set_option maxHeartbeats 6400000 in
set_option maxRecDepth 100000 in
theorem come_any (C g nb j k:Nat) (ul:Value) (ls:List Lt.Ltr) (v:Ev) (L:List Nx) (p:Pk) (w:World) (h:Plr C w g (.slice (some ⟨nb,0,none⟩) L.length L.length) ul ls v) (hN:NsOwn C w nb L) (hC:C≤w.heap.size) (h20:ls.length≤20) (hv:v.which=(j:Int)) (hj:j < ls.length) (to:Int) (tx:ByteArray) (hl:ls.getD j Lt.dm=⟨to,tx⟩) (hto:to=(k:Int)) (hk:k < L.length)
 (hrd:rdR tx.data.toList=some p) (hsz:tx.data.toList.length≤16777216) (he:(L.getD k nx0).n.e=0) (hh:hrE (L.getD k nx0).n p=0) (hV:Rv w.heap.size w) (hHr:∀ W vm vr vs vg vw zm zs zg zw,NdIs W (L.getD k nx0).n vm vr vs vg vw→PkIs W p zm zs zg zw→Calls Tryz.prog 32 #[.agg (ndA (L.getD k nx0).n vm vr vs vg vw),.agg #[.string p.frm,.bool p.whole,zm,zs,zg,zw]] W fun e w'=>OpSays (L.getD k nx0).n.e (hrE (L.getD k nx0).n p) (hrN (L.getD k nx0).n p) W e w') :
 Calls Tryz.prog 102 #[.pointer (some ⟨g,0,none⟩)] w fun e w'=>e=.returned (.int .i64 0)∧Below C w w'∧∃ y a kk c,y.n=hrN (L.getD k nx0).n p∧NsOwn C w' nb (L.set k y)∧Plr C w' g (.slice (some ⟨nb,0,none⟩) L.length L.length) (.slice a kk c) (ls.eraseIdx j) v:=by
 have hg0:w.cell? ⟨g,0,none⟩=some (.slice (some ⟨nb,0,none⟩) L.length L.length):=cellsAt h.hg 0
 have hg1:w.cell? ⟨g,1,none⟩=some ul:=cellsAt h.hg 1
 have hg3:w.cell? ⟨g,3,none⟩=some (.int .i64 (j:Int)):=by rw [← hv];exact cellsAt h.hg 3
 obtain ⟨hpB,hpe⟩:=rdR_some.1 hrd
 have hwok:=pk_wok hpe
 obtain ⟨lb,cu,hul⟩:∃ lb cu,ul=.slice (some ⟨lb,0,none⟩) ls.length cu:=by
  rcases h.ls.2 with ⟨_,h0⟩ | ⟨b',c,cur,rfl,_⟩
  ·omega
  ·exact ⟨b',c,rfl⟩
 have hls:=h.ls
 rw [hul] at hls hg1
 have hlc:∀ i,i < 2→w.cell? ⟨lb,j * 2+i,none⟩=[Value.int .i64 (k:Int),.string tx][i]?:=fun i hi=>by
  rw [World.ownsRow.cellAt hls _ (by have:=Lt.fl_len ls;omega)]
  have h2:=Lt.fl_get ls j hj i hi
  rw [h2,hl,hto]
  rfl
 have hc:=fun i hi=>nfl_get L k hk i hi
 have ho:=hN.own _ (nx_mem hk)
 have hok:=hN.ok _ (nx_mem hk)
 generalize hx:L.getD k nx0=x at *
 obtain ⟨⟨nm,ct,ms,rs,sv,gw,⟨px,py,pz,ph,pq⟩,wh⟩,vm,vr,vs,vg,vw⟩:=x
 obtain ⟨a2,c2,h2⟩:=row_form ho.ms
 obtain ⟨a3,c3,h3⟩:=row_form ho.rs
 obtain ⟨a4,c4,h4⟩:=row_form ho.sv
 obtain ⟨a5,c5,h5⟩:=row_form ho.gw
 obtain ⟨a11,c11,h11⟩:=row_form ho.wh
 simp only at h2 h3 h4 h5 h11
 subst h2 h3 h4 h5 h11
 refine come_at g nb L.length k lb ls.length cu j tx (nfl L).toArray nm ct a2 a3 a4 a5 a11 _ c2 _ c3 _ c4 _ c5 _ c11 px py pz ph pq w (IsNx C (hrN ⟨nm,ct,ms,rs,sv,gw,⟨px,py,pz,ph,pq⟩,wh⟩ p)) (IsPx p) _ hk hj hg0 hg1 hg3 (hlc 0 (by omega)) (hlc 1 (by omega)) hN.row
  (List.getElem?_toArray.trans (hc 0 (by omega))) (List.getElem?_toArray.trans (hc 1 (by omega))) (List.getElem?_toArray.trans (hc 2 (by omega))) (List.getElem?_toArray.trans (hc 3 (by omega))) (List.getElem?_toArray.trans (hc 4 (by omega))) (List.getElem?_toArray.trans (hc 5 (by omega))) (List.getElem?_toArray.trans (hc 6 (by omega))) (List.getElem?_toArray.trans (hc 7 (by omega))) (List.getElem?_toArray.trans (hc 8 (by omega))) (List.getElem?_toArray.trans (hc 9 (by omega))) (List.getElem?_toArray.trans (hc 10 (by omega))) (List.getElem?_toArray.trans (hc 11 (by omega)))
  ?_ ?_ ?_ ?_ ?_ ?_ ?_
 ·rintro V V' xs ⟨vm,vs,vg,vw,rfl,hp⟩ hb
  exact ⟨vm,vs,vg,vw,rfl,hp.below hb⟩
 ·rintro V V' xs ⟨y,rfl,hy,ho2,hk2⟩ hb
  exact ⟨y,rfl,hy,ho2.below hb,hk2⟩
 ·rintro V xs b cs Ls ⟨y,rfl,hy,ho2,hk2⟩ hb
  exact ⟨y,rfl,hy,ho2.row hb (fun q hq=>setAll_other hq _ _ _),hk2⟩
 ·intro e
  have h0:=nfl_get L 0 (by omega) 0 (by omega)
  simp only [List.getElem?_toArray] at e
  rw [Nat.zero_mul,Nat.zero_add,e] at h0
  simp [Nx.cs] at h0
 ·intro W hW
  refine (pread_b (l:=tx.data.toList) (hV.after hW) hsz).mono ?_
  rintro e w' ⟨hb,⟨p',wm,ws,wg,ww,ho',rfl,hpo⟩ | ⟨ho',_⟩⟩
  ·rw [hrd] at ho'
   cases ho'
   obtain ⟨b2,d2,e2⟩:=row_form hpo.ms
   obtain ⟨b3,d3,e3⟩:=row_form hpo.sv
   obtain ⟨b4,d4,e4⟩:=row_form hpo.gw
   obtain ⟨b5,d5,e5⟩:=row_form hpo.wh
   subst e2 e3 e4 e5
   exact ⟨hb,p.frm,p.whole,b2,_,d2,b3,_,d3,b4,_,d4,b5,_,d5,rfl,_,_,_,_,rfl,hpo.isW hwok⟩
  ·rw [hrd] at ho';cases ho'
 ·rintro W pf pw p2 q2 r2 p3 q3 r3 p4 q4 r4 p5 q5 r5 hW ⟨wm,ws,wg,ww,hxs,hp⟩
  simp only [List.cons.injEq,Value.string.injEq,Value.bool.injEq,and_true] at hxs
  obtain ⟨rfl,rfl,rfl,rfl,rfl,rfl⟩:=hxs
  have hI:=(ho.is hok).below hW
  refine (hHr W _ _ _ _ _ _ _ _ _ hI hp).mono ?_
  rintro e w' ⟨hb,⟨hne,_⟩ | ⟨_,hne,_⟩ | ⟨_,_,um,ur,us,ug,uw,rfl,ho',hk'⟩⟩
  ·exact absurd he hne
  ·exact absurd hh hne
  ·have hCW:C≤W.heap.size:=Nat.le_trans hC hW.size
   have ho2:=ho'.mono hCW
   clear ho'
   generalize hrN ⟨nm,ct,ms,rs,sv,gw,⟨px,py,pz,ph,pq⟩,wh⟩ p=n' at *
   obtain ⟨b2,d2,e2⟩:=row_form ho2.ms
   obtain ⟨b3,d3,e3⟩:=row_form ho2.rs
   obtain ⟨b4,d4,e4⟩:=row_form ho2.sv
   obtain ⟨b5,d5,e5⟩:=row_form ho2.gw
   obtain ⟨b11,d11,e11⟩:=row_form ho2.wh
   subst e2 e3 e4 e5 e11
   exact ⟨hb,n'.name,n'.centre,b2,_,d2,b3,_,d3,b4,_,d4,b5,_,d5,n'.p.x,n'.p.y,n'.p.z,n'.p.h,n'.p.s,b11,_,d11,rfl,⟨n',_,_,_,_,_⟩,rfl,rfl,ho2,hk'⟩
 ·rintro V u0 u1 b2 m2 e2 b3 m3 e3 b4 m4 e4 b5 m5 e5 u6 u7 u8 u9 u10 b11 m11 e11 hVb ⟨y,hys,hy,ho2,hk2⟩
  rw [hys]
  have hNt:=hN.turn hVb hC hk ho2 hk2
  have hoth:∀ q,q≠nb→(World.drew (setAll nb y.cs (k * 12) V)).heap[q]?=V.heap[q]?:=fun q hq=>by rw [drew_heap];exact setAll_other hq _ _ _
  have hP:=(h.below hVb).row (hN.below hVb hC).row hoth
  refine (lose_any C g j _ ul ls v _ hP h20 hv hj).mono ?_
  rintro e w' ⟨rfl,hm,a,kk,c,hp⟩
  refine ⟨rfl,?_,y,a,kk,c,hy,hNt.mv hm,hp⟩
  exact (drew_below (setAll_below hN.le _ _ (hVb.mono hC))).trans hm.below
theorem NSl.ok {w:World} {v:Value} {ns:List Nd} (h:NSl w v ns):∀ n∈ns,NdOk n:=fun n hn=>by
 obtain ⟨a,cap,_,h⟩:=h
 rcases h with h | ⟨b,off,_,_,hr⟩
 ·subst h;cases hn
 ·obtain ⟨j,hj,rfl⟩:=List.mem_iff_getElem.1 hn
  obtain ⟨vm,vr,vs,vg,vw,h1,_⟩:=hr j hj
  rw [List.getD,List.getElem?_eq_getElem hj] at h1
  exact h1.ok
theorem NtOwn.row_at {B nb:Nat} {w:World} {t:Nt} {un ul:Value} {L:List Nx} (h:NtOwn B w t un ul nb L) (hk:∀ n∈t.ns,NdOk n):NRow w nb 0 t.ns:=fun j hj=>by
 have hl:L.length=t.ns.length:=by rw [← h.ns,List.length_map]
 have hjL:j < L.length:=by omega
 have hx:L.getD j nx0∈L:=by rw [List.getD,List.getElem?_eq_getElem hjL];exact List.getElem_mem hjL
 have hn:(L.getD j nx0).n=t.ns.getD j ndZ:=by
  rw [← h.ns,List.getD,List.getD,List.getElem?_map,List.getElem?_eq_getElem hjL];rfl
 have hm:t.ns.getD j ndZ∈t.ns:=by rw [List.getD,List.getElem?_eq_getElem hj];exact List.getElem_mem hj
 have ho:=h.own _ hx
 have hg:=fun i hi=>nfl_get L j hjL i hi
 have hr:=h.row
 generalize L.getD j nx0=x at *
 obtain ⟨xn,vm,vr,vs,vg,vw⟩:=x
 simp only at hn ho
 subst hn
 refine ⟨vm,vr,vs,vg,vw,ho.is (hk _ hm),fun i hi=>?_⟩
 have hgi:=hg i hi
 have hlt:i < (ndA (t.ns.getD j ndZ) vm vr vs vg vw).size:=hi
 have hc:=cellsAt hr (0+j * 12+i)
 rw [hc]
 simpa [Nx.cs] using hgi
theorem NtOwn.sl {B nb:Nat} {w:World} {t:Nt} {un ul:Value} {L:List Nx} (h:NtOwn B w t un ul nb L) (hk:∀ n∈t.ns,NdOk n):NSl w un t.ns:=by
 have hb:nb < w.heap.size:=(Array.getElem?_eq_some_iff.1 h.row).1
 exact ⟨_,_,h.un,.inr ⟨nb,0,rfl,hb,h.row_at hk⟩⟩
def evA (v:Ev):Array Value:=#[.int .i64 v.kind,.int .i64 v.which,.int .i64 v.other,.int .i64 v.n,.string v.name,.int .i64 v.p.x,.int .i64 v.p.y,.int .i64 v.p.z,.int .i64 v.p.h,.int .i64 v.p.s,.string v.s.node,.string v.s.idn,.string v.s.name,.string v.s.tag,.int .i64 v.s.addr,.int .i64 v.s.port,.bool v.s.passing,.int .i64 v.s.version,.bool v.s.gone]
def NtHas (C:Nat) (w:World) (t:Nt) (un ul:Value):Prop:=∃ nb L,un=.slice (some ⟨nb,0,none⟩) L.length L.length∧L.map (·.n)=t.ns∧NsOwn C w nb L∧Lt.Own C w ul t.ls
theorem NsOwn.nrow {C nb:Nat} {w:World} {L:List Nx} (h:NsOwn C w nb L):NRow w nb 0 (L.map (·.n)):=fun j hj=>by
 have hjL:j < L.length:=by simpa using hj
 have hn:(L.getD j nx0).n=(L.map (·.n)).getD j ndZ:=by
  rw [List.getD,List.getD,List.getElem?_map,List.getElem?_eq_getElem hjL];rfl
 have ho:=h.own _ (nx_mem hjL)
 have hk:=h.ok _ (nx_mem hjL)
 have hg:=fun i hi=>h.cell hjL i hi
 rw [← hn]
 exact ⟨_,_,_,_,_,ho.is hk,fun i hi=>by rw [hg i hi,Nx.cs,Array.getElem?_toList]⟩
theorem NtHas.is {C:Nat} {w:World} {t:Nt} {un ul:Value} (h:NtHas C w t un ul) (hk:∀ l∈t.ls,l.ok):NtIs w t un ul:=by
 obtain ⟨nb,L,rfl,hm,hN,hl⟩:=h
 have hr:=hN.nrow
 rw [hm] at hr
 refine ⟨⟨some ⟨nb,0,none⟩,L.length,by rw [← hm,List.length_map],.inr ⟨nb,0,rfl,(Array.getElem?_eq_some_iff.1 hN.row).1,hr⟩⟩,Lt.own_names hl hk⟩
theorem NsOwn.keep {C nb:Nat} {w w':World} {L:List Nx} (h:NsOwn C w nb L) (hk:∀ b,C≤b→b < w.heap.size→w'.heap[b]?=w.heap[b]?):NsOwn C w' nb L:=⟨h.le,(hk nb h.le (Array.getElem?_eq_some_iff.1 h.row).1).trans h.row,fun x hx=>(h.own x hx).keep hk,h.ok⟩
theorem NsOwn.mono {A C nb:Nat} {w:World} {L:List Nx} (h:NsOwn C w nb L) (hA:A≤C):NsOwn A w nb L:=⟨Nat.le_trans hA h.le,h.row,fun x hx=>(h.own x hx).mono hA,h.ok⟩
theorem exec_load_row {P:Program} {a:Act} {o:Oper} {W:World} (ty:TypeId) (x:Operand) (ho:o.op=.load ty x) (g:Nat) (hx:a.eval x=.pointer (some ⟨g,0,none⟩)) (T:TypeId) (cs:Array Value) (fr:Nat × Nat) (d:TypeDesc) (hg:W.heap[g]?=some (.cells cs T fr)) (hu:P.underlying ty=some d) (hd:(match d with | .struct _ | .array _ _=>true | _=>false)=true) (hi:(P.info? ty).map (·.size)=some cs.size):(execOp a.eval o).run P W=.ok (.value (.agg cs)) W:=by
 unfold execOp
 simp only [ho,hx,Instr.loadAt,Instr.sureAddr,Sem.run_bind,Sem.run_pure,Result.andThen_ok,run_loadVar_row W g T ty cs fr d hg hu hd hi]
def StepSays (w:World) (t:Nt) (e:Ending) (w':World):Prop:=Below w.heap.size w w'∧∃ a k c b l d,e=.returned (.tuple #[.agg #[.slice a k c,.slice b l d],.int .i64 0])∧NtHas w.heap.size w' t (.slice a k c) (.slice b l d)
set_option maxHeartbeats 12800000 in
set_option maxRecDepth 100000 in
theorem step_of (t t':Nt) (vn vl:Value) (v:Ev) (w:World) (hV:Rv w.heap.size w) (h:NtIs w t vn vl) (hs:t.Short) (he:t.e=0)
 (hP:∀ W C g nb ul L,Below w.heap.size w W→C≤W.heap.size→NsOwn C W nb L→L.map (·.n)=t.ns→Plr C W g (.slice (some ⟨nb,0,none⟩) L.length L.length) ul t.ls v→Calls Tryz.prog 35 #[.pointer (some ⟨g,0,none⟩)] W fun e w'=>e=.returned (.int .i64 0)∧Below C W w'∧∃ a k c L',L'.length=L.length∧L'.map (·.n)=t'.ns∧NsOwn C w' nb L'∧Plr C w' g (.slice (some ⟨nb,0,none⟩) L.length L.length) (.slice a k c) t'.ls v) :
 Calls Tryz.prog 16 #[.agg #[vn,vl],.agg (evA v)] w (StepSays w t'):=by
 have HCK:Hid (∀ W,Below w.heap.size w W→Calls Tryz.prog 11 #[.agg #[vn,vl]] W fun e w'=>e=.returned (.int .i64 0)∧Below W.heap.size W w'):=fun W hW=>by
  have hc:=netCheck_any t vn vl W (hV.after hW) (h.below hW) hs
  rw [he] at hc;exact hc
 have hz:=Nt.e_zero he
 have hnok:=h.ns.ok
 have HCP:Hid (∀ W,Below w.heap.size w W→Calls Tryz.prog 18 #[.agg #[vn,vl]] W fun e w'=>∃ nb n a l c,e=.returned (.agg #[.slice (some ⟨nb,0,none⟩) n n,.slice a l c])∧Below W.heap.size W w'∧Hid (∃ L,n=L.length∧L.map (·.n)=t.ns∧NsOwn W.heap.size w' nb L∧Lt.Own W.heap.size w' (.slice a l c) t.ls)):=fun W hW=>by
  refine (copied_any t vn vl W (h.below hW) hz.1 hz.2.1 (fun n hn=>Nd.e_len (hz.2.2.1 n hn))).mono ?_
  rintro e w' ⟨un,a,l,c,L,rfl,ho,hb⟩
  have hun:=ho.un
  subst hun
  have hLn:t.ns.length=L.length:=by rw [← ho.ns,List.length_map]
  exact ⟨_,_,_,_,_,rfl,hb,L,hLn,ho.ns,⟨by omega,ho.row,fun x hx=>(ho.own x hx).mono (by omega),fun x hx=>hnok _ (by rw [← ho.ns];exact List.mem_map_of_mem hx)⟩,Lt.Own.mono ho.ls (by omega)⟩
 have HP:Hid (∀ W C g nb ul L,Below w.heap.size w W→C≤W.heap.size→NsOwn C W nb L→L.map (·.n)=t.ns→Plr C W g (.slice (some ⟨nb,0,none⟩) L.length L.length) ul t.ls v→Calls Tryz.prog 35 #[.pointer (some ⟨g,0,none⟩)] W fun e w'=>e=.returned (.int .i64 0)∧Below C W w'∧∃ a k c L',L'.length=L.length∧L'.map (·.n)=t'.ns∧NsOwn C w' nb L'∧Plr C w' g (.slice (some ⟨nb,0,none⟩) L.length L.length) (.slice a k c) t'.ls v):=hP
 obtain ⟨⟨pn,cn,hvn,_⟩,⟨pl,cl,hvl,_,_⟩⟩:=h
 subst hvn hvl
 clear hP hV hs hz hnok he
 generalize t.ns.length=n at *
 generalize t.ls.length=m at *
 obtain ⟨k0,k1,k2,k3,nm,⟨p0,p1,p2,p3,p4⟩,⟨s0,s1,s2,s3,s4,s5,s6,s7,s8⟩⟩:=v
 simp only [evA]
 obtain ⟨W0,hW0⟩:∃ W0,W0=((w.alloc (.cells #[.slice pn n cn,.slice pl m cl] 25)).alloc (.cells #[.int .i64 k0,.int .i64 k1,.int .i64 k2,.int .i64 k3,.string nm,.int .i64 p0,.int .i64 p1,.int .i64 p2,.int .i64 p3,.int .i64 p4,.string s0,.string s1,.string s2,.string s3,.int .i64 s4,.int .i64 s5,.bool s6,.int .i64 s7,.bool s8] 44)).alloc (.cells #[.slice none 0 0,.slice none 0 0] 25):=⟨_,rfl⟩
 have hb0:Below w.heap.size w W0:=by rw [hW0];exact (((Below.refl _ _).alloc (Nat.le_refl _) _).alloc (by simp) _).alloc (by simp;omega) _
 have hs0:W0.heap.size=w.heap.size+3:=by rw [hW0];simp
 have hn0:W0.heap[w.heap.size]?=some (.cells #[.slice pn n cn,.slice pl m cl] 25 (0,0)):=by rw [hW0];exact ((Lib.alloc_old _ _ _ (by simp;omega)).trans (Lib.alloc_old _ _ _ (by simp))).trans (heap_alloc_new w _)
 have he0:W0.heap[w.heap.size+1]?=some (.cells #[.int .i64 k0,.int .i64 k1,.int .i64 k2,.int .i64 k3,.string nm,.int .i64 p0,.int .i64 p1,.int .i64 p2,.int .i64 p3,.int .i64 p4,.string s0,.string s1,.string s2,.string s3,.int .i64 s4,.int .i64 s5,.bool s6,.int .i64 s7,.bool s8] 44 (0,0)):=by
  rw [hW0]
  have:=heap_alloc_new (w.alloc (.cells #[.slice pn n cn,.slice pl m cl] 25)) (.cells #[.int .i64 k0,.int .i64 k1,.int .i64 k2,.int .i64 k3,.string nm,.int .i64 p0,.int .i64 p1,.int .i64 p2,.int .i64 p3,.int .i64 p4,.string s0,.string s1,.string s2,.string s3,.int .i64 s4,.int .i64 s5,.bool s6,.int .i64 s7,.bool s8] 44)
  refine (Lib.alloc_old _ _ _ (by simp)).trans ?_
  simpa using this
 have hr0:W0.heap[w.heap.size+2]?=some (.cells #[.slice none 0 0,.slice none 0 0] 25 (0,0)):=by
  rw [hW0]
  have:=heap_alloc_new ((w.alloc (.cells #[.slice pn n cn,.slice pl m cl] 25)).alloc (.cells #[.int .i64 k0,.int .i64 k1,.int .i64 k2,.int .i64 k3,.string nm,.int .i64 p0,.int .i64 p1,.int .i64 p2,.int .i64 p3,.int .i64 p4,.string s0,.string s1,.string s2,.string s3,.int .i64 s4,.int .i64 s5,.bool s6,.int .i64 s7,.bool s8] 44)) (.cells #[.slice none 0 0,.slice none 0 0] 25)
  simpa using this
 have HB0:Hid (Below w.heap.size w W0):=hb0
 have HX:Hid (∀ W,Below W0.heap.size W0 W→W.heap[w.heap.size]?=some (.cells #[.slice pn n cn,.slice pl m cl] 25 (0,0))∧W.heap[w.heap.size+1]?=some (.cells #[.int .i64 k0,.int .i64 k1,.int .i64 k2,.int .i64 k3,.string nm,.int .i64 p0,.int .i64 p1,.int .i64 p2,.int .i64 p3,.int .i64 p4,.string s0,.string s1,.string s2,.string s3,.int .i64 s4,.int .i64 s5,.bool s6,.int .i64 s7,.bool s8] 44 (0,0))∧W.heap[w.heap.size+2]?=some (.cells #[.slice none 0 0,.slice none 0 0] 25 (0,0))):=fun W hW=>⟨(hW.block _ (by omega)).trans hn0,(hW.block _ (by omega)).trans he0,(hW.block _ (by omega)).trans hr0⟩
 have HSC:Hid (∀ W:World,W.heap[w.heap.size]?=some (.cells #[.slice pn n cn,.slice pl m cl] 25 (0,0))→W.heap[w.heap.size+1]?=some (.cells #[.int .i64 k0,.int .i64 k1,.int .i64 k2,.int .i64 k3,.string nm,.int .i64 p0,.int .i64 p1,.int .i64 p2,.int .i64 p3,.int .i64 p4,.string s0,.string s1,.string s2,.string s3,.int .i64 s4,.int .i64 s5,.bool s6,.int .i64 s7,.bool s8] 44 (0,0))→W.cell? ⟨w.heap.size,0,none⟩=some (.slice pn n cn)∧W.cell? ⟨w.heap.size,1,none⟩=some (.slice pl m cl)∧W.cell? ⟨w.heap.size+1,0,none⟩=some (.int .i64 k0)∧W.cell? ⟨w.heap.size+1,1,none⟩=some (.int .i64 k1)∧W.cell? ⟨w.heap.size+1,2,none⟩=some (.int .i64 k2)∧W.cell? ⟨w.heap.size+1,3,none⟩=some (.int .i64 k3)∧W.cell? ⟨w.heap.size+1,4,none⟩=some (.string nm)∧W.cell? ⟨w.heap.size+1,5,none⟩=some (.int .i64 p0)∧W.cell? ⟨w.heap.size+1,6,none⟩=some (.int .i64 p1)∧W.cell? ⟨w.heap.size+1,7,none⟩=some (.int .i64 p2)∧W.cell? ⟨w.heap.size+1,8,none⟩=some (.int .i64 p3)∧W.cell? ⟨w.heap.size+1,9,none⟩=some (.int .i64 p4)∧W.cell? ⟨w.heap.size+1,10,none⟩=some (.string s0)∧W.cell? ⟨w.heap.size+1,11,none⟩=some (.string s1)∧W.cell? ⟨w.heap.size+1,12,none⟩=some (.string s2)∧W.cell? ⟨w.heap.size+1,13,none⟩=some (.string s3)∧W.cell? ⟨w.heap.size+1,14,none⟩=some (.int .i64 s4)∧W.cell? ⟨w.heap.size+1,15,none⟩=some (.int .i64 s5)∧W.cell? ⟨w.heap.size+1,16,none⟩=some (.bool s6)∧W.cell? ⟨w.heap.size+1,17,none⟩=some (.int .i64 s7)∧W.cell? ⟨w.heap.size+1,18,none⟩=some (.bool s8)):=fun W h1 h2=>⟨cellsAt h1 0,cellsAt h1 1,cellsAt h2 0,cellsAt h2 1,cellsAt h2 2,cellsAt h2 3,cellsAt h2 4,cellsAt h2 5,cellsAt h2 6,cellsAt h2 7,cellsAt h2 8,cellsAt h2 9,cellsAt h2 10,cellsAt h2 11,cellsAt h2 12,cellsAt h2 13,cellsAt h2 14,cellsAt h2 15,cellsAt h2 16,cellsAt h2 17,cellsAt h2 18⟩
 have n0:W0.cell? ⟨w.heap.size,0,none⟩=some (.slice pn n cn):=cellsAt hn0 0
 have n1:W0.cell? ⟨w.heap.size,1,none⟩=some (.slice pl m cl):=cellsAt hn0 1
 have HS0:Hid (W0.heap.size=w.heap.size+3):=hs0
 clear hb0 hs0 hn0 he0 hr0
 go_enter Tryz.func16,Tryz.ntmps16
 go_upto_region 1 with fail
 rw [← hW0]
 clear hW0
 go_wp2_with fail
 refine (HCK.out W0 HB0.out).mono ?_
 rintro e w1 ⟨rfl,hb1⟩
 have HB01:Hid (Below W0.heap.size W0 w1):=hb1
 have HB1:Hid (Below w.heap.size w w1):=HB0.out.trans (hb1.mono HB0.out.size)
 clear hb1 n0 n1 HCK
 go_wp2_with fail
 refine wp_region_held_drew (S:=fun W=>W.heap[w.heap.size]?=some (.cells #[.slice pn n cn,.slice pl m cl] 25 (0,0))∧W.heap[w.heap.size+1]?=some (.cells #[.int .i64 k0,.int .i64 k1,.int .i64 k2,.int .i64 k3,.string nm,.int .i64 p0,.int .i64 p1,.int .i64 p2,.int .i64 p3,.int .i64 p4,.string s0,.string s1,.string s2,.string s3,.int .i64 s4,.int .i64 s5,.bool s6,.int .i64 s7,.bool s8] 44 (0,0))) (by kernel_rfl) ⟨(HX.out w1 HB01.out).1,(HX.out w1 HB01.out).2.1⟩ (fun hHeld=>?_)
 refine wpAnyH_take (i:=0) (v:=.agg #[.slice pn n cn,.slice pl m cl]) rfl (by kernel_rfl) (by kernel_rfl) (by kernel_rfl) (fun _ _ _ h=>h) (Or.inl ⟨by rfl,?hy⟩) (by assumption) ?_
 case hy=>
  intro W hSw
  have i0:W.cell? ⟨w.heap.size,0,none⟩=some (.slice pn n cn):=cellsAt hSw.1 0
  have i1:W.cell? ⟨w.heap.size,1,none⟩=some (.slice pl m cl):=cellsAt hSw.1 1
  clear hSw hHeld
  go_simp
  try with_reducible rfl
 refine wpAnyH_take (i:=2) (v:=.agg #[.int .i64 k0,.int .i64 k1,.int .i64 k2,.int .i64 k3,.string nm,.int .i64 p0,.int .i64 p1,.int .i64 p2,.int .i64 p3,.int .i64 p4,.string s0,.string s1,.string s2,.string s3,.int .i64 s4,.int .i64 s5,.bool s6,.int .i64 s7,.bool s8]) rfl (by kernel_rfl) (by kernel_rfl) (by kernel_rfl) (fun _ _ _ h=>h) (Or.inl ⟨by rfl,?hy⟩) (by assumption) ?_
 case hy=>exact fun W hSw=>exec_load_row 44 (.tmp 3) rfl (w.heap.size+1) rfl 44 #[.int .i64 k0,.int .i64 k1,.int .i64 k2,.int .i64 k3,.string nm,.int .i64 p0,.int .i64 p1,.int .i64 p2,.int .i64 p3,.int .i64 p4,.string s0,.string s1,.string s2,.string s3,.int .i64 s4,.int .i64 s5,.bool s6,.int .i64 s7,.bool s8] (0,0) _ hSw.2 Tryz.underlying44 rfl (by kernel_rfl)
 refine wpAnyH_ready (rs:=[1]) (by kernel_rfl) (by simp) ?_
 refine AllReadyH.cons rfl (fun K hK=>?_) AllReadyH.nil
 have HK:Hid _:=hK
 clear hK
 go_simp
 refine Calls.mono (HCP.out _ (drew_below HB1.out)) ?_
 rintro e w2 ⟨nb,nn,a,l,c,rfl,hb2,HN2⟩
 have HB02:Hid (Below W0.heap.size W0 w2):=(drew_below HB01.out).trans (hb2.mono HB01.out.size)
 clear hb2
 refine HK.out _ _ ⟨(HX.out w2 HB02.out).1,(HX.out w2 HB02.out).2.1⟩ (fun hHeld=>?_)
 clear HK K
 refine wpAnyH_take (i:=3) (v:=.agg #[.slice (some ⟨nb,0,none⟩) nn nn,.slice a l c,.int .i64 k0,.int .i64 k1,.int .i64 k2,.int .i64 k3,.string nm,.int .i64 p0,.int .i64 p1,.int .i64 p2,.int .i64 p3,.int .i64 p4,.string s0,.string s1,.string s2,.string s3,.int .i64 s4,.int .i64 s5,.bool s6,.int .i64 s7,.bool s8]) rfl (by kernel_rfl) (by kernel_rfl) (by kernel_rfl) (fun _ _ _ h=>h) (Or.inl ⟨by rfl,?hy⟩) (by assumption) ?_
 case hy=>(intro W hSw;clear hSw hHeld;go_simp;try with_reducible rfl)
 refine wpAnyH_ready (rs:=[4]) (by kernel_rfl) (by simp) ?_
 refine AllReadyH.cons rfl (fun K hK=>?_) AllReadyH.nil
 have HK:Hid _:=hK
 clear hK
 go_simp
 refine HK.out _ _ ⟨((Below.refl w2.heap.size w2).alloc (Nat.le_refl _) _).block _ (Array.getElem?_eq_some_iff.1 (HX.out w2 HB02.out).1).1 |>.trans (HX.out w2 HB02.out).1,((Below.refl w2.heap.size w2).alloc (Nat.le_refl _) _).block _ (Array.getElem?_eq_some_iff.1 (HX.out w2 HB02.out).2.1).1 |>.trans (HX.out w2 HB02.out).2.1⟩ (fun hHeld=>?_)
 clear HK K
 refine wpAnyH_take (i:=5) (v:=.pointer (some ⟨w2.heap.size,0,none⟩)) rfl (by kernel_rfl) (by kernel_rfl) (by kernel_rfl) (fun _ _ _ h=>h) (Or.inl ⟨by rfl,?hy⟩) (by assumption) ?_
 case hy=>(intro W hSw;clear hSw hHeld;go_simp;try with_reducible rfl)
 refine wpAnyH_done (by kernel_rfl) ?_ _
 clear hHeld
 go_wp2_with fail
 obtain ⟨L,hnn,hmap,hN,hL⟩:=HN2.out
 subst hnn
 obtain ⟨W3,hW3⟩:∃ W3,W3=w2.alloc (.cells #[.slice (some ⟨nb,0,none⟩) L.length L.length,.slice a l c,.int .i64 k0,.int .i64 k1,.int .i64 k2,.int .i64 k3,.string nm,.int .i64 p0,.int .i64 p1,.int .i64 p2,.int .i64 p3,.int .i64 p4,.string s0,.string s1,.string s2,.string s3,.int .i64 s4,.int .i64 s5,.bool s6,.int .i64 s7,.bool s8] 75):=⟨_,rfl⟩
 have hb3:Below w2.heap.size w2 W3:=by rw [hW3];exact (Below.refl _ _).alloc (Nat.le_refl _) _
 have hC2:W0.heap.size≤w1.drew.heap.size:=HB01.out.size
 have hC3:W0.heap.size≤w2.heap.size:=HB02.out.size
 have HB03:Hid (Below W0.heap.size W0 W3):=HB02.out.trans (hb3.mono hC3)
 have hg3:W3.heap[w2.heap.size]?=some (.cells #[.slice (some ⟨nb,0,none⟩) L.length L.length,.slice a l c,.int .i64 k0,.int .i64 k1,.int .i64 k2,.int .i64 k3,.string nm,.int .i64 p0,.int .i64 p1,.int .i64 p2,.int .i64 p3,.int .i64 p4,.string s0,.string s1,.string s2,.string s3,.int .i64 s4,.int .i64 s5,.bool s6,.int .i64 s7,.bool s8] 75 (0,0)):=by rw [hW3];exact heap_alloc_new w2 _
 have HPL:=HP.out W3 W0.heap.size w2.heap.size nb (.slice a l c) L (HB0.out.trans (HB03.out.mono HB0.out.size)) HB03.out.size ((hN.below hb3 (by have:=hN.le;have:=(Array.getElem?_eq_some_iff.1 hN.row).1;omega)).mono hC2) hmap ⟨hg3,hC3,(Lt.Own.mono hL hC2).below hb3⟩
 clear hb3 hg3 hN hL hmap HN2 HP hC2
 rw [← hW3]
 clear hW3
 refine HPL.mono ?_
 rintro e w4 ⟨rfl,hb4,a4,k4,c4,L4,hlen4,hmap4,hN4,hP4⟩
 have hr4:w4.heap[w.heap.size+2]?=some (.cells #[.slice none 0 0,.slice none 0 0] 25 (0,0)):=(hb4.block _ (by have:=HS0.out;omega)).trans (HX.out W3 HB03.out).2.2
 have x0:w4.cell? ⟨w2.heap.size,0,none⟩=some (.slice (some ⟨nb,0,none⟩) L.length L.length):=cellsAt hP4.hg 0
 have x1:w4.cell? ⟨w2.heap.size,1,none⟩=some (.slice a4 k4 c4):=cellsAt hP4.hg 1
 obtain ⟨W5,hW5⟩:∃ W5,W5=setAll (w.heap.size+2) [.slice (some ⟨nb,0,none⟩) L.length L.length,.slice a4 k4 c4] 0 w4:=⟨_,rfl⟩
 have hk5:W5.heap[w.heap.size+2]?=some (.cells #[.slice (some ⟨nb,0,none⟩) L.length L.length,.slice a4 k4 c4] 25 (0,0)):=by rw [hW5];exact setAll_block [.slice (some ⟨nb,0,none⟩) L.length L.length,.slice a4 k4 c4] [] [.slice none 0 0,.slice none 0 0] hr4 rfl
 have hoth:∀ q,q≠w.heap.size+2→W5.heap[q]?=w4.heap[q]?:=fun q hq=>by rw [hW5];exact setAll_other hq _ _ _
 have hkk:∀ b,W0.heap.size≤b→b < w4.heap.size→W5.heap[b]?=w4.heap[b]?:=fun b hb _=>hoth b (by have:=HS0.out;omega)
 have HRES:Hid (StepSays w t' (.returned (.tuple #[.agg #[.slice (some ⟨nb,0,none⟩) L.length L.length,.slice a4 k4 c4],.int .i64 0])) W5):=by
  refine ⟨by rw [hW5];exact setAll_below (by omega) _ _ ((HB0.out.trans (HB03.out.mono HB0.out.size)).trans (hb4.mono HB0.out.size)),_,_,_,_,_,_,rfl,nb,L4,by rw [hlen4],hmap4,(hN4.keep hkk).mono HB0.out.size,Lt.Own.mono (row_keep hkk hP4.ls) HB0.out.size⟩
 have g0:w4.cell? ⟨w.heap.size+2,0,none⟩=some (.slice none 0 0):=cellsAt hr4 0
 have g1:w4.cell? ⟨w.heap.size+2,1,none⟩=some (.slice none 0 0):=cellsAt hr4 1
 have f0:w4.frozen? ⟨w.heap.size+2,0,none⟩=false:=frozen_of hr4 0
 have f1:w4.frozen? ⟨w.heap.size+2,1,none⟩=false:=frozen_of hr4 1
 have q0:W5.cell? ⟨w.heap.size+2,0,none⟩=some (.slice (some ⟨nb,0,none⟩) L.length L.length):=cellsAt hk5 0
 have q1:W5.cell? ⟨w.heap.size+2,1,none⟩=some (.slice a4 k4 c4):=cellsAt hk5 1
 clear hr4 hk5 hoth hkk hP4 hN4 hmap4 hb4 hlen4 HPL HX HSC HB03 HB02 HB01 HB1 HB0 HS0 hC3 HCP
 generalize L.length=nl at *
 go_wp2_with fail
 simp only [setAll,Nat.zero_add] at hW5
 rw [← hW5]
 clear hW5 g0 g1 f0 f1 x0 x1
 exact bodyPost_ret (v:=.tuple #[.agg #[.slice (some ⟨nb,0,none⟩) nl nl,.slice a4 k4 c4],.int .i64 0]) (by simp [results,Tryz.results16,go_sem,q0,q1]) rfl HRES.out
set_option maxHeartbeats 6400000 in
set_option maxRecDepth 100000 in
theorem there2 (g n:Nat) (a:Option Addr) (cap:Nat) (x y:Int) (w:World) (h0:w.cell? ⟨g,0,none⟩=some (.slice a n cap)) (h2:w.cell? ⟨g,2,none⟩=some (.int .i64 2)) (h3:w.cell? ⟨g,3,none⟩=some (.int .i64 x)) (h4:w.cell? ⟨g,4,none⟩=some (.int .i64 y)) (hn:n≤6) (hx:within x 0 ((n:Int) - 1)=true) (hy:within y 0 ((n:Int) - 1)=true) :
 Calls Tryz.prog 69 #[.pointer (some ⟨g,0,none⟩)] w fun e w'=>e=.returned (.bool true)∧Below w.heap.size w w':=by
 have hgl:g < w.heap.size:=World.block_lt_of_cell? w _ h0
 have H1:Hid (Calls Tryz.prog 84 #[.pointer (some ⟨g,0,none⟩),.int .i64 x] w fun e w'=>e=.returned (.bool true)∧Below w.heap.size w w'):=by
  have:=isNode_any g n a cap x w h0 hn
  rw [hx] at this;exact this
 have H2:Hid (∀ W:World,Below w.heap.size w W→Calls Tryz.prog 84 #[.pointer (some ⟨g,0,none⟩),.int .i64 y] W fun e w'=>e=.returned (.bool true)∧Below W.heap.size W w'):=fun W hW=>by
  have:=isNode_any g n a cap y W ((hW.cell (p:=⟨g,0,none⟩) hgl).trans h0) hn
  rw [hy] at this;exact this
 clear hx hy hn
 go_enter Tryz.func69,Tryz.ntmps69
 go_wp2_with fail
 refine H1.out.mono ?_
 rintro e w1 ⟨rfl,hb1⟩
 have HB1:Hid (Below w.heap.size w w1):=hb1
 have g4:w1.cell? ⟨g,4,none⟩=some (.int .i64 y):=(hb1.cell (p:=⟨g,4,none⟩) hgl).trans h4
 clear hb1 hgl
 go_wp2_with fail
 refine (H2.out w1 HB1.out).mono ?_
 rintro e w2 ⟨rfl,hb2⟩
 have HB2:Hid (Below w.heap.size w w2):=HB1.out.trans (hb2.mono HB1.out.size)
 clear hb2
 go_wp2_with fail
 go_ret
 exact ⟨rfl,HB2.out⟩
set_option maxHeartbeats 6400000 in
set_option maxRecDepth 100000 in
theorem there3 (g m:Nat) (a:Option Addr) (cap:Nat) (x:Int) (w:World) (h1:w.cell? ⟨g,1,none⟩=some (.slice a m cap)) (h2:w.cell? ⟨g,2,none⟩=some (.int .i64 3)) (h3:w.cell? ⟨g,3,none⟩=some (.int .i64 x)) (hm:m≤20) (hx:within x 0 ((m:Int) - 1)=true) :
 Calls Tryz.prog 69 #[.pointer (some ⟨g,0,none⟩)] w fun e w'=>e=.returned (.bool true)∧Below w.heap.size w w':=by
 have hz:IntKind.i64.wrap ((m:Int) - 1)=(m:Int) - 1:=by rw [IntKind.wrap_i64];omega
 have HX:Hid (within x 0 ((m:Int) - 1)=true):=hx
 have HWI:Hid (∀ W:World,Calls Tryz.prog 76 #[.int .i64 x,.int .i64 0,.int .i64 ((m:Int) - 1)] W fun e w'=>e=.returned (.bool true)∧w'=W):=fun W=>by
  refine (within_any x 0 ((m:Int) - 1) W).mono ?_
  rintro e w' ⟨rfl,rfl⟩
  exact ⟨by rw [HX.out],rfl⟩
 clear hx
 go_enter Tryz.func69,Tryz.ntmps69
 go_wp2_with fail
 have F1:∀ d os,(Go.Sort.grow (redrawn w d) os).cell? ⟨g,1,none⟩=some (.slice a m cap):=cell_regrown h1
 have F3:∀ d os,(Go.Sort.grow (redrawn w d) os).cell? ⟨g,3,none⟩=some (.int .i64 x):=cell_regrown h3
 have C0:∀ d os,Calls Tryz.prog 76 #[.int .i64 x,.int .i64 0,.int .i64 ((m:Int) - 1)] (Go.Sort.grow (redrawn w d) os) fun e w''=>e=.returned (.bool true)∧∃ p:Regrown,w''=Go.Sort.grow (redrawn w p.d) p.os:=fun d os=>Calls.regrown_of ((HWI.out _).mono (fun e w' h=>⟨h.1,by rw [h.2];exact Below.refl _ _⟩))
 refine wp_region_quiet_below (by kernel_rfl) (by kernel_rfl) ?_
 repeat (quiet_step (exact C0 _ _))
 refine wpQuiet_nil ?_
 intro _ hw'
 obtain ⟨⟨dq,osq⟩,hw''⟩:=hw'
 subst hw''
 have HBQ:Hid (Below w.heap.size w (Go.Sort.grow (redrawn w dq) osq)):=below_regrown w dq osq
 clear C0 F1 F3
 go_wp2_with fail
 go_ret
 exact ⟨rfl,HBQ.out⟩
theorem getD_map_n {L:List Nx} {ns:List Nd} (hm:L.map (·.n)=ns) {j:Nat} (hj:j < L.length):(L.getD j nx0).n=ns.getD j ndZ:=by
 rw [← hm,List.getD,List.getD,List.getElem?_map,List.getElem?_eq_getElem hj];rfl
theorem within_nat {k n:Nat} (h:k < n):within (k:Int) 0 ((n:Int) - 1)=true:=by
 unfold within;simp;omega
theorem step_whole (t:Nt) (vn vl:Value) (v:Ev) (w:World) (j k:Nat) (hV:Rv w.heap.size w) (h:NtIs w t vn vl) (hs:t.Short) (he:t.e=0) (hk:v.kind=2) (hw:v.which=(j:Int)) (hj:j < t.ns.length) (ho:v.other=(k:Int)) (hkn:k < t.ns.length) (h20:t.ls.length < 20) (hWr:∀ W zm zs zg zw,Tab W.heap.size W→PkIs W (wholeP (t.ns.getD j ndZ)) zm zs zg zw→Calls Tryz.prog 221 #[.agg #[.string (wholeP (t.ns.getD j ndZ)).frm,.bool (wholeP (t.ns.getD j ndZ)).whole,zm,zs,zg,zw]] W fun e w'=>e=.returned (.tuple #[.string (wholeP (t.ns.getD j ndZ)).T,.int .i64 (wholeP (t.ns.getD j ndZ)).e])∧Below W.heap.size W w') :
 Calls Tryz.prog 16 #[.agg #[vn,vl],.agg (evA v)] w (StepSays w ⟨t.ns,t.ls++[⟨v.other,(wholeP (t.ns.getD j ndZ)).T⟩]⟩):=by
 refine step_of t _ vn vl v w hV h hs he (fun W C g nb ul L hW hC hN hmap hP=>?_)
 have hLn:L.length=t.ns.length:=by rw [← hmap,List.length_map]
 have hz:=Nt.e_zero he
 have hgl:g < W.heap.size:=(Array.getElem?_eq_some_iff.1 hP.hg).1
 have hx:=getD_map_n hmap (j:=j) (by omega)
 have hxe:(L.getD j nx0).n.e=0:=by
  rw [hx]
  exact hz.2.2.1 _ (by rw [List.getD,List.getElem?_eq_getElem hj];exact List.getElem_mem hj)
 have e2:W.cell? ⟨g,2,none⟩=some (.int .i64 2):=by rw [← hk];exact cellsAt hP.hg 2
 have e0:W.cell? ⟨g,0,none⟩=some (.slice (some ⟨nb,0,none⟩) L.length L.length):=cellsAt hP.hg 0
 have e3:W.cell? ⟨g,3,none⟩=some (.int .i64 (j:Int)):=by rw [← hw];exact cellsAt hP.hg 3
 have e4:W.cell? ⟨g,4,none⟩=some (.int .i64 (k:Int)):=by rw [← ho];exact cellsAt hP.hg 4
 refine play_of 101 #[.pointer (some ⟨g,0,none⟩)] #[] (enters_of Tryz.func101 (by kernel_rfl) rfl) g 2 0 _ W (by decide) rfl e2 (fun W2 hW2=>there2 g L.length _ _ (j:Int) (k:Int) W2 ((hW2.cell (p:=⟨g,0,none⟩) hgl).trans e0) ((hW2.cell (p:=⟨g,2,none⟩) hgl).trans e2) ((hW2.cell (p:=⟨g,3,none⟩) hgl).trans e3) ((hW2.cell (p:=⟨g,4,none⟩) hgl).trans e4) (by omega) (within_nat (by omega)) (within_nat (by omega))) (fun W2 hW2 _=>?_)
 have hV2:Rv W2.heap.size W2:=(hV.after hW).after hW2
 refine (tellAll_any C g nb j ul t.ls v L W2 (hP.below hW2) (hN.below hW2 hC) (Nat.le_trans hC hW2.size) h20 hw (by omega) hxe hV2 (by rw [hx];exact hWr)).mono ?_
 rintro e w' ⟨rfl,hm,a,kk,c,hp⟩
 rw [hx] at hp
 exact ⟨rfl,(hW2.mono hC).trans hm.below,a,kk,c,L,rfl,hmap,(hN.below hW2 hC).mv hm,hp⟩
theorem step_come (t:Nt) (vn vl:Value) (v:Ev) (w:World) (j k:Nat) (p:Pk) (hV:Rv w.heap.size w) (h:NtIs w t vn vl) (hs:t.Short) (he:t.e=0) (hk:v.kind=3) (hw:v.which=(j:Int)) (hj:j < t.ls.length) (to:Int) (tx:ByteArray) (hl:t.ls.getD j Lt.dm=⟨to,tx⟩) (hto:to=(k:Int)) (hkn:k < t.ns.length) (hrd:rdR tx.data.toList=some p) (hsz:tx.data.toList.length≤16777216) (hh:hrE (t.ns.getD k ndZ) p=0) (hHr:∀ W vm vr vs vg vw zm zs zg zw,NdIs W (t.ns.getD k ndZ) vm vr vs vg vw→PkIs W p zm zs zg zw→Calls Tryz.prog 32 #[.agg (ndA (t.ns.getD k ndZ) vm vr vs vg vw),.agg #[.string p.frm,.bool p.whole,zm,zs,zg,zw]] W fun e w'=>OpSays (t.ns.getD k ndZ).e (hrE (t.ns.getD k ndZ) p) (hrN (t.ns.getD k ndZ) p) W e w') :
 Calls Tryz.prog 16 #[.agg #[vn,vl],.agg (evA v)] w (StepSays w ⟨t.ns.set k (hrN (t.ns.getD k ndZ) p),t.ls.eraseIdx j⟩):=by
 refine step_of t _ vn vl v w hV h hs he (fun W C g nb ul L hW hC hN hmap hP=>?_)
 have hLn:L.length=t.ns.length:=by rw [← hmap,List.length_map]
 have hz:=Nt.e_zero he
 have hgl:g < W.heap.size:=(Array.getElem?_eq_some_iff.1 hP.hg).1
 have hx:=getD_map_n hmap (j:=k) (by omega)
 have hxe:(L.getD k nx0).n.e=0:=by
  rw [hx]
  exact hz.2.2.1 _ (by rw [List.getD,List.getElem?_eq_getElem hkn];exact List.getElem_mem hkn)
 have e2:W.cell? ⟨g,2,none⟩=some (.int .i64 3):=by rw [← hk];exact cellsAt hP.hg 2
 obtain ⟨a0,c0,hul⟩:=row_form hP.ls
 have e1:W.cell? ⟨g,1,none⟩=some (.slice a0 t.ls.length c0):=by rw [← hul];exact cellsAt hP.hg 1
 have e3:W.cell? ⟨g,3,none⟩=some (.int .i64 (j:Int)):=by rw [← hw];exact cellsAt hP.hg 3
 refine play_of 102 #[.pointer (some ⟨g,0,none⟩)] #[] (enters_of Tryz.func102 (by kernel_rfl) rfl) g 3 0 _ W (by decide) rfl e2 (fun W2 hW2=>there3 g t.ls.length _ _ (j:Int) W2 ((hW2.cell (p:=⟨g,1,none⟩) hgl).trans e1) ((hW2.cell (p:=⟨g,2,none⟩) hgl).trans e2) ((hW2.cell (p:=⟨g,3,none⟩) hgl).trans e3) hz.2.1 (within_nat hj)) (fun W2 hW2 _=>?_)
 have hV2:Rv W2.heap.size W2:=(hV.after hW).after hW2
 refine (come_any C g nb j k ul t.ls v L p W2 (hP.below hW2) (hN.below hW2 hC) (Nat.le_trans hC hW2.size) hz.2.1 hw hj to tx hl hto (by omega) hrd hsz hxe (by rw [hx];exact hh) hV2 (by rw [hx];exact hHr)).mono ?_
 rintro e w' ⟨rfl,hb,y,a,kk,c,hy,hN',hp⟩
 rw [hx] at hy
 exact ⟨rfl,(hW2.mono hC).trans hb,a,kk,c,L.set k y,List.length_set,by rw [List.map_set,hmap,hy],hN',hp⟩
def nbA:Nd:=nwN ⟨#[97]⟩ ⟨#[99]⟩ 1 false
def nbB:Nd:=nwN ⟨#[98]⟩ ⟨#[99]⟩ 2 true
def nbP:Pk:=wholeP nbA
def nbC:Nd:=hrN nbB nbP
def ev1:Ev:=⟨2,0,1,0,⟨#[]⟩,⟨0,0,0,0,0⟩,⟨⟨#[]⟩,⟨#[]⟩,⟨#[]⟩,⟨#[]⟩,0,0,false,0,false⟩⟩
def ev2:Ev:=⟨3,0,0,0,⟨#[]⟩,⟨0,0,0,0,0⟩,⟨⟨#[]⟩,⟨#[]⟩,⟨#[]⟩,⟨#[]⟩,0,0,false,0,false⟩⟩
theorem nb_e1:nwE ⟨#[97]⟩ ⟨#[99]⟩ 1=0:=by kernel_rfl
theorem nb_e2:nwE ⟨#[98]⟩ ⟨#[99]⟩ 2=0:=by kernel_rfl
theorem nb_t0:(Nt.mk [nbA,nbB] []).e=0:=by kernel_rfl
theorem nb_pe:nbP.e=0:=by kernel_rfl
theorem nb_len:nbP.B.length≤1000:=of_decide_eq_true (by kernel_rfl)
theorem nb_h:hrE nbB nbP=0:=by kernel_rfl
theorem nb_ms:nbC.ms.length=2:=by kernel_rfl
theorem nb_T:nbP.T.data.toList=nbP.B:=by unfold Pk.T;rw [if_pos nb_pe]
theorem nb_rd:rdR nbP.T.data.toList=some nbP:=by rw [nb_T];exact rdR_some.2 ⟨rfl,nb_pe⟩
theorem nb_sz:nbP.T.data.toList.length≤1000:=by rw [nb_T];exact nb_len
theorem nb_chk:chkN [nbA,nbB]=0:=by kernel_rfl
theorem nb_lt:ltE 2 ⟨1,nbP.T⟩=0:=by
 unfold ltE
 simp only [nb_rd]
 rfl
theorem nb_t1:(Nt.mk [nbA,nbB] [⟨1,nbP.T⟩]).e=0:=by
 rw [Nt.e_letters (by simp) nb_chk]
 exact if_pos nb_lt
theorem bsize (s:ByteArray):s.size=s.data.toList.length:=by rw [Array.length_toList];rfl
theorem new_ok (nm ct:ByteArray) (ad:Int) (sv:Bool) (he:nwE nm ct ad=0) (hn:nm.size≤maxLen) (hc:ct.size≤maxLen) (W:World) :
 Calls Tryz.prog 19 #[.string nm,.string ct,.int .i64 ad,.bool sv] W fun e w'=>Below W.heap.size W w'∧∃ a2 ai2 ac2 a3 ai3 ac3 a4 ai4 ac4 a5 ai5 ac5 a6 ai6 ac6,e=.returned (.tuple #[.agg #[.string nm,.string ct,.slice a2 ai2 ac2,.slice a3 ai3 ac3,.slice a4 ai4 ac4,.slice a5 ai5 ac5,.int .i64 0,.int .i64 0,.int .i64 0,.int .i64 0,.int .i64 1000,.slice a6 ai6 ac6],.int .i64 0])∧Hid (NdIs w' (nwN nm ct ad sv) (.slice a2 ai2 ac2) (.slice a3 ai3 ac3) (.slice a4 ai4 ac4) (.slice a5 ai5 ac5) (.slice a6 ai6 ac6)):=by
 refine (New_any nm ct ad sv W hn hc).mono ?_
 rintro e w' ⟨hb,⟨hne,_⟩ | ⟨_,hne,_⟩ | ⟨_,_,um,ur,us,ug,uw,rfl,ho,hk⟩⟩
 ·exact absurd he hne
 ·exact absurd rfl hne
 ·have hI:=ho.is hk
  obtain ⟨x2,y2,e2⟩:=row_form ho.ms
  obtain ⟨x3,y3,e3⟩:=row_form ho.rs
  obtain ⟨x4,y4,e4⟩:=row_form ho.sv
  obtain ⟨x5,y5,e5⟩:=row_form ho.gw
  obtain ⟨x6,y6,e6⟩:=row_form ho.wh
  subst e2 e3 e4 e5 e6
  exact ⟨hb,_,_,_,_,_,_,_,_,_,_,_,_,_,_,_,rfl,hI⟩
theorem nsl2 {W:World} {b:Nat} {n m:Nd} {v1 v2 v3 v4 v5 u1 u2 u3 u4 u5:Value} (hb:W.heap[b]?=some (.cells (ndA n v1 v2 v3 v4 v5++ndA m u1 u2 u3 u4 u5) 51 (0,0))) (hn:NdIs W n v1 v2 v3 v4 v5) (hm:NdIs W m u1 u2 u3 u4 u5):NSl W (.slice (some ⟨b,0,none⟩) 2 2) [n,m]:=by
 refine ⟨_,_,rfl,.inr ⟨b,0,rfl,(Array.getElem?_eq_some_iff.1 hb).1,fun j hj=>?_⟩⟩
 have hj2:j < 2:=hj
 rcases Nat.lt_or_ge j 1 with h1 | h1
 ·have:j=0:=by omega
  subst this
  refine ⟨_,_,_,_,_,hn,fun i hi=>(cellsAt hb _).trans ?_⟩
  rw [show 0+0 * 12+i=i by omega,Array.getElem?_append_left (show i < (ndA n v1 v2 v3 v4 v5).size from hi)];rfl
 ·have:j=1:=by omega
  subst this
  refine ⟨_,_,_,_,_,hm,fun i hi=>(cellsAt hb _).trans ?_⟩
  rw [show 0+1 * 12+i=12+i by omega,Array.getElem?_append_right (show (ndA n v1 v2 v3 v4 v5).size≤12+i from Nat.le_add_right _ _),show 12+i - (ndA n v1 v2 v3 v4 v5).size=i from Nat.add_sub_cancel_left _ _];rfl
theorem NtHas.keep {C:Nat} {w w':World} {t:Nt} {un ul:Value} (h:NtHas C w t un ul) (hk:∀ b,C≤b→b < w.heap.size→w'.heap[b]?=w.heap[b]?):NtHas C w' t un ul:=by
 obtain ⟨nb,L,h1,h2,h3,h4⟩:=h
 exact ⟨nb,L,h1,h2,h3.keep hk,row_keep hk h4⟩
set_option maxHeartbeats 25600000 in
set_option maxRecDepth 100000 in
theorem netBegun_any (w:World) (hV:Rv w.heap.size w) :
 Calls Tryz.prog 7 #[] w fun e w'=>e=.returned (.bool true)∧Below w.heap.size w w':=by
 have HNA:=new_ok ⟨#[97]⟩ ⟨#[99]⟩ 1 false nb_e1 (by decide) (by decide)
 have HNB:=new_ok ⟨#[98]⟩ ⟨#[99]⟩ 2 true nb_e2 (by decide) (by decide)
 have HNA':Hid _:=HNA
 have HNB':Hid _:=HNB
 clear HNA HNB
 have HNN:Hid (∀ W v,Below w.heap.size w W→NSl W v [nbA,nbB]→Calls Tryz.prog 6 #[v] W fun e w'=>Below W.heap.size W w'∧∃ a l c d m k,e=.returned (.tuple #[.agg #[.slice a l c,.slice d m k],.int .i64 0])∧Hid (NtIs w' ⟨[nbA,nbB],[]⟩ (.slice a l c) (.slice d m k))):=fun W v hW hv=>by
  refine (netNew_any [nbA,nbB] v W (hV.after hW) hv).mono ?_
  rintro e w' ⟨hb,⟨_,a,l,c,d,m,k,nb,L,rfl,ho⟩ | ⟨hne,_⟩⟩
  ·exact ⟨hb,_,_,_,_,_,_,rfl,⟨ho.sl hv.ok,Lt.own_names ho.ls (fun m hm=>by cases hm)⟩⟩
  ·exact absurd nb_t0 hne
 have HS1:Hid (∀ W a l c d m k,Below w.heap.size w W→NtIs W ⟨[nbA,nbB],[]⟩ (.slice a l c) (.slice d m k)→Calls Tryz.prog 16 #[.agg #[.slice a l c,.slice d m k],.agg #[.int .i64 2,.int .i64 0,.int .i64 1,.int .i64 0,.string ⟨#[]⟩,.int .i64 0,.int .i64 0,.int .i64 0,.int .i64 0,.int .i64 0,.string ⟨#[]⟩,.string ⟨#[]⟩,.string ⟨#[]⟩,.string ⟨#[]⟩,.int .i64 0,.int .i64 0,.bool false,.int .i64 0,.bool false]] W fun e w'=>Below W.heap.size W w'∧∃ a k c b l d,e=.returned (.tuple #[.agg #[.slice a k c,.slice b l d],.int .i64 0])∧Hid (NtHas W.heap.size w' ⟨[nbA,nbB],[⟨1,nbP.T⟩]⟩ (.slice a k c) (.slice b l d))):=fun W a l c d m k hW h=>
  step_whole ⟨[nbA,nbB],[]⟩ _ _ ev1 W 0 1 (hV.after hW) h (fun _ l hl=>by cases hl) nb_t0 rfl rfl (by simp) rfl (by simp) (by simp) (fun W2 zm zs zg zw hT hx=>pwrite_any nbP zm zs zg zw W2 hx (.inl rfl) hT)
 have HS2:Hid (∀ W a l c d m k,Below w.heap.size w W→NtIs W ⟨[nbA,nbB],[⟨1,nbP.T⟩]⟩ (.slice a l c) (.slice d m k)→Calls Tryz.prog 16 #[.agg #[.slice a l c,.slice d m k],.agg #[.int .i64 3,.int .i64 0,.int .i64 0,.int .i64 0,.string ⟨#[]⟩,.int .i64 0,.int .i64 0,.int .i64 0,.int .i64 0,.int .i64 0,.string ⟨#[]⟩,.string ⟨#[]⟩,.string ⟨#[]⟩,.string ⟨#[]⟩,.int .i64 0,.int .i64 0,.bool false,.int .i64 0,.bool false]] W fun e w'=>Below W.heap.size W w'∧∃ a k c b l d,e=.returned (.tuple #[.agg #[.slice a k c,.slice b l d],.int .i64 0])∧Hid (NtHas W.heap.size w' ⟨[nbA,nbC],[]⟩ (.slice a k c) (.slice b l d))):=fun W a l c d m k hW h=>
  step_come ⟨[nbA,nbB],[⟨1,nbP.T⟩]⟩ _ _ ev2 W 0 1 nbP (hV.after hW) h (fun _ l hl=>by rw [List.mem_singleton] at hl;subst hl;rw [bsize];exact Nat.le_trans nb_sz (by decide)) nb_t1 rfl rfl (by simp) 1 nbP.T rfl rfl (by simp) nb_rd (Nat.le_trans nb_sz (by decide)) nb_h (fun W2 vm vr vs vg vw zm zs zg zw hI hx=>Hear_none nbB nbP zm zs zg zw vm vr vs vg vw W2 hI hx (.inl rfl) rfl rfl rfl rfl rfl)
 clear hV
 go_enter Tryz.func7,Tryz.ntmps7
 go_wp2_with fail
 refine Calls.mono (HNA'.out _) ?_
 rintro e w1 ⟨hb1,a2,ai2,ac2,a3,ai3,ac3,a4,ai4,ac4,a5,ai5,ac5,a6,ai6,ac6,rfl,HA1⟩
 have HB1:Hid (Below w.heap.size w w1):=hb1
 clear hb1 HNA'
 obtain ⟨W1,hW1⟩:∃ W1,W1=w1.alloc (.cells #[.string ⟨#[97]⟩,.string ⟨#[99]⟩,.slice a2 ai2 ac2,.slice a3 ai3 ac3,.slice a4 ai4 ac4,.slice a5 ai5 ac5,.int .i64 0,.int .i64 0,.int .i64 0,.int .i64 0,.int .i64 1000,.slice a6 ai6 ac6] 51):=⟨_,rfl⟩
 have hb1:Below w1.heap.size w1 W1:=by rw [hW1];exact (Below.refl _ _).alloc (Nat.le_refl _) _
 have HA2:Hid (NdIs W1 nbA (.slice a2 ai2 ac2) (.slice a3 ai3 ac3) (.slice a4 ai4 ac4) (.slice a5 ai5 ac5) (.slice a6 ai6 ac6)):=HA1.out.below hb1
 have HBW1:Hid (Below w.heap.size w W1):=HB1.out.trans (hb1.mono HB1.out.size)
 have HG1:Hid (W1.heap[w1.heap.size]?=some (.cells #[.string ⟨#[97]⟩,.string ⟨#[99]⟩,.slice a2 ai2 ac2,.slice a3 ai3 ac3,.slice a4 ai4 ac4,.slice a5 ai5 ac5,.int .i64 0,.int .i64 0,.int .i64 0,.int .i64 0,.int .i64 1000,.slice a6 ai6 ac6] 51 (0,0))):=by show _=_;rw [hW1];exact heap_alloc_new w1 _
 clear hb1 HB1 HA1
 go_wp2_with fail
 rw [← hW1]
 clear hW1
 refine Calls.mono (HNB'.out _) ?_
 rintro e w2 ⟨hb2,b2,bi2,bc2,b3,bi3,bc3,b4,bi4,bc4,b5,bi5,bc5,b6,bi6,bc6,rfl,HC1⟩
 have HB2:Hid (Below w.heap.size w w2):=HBW1.out.trans (hb2.mono HBW1.out.size)
 have HA3:Hid (NdIs w2 nbA (.slice a2 ai2 ac2) (.slice a3 ai3 ac3) (.slice a4 ai4 ac4) (.slice a5 ai5 ac5) (.slice a6 ai6 ac6)):=HA2.out.below hb2
 have HG2:Hid (w2.heap[w1.heap.size]?=some (.cells #[.string ⟨#[97]⟩,.string ⟨#[99]⟩,.slice a2 ai2 ac2,.slice a3 ai3 ac3,.slice a4 ai4 ac4,.slice a5 ai5 ac5,.int .i64 0,.int .i64 0,.int .i64 0,.int .i64 0,.int .i64 1000,.slice a6 ai6 ac6] 51 (0,0))):=(hb2.block _ (Array.getElem?_eq_some_iff.1 HG1.out).1).trans HG1.out
 clear hb2 HNB' HA2 HG1 HBW1
 obtain ⟨W2,hW2⟩:∃ W2,W2=w2.alloc (.cells #[.string ⟨#[98]⟩,.string ⟨#[99]⟩,.slice b2 bi2 bc2,.slice b3 bi3 bc3,.slice b4 bi4 bc4,.slice b5 bi5 bc5,.int .i64 0,.int .i64 0,.int .i64 0,.int .i64 0,.int .i64 1000,.slice b6 bi6 bc6] 51):=⟨_,rfl⟩
 have hb2:Below w2.heap.size w2 W2:=by rw [hW2];exact (Below.refl _ _).alloc (Nat.le_refl _) _
 have hg1:W2.heap[w1.heap.size]?=some (.cells #[.string ⟨#[97]⟩,.string ⟨#[99]⟩,.slice a2 ai2 ac2,.slice a3 ai3 ac3,.slice a4 ai4 ac4,.slice a5 ai5 ac5,.int .i64 0,.int .i64 0,.int .i64 0,.int .i64 0,.int .i64 1000,.slice a6 ai6 ac6] 51 (0,0)):=(hb2.block _ (Array.getElem?_eq_some_iff.1 HG2.out).1).trans HG2.out
 have hg2:W2.heap[w2.heap.size]?=some (.cells #[.string ⟨#[98]⟩,.string ⟨#[99]⟩,.slice b2 bi2 bc2,.slice b3 bi3 bc3,.slice b4 bi4 bc4,.slice b5 bi5 bc5,.int .i64 0,.int .i64 0,.int .i64 0,.int .i64 0,.int .i64 1000,.slice b6 bi6 bc6] 51 (0,0)):=by rw [hW2];exact heap_alloc_new w2 _
 have HA4:Hid (NdIs W2 nbA (.slice a2 ai2 ac2) (.slice a3 ai3 ac3) (.slice a4 ai4 ac4) (.slice a5 ai5 ac5) (.slice a6 ai6 ac6)):=HA3.out.below hb2
 have HC2:Hid (NdIs W2 nbB (.slice b2 bi2 bc2) (.slice b3 bi3 bc3) (.slice b4 bi4 bc4) (.slice b5 bi5 bc5) (.slice b6 bi6 bc6)):=HC1.out.below hb2
 have HBW2:Hid (Below w.heap.size w W2):=HB2.out.trans (hb2.mono HB2.out.size)
 obtain ⟨p0,p1,p2,p3,p4,p5,p6,p7,p8,p9,p10,p11⟩:=cells12 hg1
 obtain ⟨q0,q1,q2,q3,q4,q5,q6,q7,q8,q9,q10,q11⟩:=cells12 hg2
 clear hb2 hg1 hg2 HA3 HC1 HB2 HG2
 obtain ⟨W3,hW3⟩:∃ W3,W3=W2.alloc (.cells #[.string ⟨#[97]⟩,.string ⟨#[99]⟩,.slice a2 ai2 ac2,.slice a3 ai3 ac3,.slice a4 ai4 ac4,.slice a5 ai5 ac5,.int .i64 0,.int .i64 0,.int .i64 0,.int .i64 0,.int .i64 1000,.slice a6 ai6 ac6,.string ⟨#[98]⟩,.string ⟨#[99]⟩,.slice b2 bi2 bc2,.slice b3 bi3 bc3,.slice b4 bi4 bc4,.slice b5 bi5 bc5,.int .i64 0,.int .i64 0,.int .i64 0,.int .i64 0,.int .i64 1000,.slice b6 bi6 bc6] 51):=⟨_,rfl⟩
 have hb3:Below W2.heap.size W2 W3:=by rw [hW3];exact (Below.refl _ _).alloc (Nat.le_refl _) _
 have hg3:W3.heap[W2.heap.size]?=some (.cells #[.string ⟨#[97]⟩,.string ⟨#[99]⟩,.slice a2 ai2 ac2,.slice a3 ai3 ac3,.slice a4 ai4 ac4,.slice a5 ai5 ac5,.int .i64 0,.int .i64 0,.int .i64 0,.int .i64 0,.int .i64 1000,.slice a6 ai6 ac6,.string ⟨#[98]⟩,.string ⟨#[99]⟩,.slice b2 bi2 bc2,.slice b3 bi3 bc3,.slice b4 bi4 bc4,.slice b5 bi5 bc5,.int .i64 0,.int .i64 0,.int .i64 0,.int .i64 0,.int .i64 1000,.slice b6 bi6 bc6] 51 (0,0)):=by rw [hW3];exact heap_alloc_new W2 _
 have HBW3:Hid (Below w.heap.size w W3):=HBW2.out.trans (hb3.mono HBW2.out.size)
 have HNW:=HNN.out W3 (.slice (some ⟨W2.heap.size,0,none⟩) 2 2) HBW3.out (nsl2 hg3 (HA4.out.below hb3) (HC2.out.below hb3))
 clear hb3 hg3 HA4 HC2 HNN
 go_upto_region 3 with fail
 rw [← hW2]
 clear hW2
 go_wp2_with fail
 rw [← hW3]
 clear hW3 p0 q0 p1 q1 p2 q2 p3 q3 p4 q4 p5 q5 p6 q6 p7 q7 p8 q8 p9 q9 p10 q10 p11 q11
 refine Calls.mono HNW ?_
 rintro e w4 ⟨hb4,a,l,c,d,m,k,rfl,HN4⟩
 have HB4:Hid (Below w.heap.size w w4):=HBW3.out.trans (hb4.mono HBW3.out.size)
 clear hb4 HNW HBW3 HBW2
 obtain ⟨W4,hW4⟩:∃ W4,W4=w4.alloc (.cells #[.slice a l c,.slice d m k] 25):=⟨_,rfl⟩
 have hb4:Below w4.heap.size w4 W4:=by rw [hW4];exact (Below.refl _ _).alloc (Nat.le_refl _) _
 have hg4:W4.heap[w4.heap.size]?=some (.cells #[.slice a l c,.slice d m k] 25 (0,0)):=by rw [hW4];exact heap_alloc_new w4 _
 have HBW4:Hid (Below w.heap.size w W4):=HB4.out.trans (hb4.mono HB4.out.size)
 have HN4':=HS1.out W4 a l c d m k HBW4.out (HN4.out.below hb4)
 have x0:W4.cell? ⟨w4.heap.size,0,none⟩=some (.slice a l c):=cellsAt hg4 0
 have x1:W4.cell? ⟨w4.heap.size,1,none⟩=some (.slice d m k):=cellsAt hg4 1
 have HG4:Hid (W4.heap[w4.heap.size]?=some (.cells #[.slice a l c,.slice d m k] 25 (0,0))):=hg4
 have HLE:Hid (w.heap.size≤w4.heap.size):=HB4.out.size
 clear hb4 hg4 HN4 HS1 HB4
 go_upto_region 4 with fail
 rw [← hW4]
 clear hW4
 go_wp2_with fail
 refine Calls.mono HN4' ?_
 rintro e w5 ⟨hb5,a5_,l5_,c5_,d5_,m5_,k5_,rfl,HN5⟩
 have hg5:w5.heap[w4.heap.size]?=some (.cells #[.slice a l c,.slice d m k] 25 (0,0)):=(hb5.block _ (Array.getElem?_eq_some_iff.1 HG4.out).1).trans HG4.out
 have HB5:Hid (Below w.heap.size w w5):=HBW4.out.trans (hb5.mono HBW4.out.size)
 have hlt4:w4.heap.size < W4.heap.size:=(Array.getElem?_eq_some_iff.1 HG4.out).1
 obtain ⟨W5,hW5⟩:∃ W5,W5=setAll w4.heap.size [.slice a5_ l5_ c5_,.slice d5_ m5_ k5_] 0 w5:=⟨_,rfl⟩
 have hk5:W5.heap[w4.heap.size]?=some (.cells #[.slice a5_ l5_ c5_,.slice d5_ m5_ k5_] 25 (0,0)):=by rw [hW5];exact setAll_block [.slice a5_ l5_ c5_,.slice d5_ m5_ k5_] [] [.slice a l c,.slice d m k] hg5 rfl
 have hoth:∀ q,q≠w4.heap.size→W5.heap[q]?=w5.heap[q]?:=fun q hq=>by rw [hW5];exact setAll_other hq _ _ _
 have HBW5:Hid (Below w.heap.size w W5):=by show Below _ _ _;rw [hW5];exact setAll_below HLE.out _ _ HB5.out
 have hI5:NtIs W5 ⟨[nbA,nbB],[⟨1,nbP.T⟩]⟩ (.slice a5_ l5_ c5_) (.slice d5_ m5_ k5_):=(HN5.out.keep (fun q hq _=>hoth q (by omega))).is (fun l hl=>by rw [List.mem_singleton] at hl;subst hl;show _≤_;rw [bsize];exact Nat.le_trans nb_sz (by decide))
 have HN5':=HS2.out W5 _ _ _ _ _ _ HBW5.out hI5
 have y0:w5.cell? ⟨w4.heap.size,0,none⟩=some (.slice a l c):=cellsAt hg5 0
 have y1:w5.cell? ⟨w4.heap.size,1,none⟩=some (.slice d m k):=cellsAt hg5 1
 have z0:w5.frozen? ⟨w4.heap.size,0,none⟩=false:=frozen_of hg5 0
 have z1:w5.frozen? ⟨w4.heap.size,1,none⟩=false:=frozen_of hg5 1
 have r0:W5.cell? ⟨w4.heap.size,0,none⟩=some (.slice a5_ l5_ c5_):=cellsAt hk5 0
 have r1:W5.cell? ⟨w4.heap.size,1,none⟩=some (.slice d5_ m5_ k5_):=cellsAt hk5 1
 have HK5:Hid (W5.heap[w4.heap.size]?=some (.cells #[.slice a5_ l5_ c5_,.slice d5_ m5_ k5_] 25 (0,0))):=hk5
 simp only [setAll,Nat.zero_add] at hW5
 clear hb5 hg5 hk5 hoth HN5 hI5 HS2 HN4' x0 x1 HBW4 HG4 hlt4 HB5
 go_upto_region 5 with fail
 rw [← hW5]
 clear hW5 y0 y1 z0 z1
 go_wp2_with fail
 refine Calls.mono HN5' ?_
 rintro e w6 ⟨hb6,a6_,l6_,c6_,d6_,m6_,k6_,rfl,HN6⟩
 have hg6:w6.heap[w4.heap.size]?=some (.cells #[.slice a5_ l5_ c5_,.slice d5_ m5_ k5_] 25 (0,0)):=(hb6.block _ (Array.getElem?_eq_some_iff.1 HK5.out).1).trans HK5.out
 have HB6:Hid (Below w.heap.size w w6):=HBW5.out.trans (hb6.mono HBW5.out.size)
 have hlt5:w4.heap.size < W5.heap.size:=(Array.getElem?_eq_some_iff.1 HK5.out).1
 obtain ⟨W6,hW6⟩:∃ W6,W6=setAll w4.heap.size [.slice a6_ l6_ c6_,.slice d6_ m6_ k6_] 0 w6:=⟨_,rfl⟩
 have hk6:W6.heap[w4.heap.size]?=some (.cells #[.slice a6_ l6_ c6_,.slice d6_ m6_ k6_] 25 (0,0)):=by rw [hW6];exact setAll_block [.slice a6_ l6_ c6_,.slice d6_ m6_ k6_] [] [.slice a5_ l5_ c5_,.slice d5_ m5_ k5_] hg6 rfl
 have hoth:∀ q,q≠w4.heap.size→W6.heap[q]?=w6.heap[q]?:=fun q hq=>by rw [hW6];exact setAll_other hq _ _ _
 have HBW6:Hid (Below w.heap.size w W6):=by show Below _ _ _;rw [hW6];exact setAll_below HLE.out _ _ HB6.out
 obtain ⟨nb,L,hun,hmap,hN,hls⟩:=HN6.out.keep (w':=W6) (fun q hq _=>hoth q (by omega))
 have hLl:L.length=2:=by have:=congrArg List.length hmap;simpa using this
 rw [hLl] at hun
 obtain ⟨a7,c7,hul⟩:=row_form hls
 have hxn:(L.getD 1 nx0).n=nbC:=getD_map_n hmap (j:=1) (by omega)
 have hms:=(hN.own _ (nx_mem (j:=1) (by omega))).ms
 rw [hxn] at hms
 obtain ⟨a8,c8,hvm⟩:=row_form hms
 rw [nb_ms] at hvm
 have hcell:W6.cell? ⟨nb,14,none⟩=some (.slice a8 2 c8):=by
  have h:=hN.cell (j:=1) (by omega) 2 (by omega)
  rw [← hvm];exact h
 have y0:w6.cell? ⟨w4.heap.size,0,none⟩=some (.slice a5_ l5_ c5_):=cellsAt hg6 0
 have y1:w6.cell? ⟨w4.heap.size,1,none⟩=some (.slice d5_ m5_ k5_):=cellsAt hg6 1
 have z0:w6.frozen? ⟨w4.heap.size,0,none⟩=false:=frozen_of hg6 0
 have z1:w6.frozen? ⟨w4.heap.size,1,none⟩=false:=frozen_of hg6 1
 have s0:W6.cell? ⟨w4.heap.size,0,none⟩=some (.slice (some ⟨nb,0,none⟩) 2 2):=by rw [← hun];exact cellsAt hk6 0
 have s1:W6.cell? ⟨w4.heap.size,1,none⟩=some (.slice a7 0 c7):=by have h:W6.cell? ⟨w4.heap.size,1,none⟩=some (.slice d6_ m6_ k6_):=cellsAt hk6 1;rw [hul] at h;exact h
 simp only [setAll,Nat.zero_add] at hW6
 clear hb6 hg6 hk6 hoth HN6 HN5' r0 r1 HBW5 HK5 hlt5 HB6 hun hmap hN hls hLl hul hxn hms hvm HLE
 go_upto_region 6 with fail
 rw [← hW6]
 clear hW6 y0 y1 z0 z1
 go_wp2_with fail
 go_ret
 exact ⟨rfl,HBW6.out⟩
end Go.Proofs.YtffdoiokmiklgaaGreatDoor
