import Derived.Test.YtfidhgjmifendaaGreatDoornt35
import Derived.Test.YtfidhgjmifendaaGreatDoornt45
open List renaming getD→Ip,getElem?_eq_getElem→If,append_assoc→Im,mem_or_eq_of_mem_set→JI
open Go.Value renaming string→Y,int→U,slice→J
open Go.IntKind renaming i64→O
open Array renaming getElem?_eq_some_iff→BY
namespace Go.Proofs.YtfidhgjmifendaaGreatDoor
open Go.RowKit
theorem gu.isW{base:Nat}{w:World}{p:Pk}{vm vs vg vw:Value}(h:gu base w p vm vs vg vw)(hk:p.Vq):jY w p vm vs vg vw:=
 ⟨bD h.ms (λm hm=>by have:=(hk.ms.2 m hm).1;unfold maxLen;omega),Sv.bD h.sv (λm hm=>by obtain⟨h1,h2,h3,h4,_⟩:=hk.sv.2 m hm;refine⟨?_,?_,?_,?_⟩<;>(unfold maxLen;omega)),Gw.bD h.gw (λm hm=>by have:=(hk.gw.2 m hm).1;show _<=_;unfold maxLen;omega),Wh.bD h.wh (λm hm=>by have:=(hk.wh.2 m hm).1;show _<=_;unfold maxLen;omega),by have:=hk.cU;unfold maxLen;omega,nD h.ms⟩
theorem Nl(L:List Nx)(k:Nat)(hk:k<L.length):iW L=iW (L.take k)++(L.getD k bX).cs++iW (L.drop (k+1)):=by
 have h:L=L.take k++([L.getD k bX]++L.drop (k+1)):=by
  rw[Ip,If hk,Option.getD_some,List.singleton_append,List.getElem_cons_drop,List.take_append_drop]
 have h2:=congrArg iW h;rw[kt,kt,sw,<- Im] at h2;exact h2
theorem Nn(L:List Nx)(k:Nat)(hk:k<L.length)(y:Nx):iW (L.set k y)=iW (L.take k)++y.cs++iW (L.drop (k+1)):=by
 rw[List.set_eq_take_append_cons_drop,if_pos hk,show L.take k++y::L.drop (k+1)=L.take k++([y]++L.drop (k+1)) from rfl,kt,kt,sw,Im]
theorem cL.row{B b:Nat}{w w':World}{n:Nd}{vm vr vs vg vw:Value}{cs:Array Value}(h:cL B w n vm vr vs vg vw)(hb:w.heap[b]?=some (.cells cs 42 (0,0)))(hk:∀q,q≠b->w'.heap[q]?=w.heap[q]?):cL B w' n vm vr vs vg vw:=by
 have hq:∀(q:Nat) (c:Array Value) (T:TypeId) (f:Nat×Nat),T≠42->w.heap[q]?=some (.cells c T f)->w'.heap[q]?=some (.cells c T f):=λq c T f hT e=>(hk q (λe2=>by subst e2;rw[hb] at e;simp at e;exact hT e.2.1.symm)).trans e;exact⟨ek h.ms (λq c f e=>hq q c _ f (by decide) e),ek h.rs (λq c f e=>hq q c _ f (by decide) e),ek h.sv (λq c f e=>hq q c _ f (by decide) e),ek h.gw (λq c f e=>hq q c _ f (by decide) e),ek h.wh (λq c f e=>hq q c _ f (by decide) e)⟩
def aew(C:Nat)(n:Nd)(V:World)(xs:List Value):Prop:=∃y:Nx,xs=y.cs/\y.n=n/\cL C V y.n y.vm y.vr y.vs y.vg y.vw/\il y.n
def aex(p:Pk)(V:World)(xs:List Value):Prop:=∃vm vs vg vw,xs=[Y p.cU,.bool p.whole,vm,vs,vg,vw]/\jY V p vm vs vg vw
theorem cJ.turn{C nb k:Nat}{w V:World}{L:List Nx}{y:Nx}(h:cJ C w nb L)(hb:Below w.heap.size w V)(hC:C<=w.heap.size)(hk:k<L.length)(ho:cL C V y.n y.vm y.vr y.vs y.vg y.vw)(hU:il y.n):cJ C (World.drew (aC nb y.cs (k*12) V)) nb (L.set k y):=by
 have hv:=h.below hb hC;have eo:∀q,q≠nb->(World.drew (aC nb y.cs (k*12) V)).heap[q]?=V.heap[q]?:=λq hq=>by rw[dB];exact aX hq _ _ _
 refine⟨h.le,?_,λx hx=>?_,λx hx=>?_⟩
 .have hr:=hv.row
  rw[Nl L k hk] at hr;have h2:=oG (b:=nb) y.cs (iW (L.take k)) (L.getD k bX).cs (iW (L.drop (k+1))) hr (by rw[jx,jx]);rw[xH,List.length_take,Nat.min_eq_left (by omega)] at h2;rw[dB,Nn L k hk];exact h2
 .rcases JI hx with h1|rfl
  .exact(hv.own x h1).row hv.row eo
  .exact ho.row hv.row eo
 .rcases JI hx with h1|rfl
  .exact h.ok x h1
  .exact hU
theorem kA.row{C g nb:Nat}{w w':World}{un ul:Value}{ls:List Lt.fb}{v:Ev}{cs:Array Value}(h:kA C w g un ul ls v)(hb:w.heap[nb]?=some (.cells cs 42 (0,0)))(hk:∀q,q≠nb->w'.heap[q]?=w.heap[q]?):kA C w' g un ul ls v:=by
 have hq:∀(q:Nat) (c:Array Value) (T:TypeId) (f:Nat×Nat),T≠42->w.heap[q]?=some (.cells c T f)->w'.heap[q]?=some (.cells c T f):=λq c T f hT e=>(hk q (λe2=>by subst e2;rw[hb] at e;simp at e;exact hT e.2.1.symm)).trans e;exact⟨hq _ _ _ _ (by decide) h.hg,h.le,ek h.ls (λq c f e=>hq q c _ f (by decide) e)⟩
def Cc(v:Ev):Array Value:=#[U O v.kind,U O v.which,U O v.other,U O v.n,Y v.name,U O v.p.x,U O v.p.y,U O v.p.z,U O v.p.h,U O v.p.s,Y v.s.node,Y v.s.bu,Y v.s.name,Y v.s.tag,U O v.s.addr,U O v.s.port,.bool v.s.aj,U O v.s.version,.bool v.s.gone]
def fF(C:Nat)(w:World)(t:Nt)(un ul:Value):Prop:=∃nb L,un=J (some ⟨nb,0,none⟩) L.length L.length/\L.map (·.n)=t.ns/\cJ C w nb L/\Lt.Own C w ul t.ls
theorem cJ.aey{C nb:Nat}{w:World}{L:List Nx}(h:cJ C w nb L):ve w nb 0 (L.map (·.n)):=λj hj=>by
 have Fs:j<L.length:=by simpa using hj
 have hn:(L.getD j bX).n=(L.map (·.n)).getD j cS:=by
  rw[Ip,Ip,List.getElem?_map,If Fs];rfl
 have ho:=h.own _ (gi Fs);have hk:=h.ok _ (gi Fs);have hg:=λi hi=>h.cell Fs i hi;rw[<- hn];exact⟨_,_,_,_,_,ho.is hk,λi hi=>by rw[hg i hi,Nx.cs,Array.getElem?_toList]⟩
theorem fF.is{C:Nat}{w:World}{t:Nt}{un ul:Value}(h:fF C w t un ul)(hk:∀l∈t.ls,l.ok):gh w t un ul:=by
 obtain⟨nb,L,rfl,hm,hN,hl⟩:=h;have hr:=hN.aey;rw[hm] at hr;refine⟨⟨some ⟨nb,0,none⟩,L.length,by rw[<- hm,List.length_map],.inr ⟨nb,0,rfl,(BY.1 hN.row).1,hr⟩⟩,Lt.bD hl hk⟩
theorem cJ.fa{C nb:Nat}{w w':World}{L:List Nx}(h:cJ C w nb L)(hk:∀b,C<=b->b<w.heap.size->w'.heap[b]?=w.heap[b]?):cJ C w' nb L:=⟨h.le,(hk nb h.le (BY.1 h.row).1).trans h.row,λx hx=>(h.own x hx).fa hk,h.ok⟩
theorem cJ.mono{A C nb:Nat}{w:World}{L:List Nx}(h:cJ C w nb L)(hA:A<=C):cJ A w nb L:=⟨Nat.le_trans hA h.le,h.row,λx hx=>(h.own x hx).mono hA,h.ok⟩
theorem nT{P:Program}{a:Act}{o:Oper}{W:World}(ty:TypeId)(x:Operand)(ho:o.op=.load ty x)(g:Nat)(hx:a.eval x=.pointer (some ⟨g,0,none⟩))(T:TypeId)(cs:Array Value)(fr:Nat×Nat)(d:TypeDesc)(hg:W.heap[g]?=some (.cells cs T fr))(hu:P.underlying ty=some d)(hd:(match d with | .struct _ | .array _ _=>true|_=>false)=true)(hi:(P.info? ty).map (·.size)=some cs.size):(execOp a.eval o).run P W=.ok (.value (.agg cs)) W:=by
 unfold execOp;simp only[ho,hx,Instr.loadAt,Instr.sureAddr,Sem.run_bind,Sem.run_pure,Result.andThen_ok,run_loadVar_row W g T ty cs fr d hg hu hd hi]
def tX(w:World)(t:Nt)(e:Ending)(w':World):Prop:=Below w.heap.size w w'/\∃a k c b l d,e=.returned (.tuple #[.agg #[J a k c,J b l d],U O 0])/\fF w.heap.size w' t (J a k c) (J b l d)
theorem tY{L:List Nx}{ns:List Nd}(hm:L.map (·.n)=ns){j:Nat}(hj:j<L.length):(L.getD j bX).n=ns.getD j cS:=by
 rw[<- hm,Ip,Ip,List.getElem?_map,If hj];rfl
theorem lY{k n:Nat}(h:k<n):within (k:Int) 0 ((n:Int)-1)=true:=by
 unfold within;simp;omega
end Go.Proofs.YtfidhgjmifendaaGreatDoor
