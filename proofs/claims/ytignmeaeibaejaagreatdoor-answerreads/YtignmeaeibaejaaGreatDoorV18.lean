import Derived.Test.YtignmeaeibaejaaGreatDoorV11
import Derived.Test.YtignmeaeibaejaaGreatDoorV13
import Derived.Test.YtignmeaeibaejaaGreatDoorV14
import Derived.Test.YtignmeaeibaejaaGreatDoorV15
import Derived.Test.YtignmeaeibaejaaGreatDoorV2
import Derived.Deep.AppendLies
import Derived.Shelf.SlicesE.DeleteFunc
import Derived.Shelf.SlicesE.IndexFunc
import Derived.Test.YtignmeaeibaejaaGreatDoorProg
import Derived.Test.YtignmeaeibaejaaGreatDoorV8
import Derived.Test.YtignmeaeibaejaaGreatDoorV16
import Derived.Test.YtignmeaeibaejaaGreatDoorV17
import Derived.Test.YtignmeaeibaejaaGreatDoorV3
import Derived.Lib.SplitLaws
import Derived.Lib.IndexBytes
namespace Go.Proofs.YtignmeaeibaejaaGreatDoor
open Go.RowKit
def addN (acc:List ByteArray) (n:ByteArray):List ByteArray:=if acc.any (fun y=>decide (y=n))=true then acc else acc++[n]
theorem any_mem {acc:List ByteArray} {n:ByteArray}:acc.any (fun y=>decide (y=n))=true↔n∈acc:=by simp
theorem addN_in {acc:List ByteArray} {n:ByteArray} (h:n∈acc):addN acc n=acc:=if_pos (any_mem.2 h)
theorem addN_out {acc:List ByteArray} {n:ByteArray} (h:n ∉ acc):addN acc n=acc++[n]:=if_neg (fun h2=>h (any_mem.1 h2))
def nodesP (L:List Sv.Svc):List ByteArray:=L.foldl (fun acc s=>addN acc s.node) []
theorem nodesP_snoc (L:List Sv.Svc) (s:Sv.Svc):nodesP (L++[s])=addN (nodesP L) s.node:=by simp [nodesP,List.foldl_append]
theorem snoc_ind {α:Type} {p:List α→Prop} (h0:p []) (h1:∀ l x,p l→p (l++[x])) (l:List α):p l:=by
 have h:∀ r:List α,p r.reverse:=by
  intro r
  induction r with
  | nil=>exact h0
  | cons a r ih=>rw [List.reverse_cons];exact h1 _ _ ih
 have:=h l.reverse
 rwa [List.reverse_reverse] at this
theorem addN_mem {acc:List ByteArray} {n x:ByteArray}:x∈addN acc n↔x∈acc∨x=n:=by
 by_cases h:n∈acc
 ·rw [addN_in h]
  exact ⟨.inl,fun h2=>h2.elim id (fun e=>e▸h)⟩
 ·rw [addN_out h];simp
theorem nodesP_mem (L:List Sv.Svc):∀ x,x∈nodesP L↔∃ s∈L,s.node=x:=by
 refine snoc_ind (p:=fun L=>∀ x,x∈nodesP L↔∃ s∈L,s.node=x) (by simp [nodesP]) (fun l s ih x=>?_) L
 rw [nodesP_snoc,addN_mem,ih x]
 constructor
 ·rintro (⟨y,hy,e⟩ | rfl)
  ·exact ⟨y,List.mem_append_left _ hy,e⟩
  ·exact ⟨s,by simp,rfl⟩
 ·rintro ⟨y,hy,e⟩
  rcases List.mem_append.1 hy with h | h
  ·exact .inl ⟨y,h,e⟩
  ·simp at h;subst h;exact .inr e.symm
theorem nodesP_len (L:List Sv.Svc):(nodesP L).length≤L.length:=by
 refine snoc_ind (p:=fun L=>(nodesP L).length≤L.length) (by simp [nodesP]) (fun l s ih=>?_) L
 rw [nodesP_snoc]
 by_cases hm:s.node∈nodesP l
 ·rw [addN_in hm];simp;omega
 ·rw [addN_out hm];simp;omega
def liveL (ms:List Mem) (L:List Sv.Svc):List Sv.Svc:=L.filter fun s => !outB ms s.node
def ofN (L:List Sv.Svc) (n:ByteArray):List Sv.Svc:=L.filter fun s=>decide (s.node=n)
def allN (ns:List ByteArray) (L:List Sv.Svc):List Sv.Svc:=ns.flatMap (ofN L)
def nearL (p:Pl) (wh:List Wh.Whe) (ms:List Mem) (found:List Sv.Svc):List Sv.Svc:=(allN (srt p wh (nodesP (liveL ms found))) (liveL ms found)).take 20
theorem srt_mem {p:Pl} {wh:List Wh.Whe} {ns:List ByteArray} {x:ByteArray}:x∈srt p wh ns↔x∈ns:=by
 unfold srt
 have h:=(So.insAll_ok (swoN (dV (Dd (farW p) wh wh.length))) ns ns.length).2
 rw [List.take_length] at h
 exact h.mem_iff
def qN (n here:ByteArray):Qu:=⟨⟨#[]⟩,⟨#[]⟩,n,here⟩
def rec1 (name here:ByteArray) (t:Int) (s:Sv.Svc):Rc.Rec:=
 ⟨name,t,0,if t=1 then s.addr else 0,if t=16 then s.idn else ⟨#[]⟩,if t=33 then s.port else 0,if t=33 then prS (qN s.node here) else ⟨#[]⟩⟩
def recE (here:ByteArray) (t:Int) (s:Sv.Svc):Int:=if t=33 then prE (qN s.node here) else 0
def recsE (here:ByteArray) (t:Int):List Sv.Svc→Int
 | []=>0
 | s :: r=>if recE here t s=0 then recsE here t r else recE here t s
theorem recsE_all {here:ByteArray} {t:Int}:∀ {L:List Sv.Svc},(∀ j,j < L.length→recE here t (L.getD j Sv.dm)=0)→recsE here t L=0
 | [],_=>rfl
 | s :: r,h=>by
   have h0:=h 0 (by simp)
   simp at h0
   rw [recsE,if_pos h0]
   exact recsE_all fun j hj=>by have:=h (j+1) (by simpa using hj);simpa using this
theorem recsE_at {here:ByteArray} {t:Int}:∀ {L:List Sv.Svc} {k:Nat},k < L.length→(∀ j,j < k→recE here t (L.getD j Sv.dm)=0)→recE here t (L.getD k Sv.dm)≠0→recsE here t L=recE here t (L.getD k Sv.dm)
 | [],k,hk,_,_=>by simp at hk
 | s :: r,0,_,_,h=>by
   simp at h
   rw [recsE,if_neg h];simp
 | s :: r,k+1,hk,h,h2=>by
   have h0:=h 0 (by simp)
   simp at h0
   rw [recsE,if_pos h0]
   have:=recsE_at (L:=r) (k:=k) (by simpa using hk) (fun j hj=>by have:=h (j+1) (by omega);simpa using this) (by simpa using h2)
   simpa using this
structure Ans where
 rs:List Rc.Rec
 code:Int
 e:Int
def ofSv (q:Qu) (t:Int) (here:ByteArray) (sv:List Sv.Svc) (ms:List Mem) (p:Pl) (wh:List Wh.Whe):Ans:=
 if Sv.findL sv q.service ⟨#[]⟩=[] then ⟨[],3,0⟩
 else if recsE here t (nearL p wh ms (Sv.findL sv q.service q.tag))=0 then ⟨(nearL p wh ms (Sv.findL sv q.service q.tag)).map (rec1 (prS q) here t),0,0⟩
 else ⟨[],0,recsE here t (nearL p wh ms (Sv.findL sv q.service q.tag))⟩
def ofNd (q:Qu) (t:Int) (ms:List Mem):Ans:=
 if (mOf ms q.node).state=1∨(mOf ms q.node).state=2 then (if t=1 then ⟨[⟨prS q,1,0,(mOf ms q.node).addr,⟨#[]⟩,0,⟨#[]⟩⟩],0,0⟩ else ⟨[],0,0⟩) else ⟨[],3,0⟩
def anS (q:Qu) (t:Int) (here:ByteArray) (sv:List Sv.Svc) (ms:List Mem) (p:Pl) (wh:List Wh.Whe):Ans:=
 if prE q=0 then (if q.centre.size≠0∧q.centre≠here then ⟨[],3,0⟩ else if q.node.size≠0 then ofNd q t ms else ofSv q t here sv ms p wh) else ⟨[],0,prE q⟩
def plE (p:Pl) (wh:List Wh.Whe):Int:=if 20 < wh.length then 2 else chkPs (p :: (plcs wh).map toPl)
def knE (here:ByteArray) (sv:List Sv.Svc) (ms:List Mem) (p:Pl) (wh:List Wh.Whe):Int:=
 if labB here=true then (if Sv.chk sv=0 then (if chk ms=0 then plE p wh else chk ms) else Sv.chk sv) else 1
theorem near_len (p:Pl) (wh:List Wh.Whe) (ms:List Mem) (L:List Sv.Svc):(nearL p wh ms L).length≤20:=by unfold nearL;exact List.length_take_le _ _
theorem near_mem {p:Pl} {wh:List Wh.Whe} {ms:List Mem} {L:List Sv.Svc} {s:Sv.Svc} (h:s∈nearL p wh ms L):s∈L∧outB ms s.node=false:=by
 unfold nearL allN at h
 have h1:=List.mem_of_mem_take h
 obtain ⟨n,_,h2⟩:=List.mem_flatMap.1 h1
 have h3:=(List.mem_filter.1 h2).1
 have h4:=List.mem_filter.1 h3
 exact ⟨h4.1,by simpa using h4.2⟩
end Go.Proofs.YtignmeaeibaejaaGreatDoor
namespace Go.Proofs.YtignmeaeibaejaaGreatDoor
open Go.RowKit Go.WideMaps Go.Maps
def rawE (v:Value):Option (DataW Value × List MemPlace):=some (.held v,[])
def MapIs (w:World) (b n:Nat) (M:ByteArray→Value):Prop:=∃ D:DataW Value,w.ownsMap Tryz.prog 9 rawE b n D∧∀ s,D.atKey (kS s) (.held (.slice none 0 0))=.held (M s)
def updM (M:ByteArray→Value) (s:ByteArray) (v:Value):ByteArray→Value:=fun x=>if x=s then v else M x
theorem updM_same (M:ByteArray→Value) (s:ByteArray) (v:Value):updM M s v s=v:=if_pos rfl
theorem updM_other (M:ByteArray→Value) {s x:ByteArray} (v:Value) (h:x≠s):updM M s v x=M x:=if_neg h
theorem law9k:Keyed Tryz.prog 9:=string_keyed Tryz.underlying9
theorem zeroSs (w:World):(zeroValue 22).run Tryz.prog w=.ok (.slice none 0 0) w:=by kernel_rfl
theorem mapIs_made (w:World):MapIs (w.alloc (.map #[] 0)) w.heap.size 0 (fun _=>.slice none 0 0):=⟨.map [],World.ownsMap_made w Tryz.prog 9 rawE,fun s=>by simp [DataW.atKey]⟩
theorem MapIs.kept {w w':World} {b n:Nat} {M:ByteArray→Value} {row:Option Nat} (h:MapIs w b n M) (hg:w.grownBy w' row) (hne:some b≠row):MapIs w' b n M:=by
 obtain ⟨D,h1,h2⟩:=h
 exact ⟨D,h1.kept hg hne,h2⟩
theorem MapIs.lt {w:World} {b n:Nat} {M:ByteArray→Value} (h:MapIs w b n M):b < w.heap.size:=by
 obtain ⟨D,h1,h2⟩:=h
 exact h1.lt
theorem MapIs.below {w w':World} {b n:Nat} {M:ByteArray→Value} (h:MapIs w b n M) (hb:Below w.heap.size w w'):MapIs w' b n M:=by
 have hl:=h.lt
 obtain ⟨D,⟨es,clock,h1,h3⟩,h2⟩:=h
 exact ⟨D,⟨es,clock,(hb.block b hl).trans h1,h3⟩,h2⟩
theorem MapIs.look {w:World} {b n:Nat} {M:ByteArray→Value} (h:MapIs w b n M) {s:ByteArray} (hs:s.size≤maxLen):(Instr.lookup 166 (.map (some b)) (.string s) false).run Tryz.prog w=.ok (M s) w:=by
 obtain ⟨D,h1,h2⟩:=h
 obtain ⟨v,ps,hrun,hv⟩:=h1.lookup law9k Tryz.underlying166 (zeroSs w) (show rawE (.slice none 0 0)=some (.held (.slice none 0 0),[]) from rfl) (keyOf_string_mk Tryz.underlying9 hs)
 have e:v=M s:=by
  have h3:(DataW.held v:DataW Value)=D.atKey (kS s) (.held (.slice none 0 0)):=by
   simp only [rawE,Option.some.injEq,Prod.mk.injEq] at hv
   exact hv.1
  rw [h2 s] at h3
  injection h3
 rw [hrun,e]
theorem MapIs.put {w:World} {b n:Nat} {M:ByteArray→Value} (h:MapIs w b n M) (hn:n < maxLen) {s:ByteArray} (hs:s.size≤maxLen) (v:Value):∃ w',(Instr.mapUpdate 166 (.map (some b)) (.string s) v).run Tryz.prog w=.ok () w'∧MapIs w' b (n+1) (updM M s v)∧w.grownBy w' (some b):=by
 obtain ⟨D,h1,h2⟩:=h
 obtain ⟨w',hrun,ho,hg⟩:=h1.update law9k Tryz.underlying166 hn (keyOf_string_mk Tryz.underlying9 hs) (show rawE v=some (.held v,[]) from rfl)
 refine ⟨w',hrun,⟨_,ho,fun x=>?_⟩,hg⟩
 by_cases e:x=s
 ·subst e
  rw [updM_same]
  exact atKey_put_same h1.isMap (kS_key _) _ _
 ·rw [updM_other M v e]
  exact (atKey_put_other (kS_ne e) _ _).trans (h2 x)
structure Grp (B:Nat) (w:World) (mb n:Nat) (vn:Value) (M:ByteArray→Value) (ns:List ByteArray) (L:List Sv.Svc):Prop where
 map:MapIs w mb n M
 nodes:OwnS B w vn ns
 rows:∀ s,Sv.Own B w (M s) (ofN L s)
 apart:∀ s t,s≠t→(M s).ownBlock=none∨(M s).ownBlock≠(M t).ownBlock
 off:∀ s,(M s).ownBlock=none∨(M s).ownBlock≠vn.ownBlock
 base:mb < B
theorem grp_made (w:World):Grp (w.heap.size+1) (w.alloc (.map #[] 0)) w.heap.size 0 (.slice none 0 0) (fun _=>.slice none 0 0) [] []:=
 ⟨mapIs_made w,World.ownsRow_nil _ _ _ _,fun _=>Sv.own_nil _ _,fun _ _ _=>.inl rfl,fun _=>.inl rfl,Nat.lt_succ_self _⟩
theorem Grp.below {B:Nat} {w w':World} {mb n:Nat} {vn:Value} {M:ByteArray→Value} {ns:List ByteArray} {L:List Sv.Svc} (h:Grp B w mb n vn M ns L) (hb:Below w.heap.size w w'):Grp B w' mb n vn M ns L:=
 ⟨h.map.below hb,OwnS.below h.nodes hb,fun s=>(h.rows s).below hb,h.apart,h.off,h.base⟩
theorem Grp.more {B:Nat} {w:World} {mb n n':Nat} {vn:Value} {M:ByteArray→Value} {ns:List ByteArray} {L:List Sv.Svc} (h:Grp B w mb n vn M ns L) (hn:n≤n'):Grp B w mb n' vn M ns L:=by
 obtain ⟨⟨D,h1,h2⟩,h3,h4,h5,h6,h7⟩:=h
 exact ⟨⟨D,h1.mono hn,h2⟩,h3,h4,h5,h6,h7⟩
theorem off_block {B mb:Nat} {w:World} {v:Value} {t:TypeId} {k n:Nat} {xs:List Value} (h:w.ownsRow B t k v n xs) (hb:mb < B):v.ownBlock=none∨v.ownBlock≠some mb:=by
 cases e:v.ownBlock with
 | none=>exact .inl rfl
 | some g=>exact .inr (fun e2=>by have:=(World.ownsRow.lt h g e).1;cases e2;omega)
theorem Grp.node {B:Nat} {w w':World} {mb n:Nat} {vn v':Value} {M:ByteArray→Value} {ns:List ByteArray} {L:List Sv.Svc} (h:Grp B w mb n vn M ns L) (x:ByteArray)
 (r1:w'.ownsRow B 9 1 v' (ns.length+1) (ns.map Value.string++[.string x])) (r2:w.grownBy w' vn.ownBlock) (r4:v'.ownBlock=vn.ownBlock∨∃ g,v'.ownBlock=some g∧w.heap.size≤g):Grp B w' mb n v' M (ns++[x]) L:=by
 refine ⟨h.map.kept r2 (fun e=>?_),ownS_snoc r1,fun s=>(h.rows s).kept r2 (h.off s),h.apart,fun s=>?_,h.base⟩
 ·rcases off_block h.nodes h.base with h1 | h1
  ·rw [h1] at e;cases e
  ·exact h1 e.symm
 ·rcases r4 with e | ⟨g,e,hg⟩
  ·rw [e];exact h.off s
  ·rw [e]
   cases e2:(M s).ownBlock with
   | none=>exact .inl rfl
   | some k=>exact .inr (fun e3=>by have:=(World.ownsRow.lt (h.rows s) k e2).2;cases e3;omega)
theorem ofN_snoc_same (L:List Sv.Svc) (x:Sv.Svc):ofN (L++[x]) x.node=ofN L x.node++[x]:=by simp [ofN,List.filter_append]
theorem ofN_snoc_other (L:List Sv.Svc) (x:Sv.Svc) {s:ByteArray} (h:s≠x.node):ofN (L++[x]) s=ofN L s:=by
 have h2:decide (x.node=s)=false:=by simpa using Ne.symm h
 simp [ofN,List.filter_append,h2]
theorem Grp.put {B:Nat} {w w5:World} {mb n:Nat} {vn v':Value} {M:ByteArray→Value} {ns:List ByteArray} {L:List Sv.Svc} (h:Grp B w mb n vn M ns L) (x:Sv.Svc) (hx:x.node.size≤maxLen) (hn:n < maxLen)
 (r1:Sv.Own B w5 v' (ofN L x.node++[x])) (r2:w.grownBy w5 (M x.node).ownBlock) (r4:v'.ownBlock=(M x.node).ownBlock∨∃ g,v'.ownBlock=some g∧w.heap.size≤g) :
 ∃ w6,(Instr.mapUpdate 166 (.map (some mb)) (.string x.node) v').run Tryz.prog w5=.ok () w6∧Grp B w6 mb (n+1) vn (updM M x.node v') ns (L++[x])∧w5.grownBy w6 (some mb):=by
 have hm5:MapIs w5 mb n M:=h.map.kept r2 (fun e=>by
  rcases off_block (h.rows x.node) h.base with h1 | h1
  ·rw [h1] at e;cases e
  ·exact h1 e.symm)
 obtain ⟨w6,hrun,hm6,hg6⟩:=hm5.put hn hx v'
 have hnew:∀ (u:Value) (t:TypeId) (k m:Nat) (xs:List Value),w.ownsRow B t k u m xs→(u.ownBlock=none∨u.ownBlock≠(M x.node).ownBlock)→(u.ownBlock=none∨u.ownBlock≠v'.ownBlock):=fun u t k m xs ho hne=>by
  rcases r4 with e | ⟨g,e,hg⟩
  ·rw [e];exact hne
  ·rw [e]
   cases e2:u.ownBlock with
   | none=>exact .inl rfl
   | some j=>exact .inr (fun e3=>by have:=(World.ownsRow.lt ho j e2).2;cases e3;omega)
 have hvn:vn.ownBlock=none∨vn.ownBlock≠(M x.node).ownBlock:=by
  cases e:vn.ownBlock with
  | none=>exact .inl rfl
  | some j=>
    refine .inr (fun e2=>?_)
    rcases h.off x.node with h1 | h1
    ·rw [h1] at e2;cases e2
    ·exact h1 (e2.symm.trans e.symm)
 refine ⟨w6,hrun,⟨hm6,?_,fun s=>?_,fun s t hst=>?_,fun s=>?_,h.base⟩,hg6⟩
 ·exact (World.ownsRow.kept h.nodes r2 hvn).kept hg6 (off_block (World.ownsRow.kept h.nodes r2 hvn) h.base)
 ·by_cases e:s=x.node
  ·subst e
   rw [updM_same,ofN_snoc_same]
   exact World.ownsRow.kept r1 hg6 (off_block r1 h.base)
  ·rw [updM_other M v' e,ofN_snoc_other L x e]
   have h5:w5.ownsRow B 57 9 (M s) (ofN L s).length (Sv.fl (ofN L s)):=World.ownsRow.kept (h.rows s) r2 (h.apart s x.node e)
   exact World.ownsRow.kept h5 hg6 (off_block h5 h.base)
 ·by_cases e:s=x.node
  ·subst e
   rw [updM_same,updM_other M v' (Ne.symm hst)]
   cases e2:v'.ownBlock with
   | none=>exact .inl rfl
   | some j=>
     refine .inr (fun e3=>?_)
     rcases hnew (M t) _ _ _ _ (h.rows t) (h.apart t x.node (Ne.symm hst)) with h1 | h1
     ·rw [h1] at e3;cases e3
     ·exact h1 (e3.symm.trans e2.symm)
  ·by_cases e2:t=x.node
   ·subst e2
    rw [updM_same,updM_other M v' e]
    exact hnew (M s) _ _ _ _ (h.rows s) (h.apart s x.node e)
   ·rw [updM_other M v' e,updM_other M v' e2]
    exact h.apart s t hst
 ·by_cases e:s=x.node
  ·subst e
   rw [updM_same]
   cases e2:v'.ownBlock with
   | none=>exact .inl rfl
   | some j=>
     refine .inr (fun e3=>?_)
     rcases hnew vn _ _ _ _ h.nodes hvn with h1 | h1
     ·rw [h1] at e3;cases e3
     ·exact h1 (e3.symm.trans e2.symm)
  ·rw [updM_other M v' e]
   exact h.off s
end Go.Proofs.YtignmeaeibaejaaGreatDoor
namespace Go.Proofs
open Go.Shelf
def Tryz.delS_ren:Go.Shelf.Ren:=⟨fun | 10=>130 | 6=>145 | n=>n,fun | 22=>81 | 23=>9 | 25=>66 | 3=>3 | 4=>4 | 0=>0 | n=>n,fun | n=>n⟩
theorem Tryz.delS:Go.Proofs.SlLaysH.n10 Tryz.prog Tryz.delS_ren:={
 mixed:=by kernel_rfl
 f6:=⟨Tryz.f145.name,by decide,Tryz.func145.trans (congrArg some (by kernel_rfl))⟩
 f10:=⟨Tryz.f130.name,by decide,Tryz.func130.trans (congrArg some (by kernel_rfl))⟩
 t0:=Tryz.underlying0
 a0:=Tryz.isAgg0
 z0:=Tryz.sizeOf0
 v0:=Tryz.zeroValue0
 t3:=Tryz.underlying3
 a3:=Tryz.isAgg3
 z3:=Tryz.sizeOf3
 v3:=Tryz.zeroValue3
 t4:=Tryz.underlying4
 a4:=Tryz.isAgg4
 z4:=Tryz.sizeOf4
 v4:=Tryz.zeroValue4
 t22:=Tryz.underlying81
 a22:=Tryz.isAgg81
 z22:=Tryz.sizeOf81
 v22:=Tryz.zeroValue81
 a23:=Tryz.isAgg9
 z23:=Tryz.sizeOf9
 t25:=Tryz.underlying66
 a25:=Tryz.isAgg66
 z25:=Tryz.sizeOf66
 v25:=Tryz.zeroValue66 }
def Tryz.ixS_ren:Go.Shelf.Ren:=⟨fun | 6=>145 | n=>n,fun | 22=>81 | 23=>9 | 25=>66 | 3=>3 | 0=>0 | 4=>4 | n=>n,fun | n=>n⟩
theorem Tryz.ixS:Go.Proofs.SlLaysH.n6 Tryz.prog Tryz.ixS_ren:={
 mixed:=by kernel_rfl
 f6:=⟨Tryz.f145.name,by decide,Tryz.func145.trans (congrArg some (by kernel_rfl))⟩
 t0:=Tryz.underlying0
 a0:=Tryz.isAgg0
 z0:=Tryz.sizeOf0
 v0:=Tryz.zeroValue0
 t3:=Tryz.underlying3
 a3:=Tryz.isAgg3
 z3:=Tryz.sizeOf3
 v3:=Tryz.zeroValue3
 t4:=Tryz.underlying4
 a4:=Tryz.isAgg4
 z4:=Tryz.sizeOf4
 v4:=Tryz.zeroValue4
 t22:=Tryz.underlying81
 a22:=Tryz.isAgg81
 z22:=Tryz.sizeOf81
 v22:=Tryz.zeroValue81
 a23:=Tryz.isAgg9
 z23:=Tryz.sizeOf9
 t25:=Tryz.underlying66
 a25:=Tryz.isAgg66
 z25:=Tryz.sizeOf66
 v25:=Tryz.zeroValue66 }
end Go.Proofs
namespace Go.Proofs.YtignmeaeibaejaaGreatDoor
open Go.RowKit Go.Shelf Go.Lib Go.Sort
theorem isEmp_gives (x:ByteArray) (W:World):FnGives Tryz.prog 129 #[] #[.string x] (.bool (decide (x.size=0))) W:=by
 show Calls Tryz.prog 129 #[.string x] W _
 by_cases h:x.size=0
 ·have e:=isempty h
  subst e
  go_enter Tryz.func129,Tryz.ntmps129
  go_wp2_with fail
  go_ret
  exact ⟨rfl,0,rfl⟩
 ·obtain ⟨n1,n2⟩:=nempty h
  rw [show decide (x.size=0)=false by simpa using h]
  clear h
  go_enter Tryz.func129,Tryz.ntmps129
  go_wp2_with fail
  go_ret
  exact ⟨rfl,0,rfl⟩
theorem zero9:∀ w,(zeroValue 9).run Tryz.prog w=.ok (Value.string (⟨#[]⟩:ByteArray)) w:=Tryz.zeroValue9
theorem put_block {α:Type} [Inhabited α] (enc:α→Value) (w:World) (q blk off g:Nat) (d:Array α) (hne:g≠blk):(putRow enc (Sort.ahead w q) blk off d).heap[g]?=w.heap[g]?:=by
 show (w.heap.modify blk _)[g]?=_
 rw [Array.getElem?_modify,if_neg (Ne.symm hne)]
theorem below_put {α:Type} [Inhabited α] (enc:α→Value) (w:World) (q blk off B:Nat) (d:Array α) (hB:B≤blk):Below B w (putRow enc (Sort.ahead w q) blk off d):=
 ⟨rfl,rfl,rfl,by simp [Sort.ahead],fun k hk=>put_block enc w q blk off k d (by omega)⟩
theorem join_jn:∀ (xs:List (List UInt8)),Lib.join xs [46]=jn xs
 | []=>rfl
 | [x]=>by simp [Lib.join,jn]
 | x :: y :: r=>by
   have ih:=join_jn (y :: r)
   simp [Lib.join,jn] at ih ⊢
   first | exact ih | simp [ih]
set_option maxHeartbeats 1600000 in
theorem qjoin_any (xs:List ByteArray) (w:World) (g:Nat) (hg:w.heap[g]?=some (.cells (xs.map Value.string).toArray 9 (0,0))) (hn:xs.length≤10) (hz:(jn ((xs.filter fun x => !decide (x.size=0)).map bytes)).length≤1000) :
 Calls Tryz.prog 107 #[.slice (some ⟨g,0,none⟩) xs.length xs.length] w fun e w'=>e=.returned (.string (mk (jn ((xs.filter fun x => !decide (x.size=0)).map bytes))))∧Below g w w':=by
 have eg:∀ args w,(callFunc 129 args).run Tryz.prog w=.ok (.enter 129 args) w:=enters_of Tryz.func129 (by kernel_rfl) rfl
 have hlt:g < w.heap.size:=(Array.getElem?_eq_some_iff.1 hg).1
 have hH:Holds Value.string w g 0 xs.toArray:=fun j hj=>by
  have hj2:j < xs.length:=by simpa using hj
  refine ⟨?_,?_⟩
  ·rw [Nat.zero_add,cellsAt hg]
   simp [hj2]
  ·simp [World.frozen?,hg]
 have hcon:=AnyE.slices_DeleteFunc (P:=Tryz.prog) (ρ:=Tryz.delS_ren) Tryz.delS Value.string (fun _=>rfl) (fun x:ByteArray=>decide (x.size=0)) 129 #[] eg ⟨#[]⟩ zero9 g 0 xs.length xs.toArray w (fun W x _=>isEmp_gives x W) (fun n os dk x _=>isEmp_gives x _) hH (by simp;omega) (by simp)
 change Calls Tryz.prog 130 _ _ _ at hcon
 simp only [List.size_toArray] at hcon
 have HFL:Hid ((xs.filter fun x => !decide (x.size=0)).length≤xs.length):=List.length_filter_le _ _
 generalize hF:(xs.filter fun x => !decide (x.size=0))=F at *
 have HCE:Hid (∀ q j,j < F.length→(putRow Value.string (Sort.ahead w q) g 0 (F++List.replicate (xs.length - F.length) (⟨#[]⟩:ByteArray)).toArray).cell? ⟨g,0+j,none⟩=some (.string (F.getD j ByteArray.empty))):=fun q j hj=>by
  have hsz:((F++List.replicate (xs.length - F.length) (⟨#[]⟩:ByteArray)).toArray).size=xs.toArray.size:=by simp;have:=HFL.out;omega
  have h:=cell?_putRow Value.string (Sort.ahead w q) g 0 xs.toArray _ (fun j hj=>hH j hj) hsz j (by rw [hsz];simp;have:=HFL.out;omega)
  rw [h]
  simp [List.getD,hj,List.getElem?_append_left hj]
 have HBP:Hid (∀ q,Below g w (putRow Value.string (Sort.ahead w q) g 0 (F++List.replicate (xs.length - F.length) (⟨#[]⟩:ByteArray)).toArray)):=fun q=>below_put _ _ _ _ _ _ _ (Nat.le_refl _)
 have HCON:Hid (Calls Tryz.prog 130 #[.slice (some ⟨g,0,none⟩) xs.length xs.length,.func (.func 129) #[] #[]] w fun e w'=>e=.returned (.slice (some ⟨g,0,none⟩) F.length xs.length)∧Hid (∀ j,j < F.length→w'.cell? ⟨g,0+j,none⟩=some (.string (F.getD j ByteArray.empty)))∧Hid (Below g w w')∧g < w'.heap.size):=(show Calls _ _ _ _ _ by
  refine hcon.mono ?_
  rintro e w' ⟨rfl,q,rfl⟩
  exact ⟨rfl,HCE.out q,HBP.out q,by rw [size_putRow];exact hlt⟩)
 have HJ:Hid (∀ W,(∀ j,j < F.length→W.cell? ⟨g,0+j,none⟩=some (.string (F.getD j ByteArray.empty)))→g < W.heap.size→Calls Tryz.prog 94 #[.slice (some ⟨g,0,none⟩) F.length xs.length,.string ⟨#[46]⟩] W fun e w'=>e=.returned (.string (mk (jn (F.map bytes))))∧Below W.heap.size W w'):=fun W h1 h2=>by
  have h3:=Tryz.strings_Join g 0 xs.length F ⟨#[46]⟩ W (fun j x hj=>by
   obtain ⟨hj1,hj2⟩:=List.getElem?_eq_some_iff.1 hj
   rw [h1 j hj1]
   simp [List.getD,hj1,hj2]) h2 (by have:=HFL.out;omega) HFL.out (by
   rw [show (ByteArray.mk #[46]).data.toList=[46] from rfl,join_jn]
   exact Nat.le_trans hz (by omega))
  rw [show (ByteArray.mk #[46]).data.toList=[46] from rfl,join_jn] at h3
  exact h3
 clear hcon HCE HBP hg hH hz eg
 generalize mk (jn (F.map bytes))=R at *
 generalize F.length=fl at *
 generalize xs.length=n at *
 go_enter Tryz.func107,Tryz.ntmps107
 go_wp2_with (first | (go_at_call 130;refine HCON.out.mono ?_;rintro e w1 ⟨rfl,HC1,HB1,hl1⟩) | (go_at_call 94;refine (HJ.out _ HC1.out hl1).mono ?_;rintro e w2 ⟨rfl,hb2⟩))
 go_ret
 exact ⟨rfl,HB1.out.trans (hb2.mono (Nat.le_of_lt hl1))⟩
end Go.Proofs.YtignmeaeibaejaaGreatDoor
namespace Go.Proofs.YtignmeaeibaejaaGreatDoor
open Go.RowKit
theorem jn_le:∀ (xs:List (List UInt8)),(∀ x∈xs,x.length≤30)→(jn xs).length≤31 * xs.length
 | [],_=>by simp [jn]
 | [x],h=>by have:=h x List.mem_cons_self;simp [jn];omega
 | x :: y :: r,h=>by
   have h1:=h x List.mem_cons_self
   have h2:=jn_le (y :: r) (fun z hz=>h z (List.mem_cons_of_mem _ hz))
   show (x++46 :: jn (y :: r)).length≤_
   simp only [List.length_append,List.length_cons] at h2 ⊢
   omega
theorem fil_cons (s:ByteArray) (r:List ByteArray):(((s :: r).filter fun x => !decide (x.size=0)).map bytes)=opt s++(r.filter fun x => !decide (x.size=0)).map bytes:=by
 by_cases h:s.size=0
 ·rw [opt_none h,List.filter_cons_of_neg (by simp [h])];rfl
 ·rw [opt_full h,List.filter_cons_of_pos (by simp [h])];rfl
theorem fil5 (sv tg ce:ByteArray):(([tg,sv,bServ,ce,bMesh].filter fun x => !decide (x.size=0)).map bytes)=opt tg++(opt sv++([lServ]++(opt ce++[lMesh]))):=by
 rw [fil_cons,fil_cons,fil_cons,fil_cons,fil_cons];rfl
theorem fil4 (nd ce:ByteArray):(([nd,bNode,ce,bMesh].filter fun x => !decide (x.size=0)).map bytes)=opt nd++([lNode]++(opt ce++[lMesh])):=by
 rw [fil_cons,fil_cons,fil_cons,fil_cons];rfl
theorem opt_le {s:ByteArray} (h:s.size≤30):∀ x∈opt s,x.length≤30:=fun x hx=>by
 unfold opt at hx
 split at hx
 ·cases hx
 ·simp at hx;subst hx;simpa [bytes] using h
theorem opt_len (s:ByteArray):(opt s).length≤1:=by unfold opt;split<;>simp
theorem len5 {sv tg ce:ByteArray} (h1:sv.size≤30) (h2:tg.size≤30) (h3:ce.size≤30):(jn (opt tg++(opt sv++([lServ]++(opt ce++[lMesh]))))).length≤155:=by
 refine Nat.le_trans (jn_le _ fun x hx=>?_) ?_
 ·simp only [List.mem_append,List.mem_singleton] at hx
  rcases hx with h | h | h | h | h
  ·exact opt_le h2 x h
  ·exact opt_le h1 x h
  ·subst h;decide
  ·exact opt_le h3 x h
  ·subst h;decide
 ·have a:=opt_len tg;have b:=opt_len sv;have c:=opt_len ce
  simp only [List.length_append,List.length_singleton];omega
theorem len4 {nd ce:ByteArray} (h1:nd.size≤30) (h3:ce.size≤30):(jn (opt nd++([lNode]++(opt ce++[lMesh])))).length≤155:=by
 refine Nat.le_trans (jn_le _ fun x hx=>?_) ?_
 ·simp only [List.mem_append,List.mem_singleton] at hx
  rcases hx with h | h | h | h
  ·exact opt_le h1 x h
  ·subst h;decide
  ·exact opt_le h3 x h
  ·subst h;decide
 ·have a:=opt_len nd;have c:=opt_len ce
  simp only [List.length_append,List.length_singleton];omega
theorem join5 (sv tg ce:ByteArray) (W:World) (g:Nat) (hg:W.heap[g]?=some (.cells #[.string tg,.string sv,.string bServ,.string ce,.string bMesh] 9 (0,0))) (h1:sv.size≤30) (h2:tg.size≤30) (h3:ce.size≤30) :
 Calls Tryz.prog 107 #[.slice (some ⟨g,0,none⟩) 5 5] W fun e w'=>e=.returned (.string (mk (jn (opt tg++(opt sv++([lServ]++(opt ce++[lMesh])))))))∧Below g W w':=by
 have h:=qjoin_any [tg,sv,bServ,ce,bMesh] W g hg (by simp) (by rw [fil5];exact Nat.le_trans (len5 h1 h2 h3) (by omega))
 rw [fil5] at h
 exact h
theorem join4 (nd ce:ByteArray) (W:World) (g:Nat) (hg:W.heap[g]?=some (.cells #[.string nd,.string bNode,.string ce,.string bMesh] 9 (0,0))) (h1:nd.size≤30) (h3:ce.size≤30) :
 Calls Tryz.prog 107 #[.slice (some ⟨g,0,none⟩) 4 4] W fun e w'=>e=.returned (.string (mk (jn (opt nd++([lNode]++(opt ce++[lMesh]))))))∧Below g W w':=by
 have h:=qjoin_any [nd,bNode,ce,bMesh] W g hg (by simp) (by rw [fil4];exact Nat.le_trans (len4 h1 h3) (by omega))
 rw [fil4] at h
 exact h
theorem prt_size {q:Qu} (h:chkQ q=0):(prt q).size≤155:=by
 obtain ⟨_,z1,z2,z3,z4,_⟩:=chkQ_zero h
 unfold prt pLabs
 rw [mk_size]
 split
 ·exact len5 (labE_size z1) (labE_size z2) (labE_size z4)
 ·exact len4 (labE_size z3) (labE_size z4)
set_option maxHeartbeats 3200000 in
set_option maxRecDepth 100000 in
theorem print_any (q:Qu) (w:World) (hq:q.ok) :
 Calls Tryz.prog 83 #[.agg #[.string q.service,.string q.tag,.string q.node,.string q.centre]] w fun e w'=>e=.returned (.tuple #[.string (prS q),.int .i64 (prE q)])∧Below w.heap.size w w':=by
 have HCQ:Hid (∀ W,Calls Tryz.prog 82 #[.agg #[.string q.service,.string q.tag,.string q.node,.string q.centre]] W fun e w'=>e=.returned (.int .i64 (chkQ q))∧Below W.heap.size W w'):=fun W=>qCheck_any q W hq
 by_cases h0:chkQ q=0
 ·obtain ⟨_,z1,z2,z3,z4,_⟩:=chkQ_zero h0
  have y1:=labE_size z1
  have y2:=labE_size z2
  have y3:=labE_size z3
  have y4:=labE_size z4
  have hps:=prt_size h0
  have HJ5:Hid (∀ (W:World) (g:Nat),W.heap[g]?=some (.cells #[.string q.tag,.string q.service,.string bServ,.string q.centre,.string bMesh] 9 (0,0))→Calls Tryz.prog 107 #[.slice (some ⟨g,0,none⟩) 5 5] W fun e w'=>e=.returned (.string (mk (jn (opt q.tag++(opt q.service++([lServ]++(opt q.centre++[lMesh])))))))∧Below g W w'):=fun W g h=>join5 _ _ _ W g h y1 y2 y4
  have HJ4:Hid (∀ (W:World) (g:Nat),W.heap[g]?=some (.cells #[.string q.node,.string bNode,.string q.centre,.string bMesh] 9 (0,0))→Calls Tryz.prog 107 #[.slice (some ⟨g,0,none⟩) 4 4] W fun e w'=>e=.returned (.string (mk (jn (opt q.node++([lNode]++(opt q.centre++[lMesh]))))))∧Below g W w'):=fun W g h=>join4 _ _ W g h y3 y4
  have HDC:Hid (∀ W,Calls Tryz.prog 86 #[.string (prt q)] W fun e w'=>e=.returned (.int .i64 (chkN (prt q)))∧Below W.heap.size W w'):=fun W=>dnsCheck_any _ W (by unfold maxLen;omega)
  have HE:Hid (prE q=chkN (prt q)):=if_pos h0
  have HS:Hid (prS q=if prE q=0 then prt q else ⟨#[]⟩):=rfl
  have HP:Hid (prt q=if q.node.size=0 then mk (jn (opt q.tag++(opt q.service++([lServ]++(opt q.centre++[lMesh]))))) else mk (jn (opt q.node++([lNode]++(opt q.centre++[lMesh]))))):=(show prt q=_ by unfold prt pLabs;split<;>rfl)
  rw [h0] at HCQ
  generalize mk (jn (opt q.tag++(opt q.service++([lServ]++(opt q.centre++[lMesh])))))=N5 at *
  generalize mk (jn (opt q.node++([lNode]++(opt q.centre++[lMesh]))))=N4 at *
  generalize prS q=S at *
  generalize hce:chkN (prt q)=ce' at *
  generalize prt q=T at *
  generalize prE q=E at *
  clear h0 hq hce z1 z2 z3 z4 y1 y2 y3 y4 hps
  obtain ⟨sv,tg,nd,ce⟩:=q
  simp only at HCQ HJ5 HJ4 HP ⊢
  go_enter Tryz.func83,Tryz.ntmps83
  go_wp2_with fail
  refine (HCQ.out _).mono ?_
  rintro e w1 ⟨rfl,hb1⟩
  obtain ⟨f0,f1,f2,f3,HB1,hl1⟩:=qbox hb1
  clear hb1
  go_wp2_with fail
  refine (HJ5.out _ _ (new_at _ rfl)).mono ?_
  rintro e w2 ⟨rfl,hb2⟩
  have HB2:Hid (Below w1.heap.size w1 w2):=((Below.refl _ _).alloc (Nat.le_refl _) _).trans hb2
  have g0:=(HB2.out.cell (p:=⟨w.heap.size,0,none⟩) hl1).trans f0
  have g1:=(HB2.out.cell (p:=⟨w.heap.size,1,none⟩) hl1).trans f1
  have g2:=(HB2.out.cell (p:=⟨w.heap.size,2,none⟩) hl1).trans f2
  have g3:=(HB2.out.cell (p:=⟨w.heap.size,3,none⟩) hl1).trans f3
  have hl2:w1.heap.size≤w2.heap.size:=HB2.out.size
  clear f0 f1 f2 f3 hb2
  by_cases hn:nd.size=0
  ·have HT:N5=T:=by rw [HP.out,if_pos hn]
   subst HT
   have en:=isempty hn
   subst en
   clear hn HP
   go_wp2_with fail
   refine (HDC.out _).mono ?_
   rintro e w4 ⟨rfl,hb4⟩
   have HBT:Hid (Below w.heap.size w w4):=(HB1.out.trans (HB2.out.mono (Nat.le_of_lt hl1))).trans (hb4.mono (by omega))
   clear hb4
   by_cases hz:ce'=0
   ·have HS2:Hid (S=N5):=prS_ret HS.out (by rw [HE.out];exact hz)
    subst hz
    go_wp2_with fail
    go_ret2
    exact ⟨ret2_eq HS2.out.symm HE.out.symm,HBT.out⟩
   ·have HS2:Hid (S=⟨#[]⟩):=(show S=⟨#[]⟩ by rw [HS.out,if_neg (by rw [HE.out];exact hz)])
    have hz2:(ce' == 0)=false:=by simpa using hz
    go_wp2_with fail
    go_ret2
    exact ⟨ret2_eq HS2.out.symm HE.out.symm,HBT.out⟩
  ·have HT:N4=T:=by rw [HP.out,if_neg hn]
   subst HT
   obtain ⟨n1,n2⟩:=nempty hn
   clear hn HP
   go_wp2_with fail
   refine (HJ4.out _ _ (new_at _ rfl)).mono ?_
   rintro e w3 ⟨rfl,hb3⟩
   have HB3:Hid (Below w2.heap.size w2 w3):=((Below.refl _ _).alloc (Nat.le_refl _) _).trans hb3
   have hl3:w2.heap.size≤w3.heap.size:=HB3.out.size
   clear hb3
   go_wp2_with fail
   refine (HDC.out _).mono ?_
   rintro e w4 ⟨rfl,hb4⟩
   have HBT:Hid (Below w.heap.size w w4):=((HB1.out.trans (HB2.out.mono (Nat.le_of_lt hl1))).trans (HB3.out.mono (by omega))).trans (hb4.mono (by omega))
   clear hb4
   by_cases hz:ce'=0
   ·have HS2:Hid (S=N4):=prS_ret HS.out (by rw [HE.out];exact hz)
    subst hz
    go_wp2_with fail
    go_ret2
    exact ⟨ret2_eq HS2.out.symm HE.out.symm,HBT.out⟩
   ·have HS2:Hid (S=⟨#[]⟩):=(show S=⟨#[]⟩ by rw [HS.out,if_neg (by rw [HE.out];exact hz)])
    have hz2:(ce' == 0)=false:=by simpa using hz
    go_wp2_with fail
    go_ret2
    exact ⟨ret2_eq HS2.out.symm HE.out.symm,HBT.out⟩
 ·have HE:Hid (prE q=chkQ q):=if_neg h0
  have HS:Hid (prS q=⟨#[]⟩):=if_neg (by rw [HE.out];exact h0)
  rw [HE.out,HS.out]
  have h1:(chkQ q == 0)=false:=by simpa using h0
  clear HE HS
  generalize chkQ q=r at *
  go_enter Tryz.func83,Tryz.ntmps83
  go_wp2_with (go_at_call 82;refine (HCQ.out _).mono ?_;rintro e w1 ⟨rfl,hb1⟩)
  go_ret2
  exact ⟨rfl,((Below.refl _ _).alloc (Nat.le_refl _) _).trans (hb1.mono (by simp))⟩
set_option maxHeartbeats 6400000 in
set_option maxRecDepth 100000 in
theorem krecord_any (here:ByteArray) (ps pm pw:Option Addr) (ns cs nm cm nw cw:Nat) (px py pz ph pq:Int) (name:ByteArray) (t:Int) (s:Sv.Svc) (w:World) (hh:here.size≤maxLen) (hs:s.node.size≤maxLen) :
 Calls Tryz.prog 111 #[.agg (knA here (.slice ps ns cs) (.slice pm nm cm) px py pz ph pq (.slice pw nw cw)),.agg #[.string name,.int .i64 t,.int .i64 0,.int .i64 0,.string ⟨#[]⟩,.int .i64 0,.string ⟨#[]⟩],.agg #[.string s.node,.string s.idn,.string s.name,.string s.tag,.int .i64 s.addr,.int .i64 s.port,.bool s.passing,.int .i64 s.version,.bool s.gone]] w fun e w'=>∃ r:Rc.Rec,e=.returned (.tuple #[.agg #[.string r.name,.int .i64 r.typ,.int .i64 r.lasts,.int .i64 r.addr,.string r.text,.int .i64 r.port,.string r.target],.int .i64 (recE here t s)])∧(recE here t s=0→r=rec1 name here t s)∧Below w.heap.size w w':=by
 obtain ⟨nd,idn,snm,tag,ad,po,pa1,ver,gon⟩:=s
 simp only at hs
 by_cases h1:t=1
 ·have HE:Hid (recE here t ⟨nd,idn,snm,tag,ad,po,pa1,ver,gon⟩=0):=by subst h1;rfl
  have HR:Hid (rec1 name here t ⟨nd,idn,snm,tag,ad,po,pa1,ver,gon⟩=⟨name,1,0,ad,⟨#[]⟩,0,⟨#[]⟩⟩):=by subst h1;rfl
  subst h1
  go_enter Tryz.func111,Tryz.ntmps111
  go_wp2_with fail
  refine bodyPost_ret (v:=.tuple #[.agg #[.string name,.int .i64 1,.int .i64 0,.int .i64 ad,.string ⟨#[]⟩,.int .i64 0,.string ⟨#[]⟩],.int .i64 0]) ?_ rfl ⟨⟨name,1,0,ad,⟨#[]⟩,0,⟨#[]⟩⟩,by rw [HE.out],fun _=>HR.out.symm,?_⟩
  ·simp [results,Tryz.results111,go_sem]
  ·exact ((((Below.refl _ _).alloc (Nat.le_refl _) _).alloc (by simp) _).alloc (by simp<;>omega) _).alloc (by simp<;>omega) _
 ·by_cases h16:t=16
  ·have HE:Hid (recE here t ⟨nd,idn,snm,tag,ad,po,pa1,ver,gon⟩=0):=by subst h16;rfl
   have HR:Hid (rec1 name here t ⟨nd,idn,snm,tag,ad,po,pa1,ver,gon⟩=⟨name,16,0,0,idn,0,⟨#[]⟩⟩):=by subst h16;rfl
   subst h16
   clear h1
   go_enter Tryz.func111,Tryz.ntmps111
   go_wp2_with fail
   refine bodyPost_ret (v:=.tuple #[.agg #[.string name,.int .i64 16,.int .i64 0,.int .i64 0,.string idn,.int .i64 0,.string ⟨#[]⟩],.int .i64 0]) ?_ rfl ⟨⟨name,16,0,0,idn,0,⟨#[]⟩⟩,by rw [HE.out],fun _=>HR.out.symm,?_⟩
   ·simp [results,Tryz.results111,go_sem]
   ·exact ((((Below.refl _ _).alloc (Nat.le_refl _) _).alloc (by simp) _).alloc (by simp<;>omega) _).alloc (by simp<;>omega) _
  ·by_cases h33:t=33
   ·have HE:Hid (recE here t ⟨nd,idn,snm,tag,ad,po,pa1,ver,gon⟩=prE (qN nd here)):=by subst h33;rfl
    have HR:Hid (rec1 name here t ⟨nd,idn,snm,tag,ad,po,pa1,ver,gon⟩=⟨name,33,0,0,⟨#[]⟩,po,prS (qN nd here)⟩):=by subst h33;rfl
    have HP:Hid (∀ W,Calls Tryz.prog 83 #[.agg #[.string ⟨#[]⟩,.string ⟨#[]⟩,.string nd,.string here]] W fun e w'=>e=.returned (.tuple #[.string (prS (qN nd here)),.int .i64 (prE (qN nd here))])∧Below W.heap.size W w'):=fun W=>print_any (qN nd here) W ⟨by show (ByteArray.mk #[]).size≤maxLen;decide,by show (ByteArray.mk #[]).size≤maxLen;decide,hs,hh⟩
    subst h33
    clear h1 h16
    generalize prE (qN nd here)=PE at *
    generalize prS (qN nd here)=PS at *
    go_enter Tryz.func111,Tryz.ntmps111
    go_wp2_with fail
    obtain ⟨W,hW⟩:∃ W,W=(((w.alloc (.cells (knA here (.slice ps ns cs) (.slice pm nm cm) px py pz ph pq (.slice pw nw cw)) 45)).alloc (.cells #[.string name,.int .i64 33,.int .i64 0,.int .i64 0,.string ⟨#[]⟩,.int .i64 0,.string ⟨#[]⟩] 59)).alloc (.cells #[.string nd,.string idn,.string snm,.string tag,.int .i64 ad,.int .i64 po,.bool pa1,.int .i64 ver,.bool gon] 57)).alloc (.cells #[.string ⟨#[]⟩,.int .i64 0,.int .i64 0,.int .i64 0,.string ⟨#[]⟩,.int .i64 0,.string ⟨#[]⟩] 59):=⟨_,rfl⟩
    rw [← hW]
    have hbW:Below w.heap.size w W:=by rw [hW];exact ((((Below.refl _ _).alloc (Nat.le_refl _) _).alloc (by simp) _).alloc (by simp<;>omega) _).alloc (by simp<;>omega) _
    have hg1:W.heap[w.heap.size+1]?=some (.cells #[.string name,.int .i64 33,.int .i64 0,.int .i64 0,.string ⟨#[]⟩,.int .i64 0,.string ⟨#[]⟩] 59 (0,0)):=by
     rw [hW,Below.heap_alloc _ _ _ (by simp<;>omega),Below.heap_alloc _ _ _ (by simp)]
     have h:=heap_alloc_new (w.alloc (.cells (knA here (.slice ps ns cs) (.slice pm nm cm) px py pz ph pq (.slice pw nw cw)) 45)) (.cells #[.string name,.int .i64 33,.int .i64 0,.int .i64 0,.string ⟨#[]⟩,.int .i64 0,.string ⟨#[]⟩] 59)
     simpa using h
    have hg2:W.heap[w.heap.size+2]?=some (.cells #[.string nd,.string idn,.string snm,.string tag,.int .i64 ad,.int .i64 po,.bool pa1,.int .i64 ver,.bool gon] 57 (0,0)):=by
     rw [hW,Below.heap_alloc _ _ _ (by simp)]
     have h:=heap_alloc_new ((w.alloc (.cells (knA here (.slice ps ns cs) (.slice pm nm cm) px py pz ph pq (.slice pw nw cw)) 45)).alloc (.cells #[.string name,.int .i64 33,.int .i64 0,.int .i64 0,.string ⟨#[]⟩,.int .i64 0,.string ⟨#[]⟩] 59)) (.cells #[.string nd,.string idn,.string snm,.string tag,.int .i64 ad,.int .i64 po,.bool pa1,.int .i64 ver,.bool gon] 57)
     simpa using h
    have hg3:W.heap[w.heap.size+3]?=some (.cells #[.string ⟨#[]⟩,.int .i64 0,.int .i64 0,.int .i64 0,.string ⟨#[]⟩,.int .i64 0,.string ⟨#[]⟩] 59 (0,0)):=by
     rw [hW]
     have h:=heap_alloc_new (((w.alloc (.cells (knA here (.slice ps ns cs) (.slice pm nm cm) px py pz ph pq (.slice pw nw cw)) 45)).alloc (.cells #[.string name,.int .i64 33,.int .i64 0,.int .i64 0,.string ⟨#[]⟩,.int .i64 0,.string ⟨#[]⟩] 59)).alloc (.cells #[.string nd,.string idn,.string snm,.string tag,.int .i64 ad,.int .i64 po,.bool pa1,.int .i64 ver,.bool gon] 57)) (.cells #[.string ⟨#[]⟩,.int .i64 0,.int .i64 0,.int .i64 0,.string ⟨#[]⟩,.int .i64 0,.string ⟨#[]⟩] 59)
     simpa using h
    have hsW:w.heap.size+4≤W.heap.size:=by rw [hW];simp
    clear hW
    refine (HP.out _).mono ?_
    rintro e w1 ⟨rfl,hb1⟩
    have k1:w1.heap[w.heap.size+1]?=_:=(hb1.block _ (by omega)).trans hg1
    have k2:w1.heap[w.heap.size+2]?=_:=(hb1.block _ (by omega)).trans hg2
    have k3:w1.heap[w.heap.size+3]?=_:=(hb1.block _ (by omega)).trans hg3
    have HB:Hid (Below w.heap.size w w1):=hbW.trans (hb1.mono (by omega))
    have l0:w1.cell? ⟨w.heap.size+1,0,none⟩=some (.string name):=cellsAt k1 0
    have zl0:w1.frozen? ⟨w.heap.size+1,0,none⟩=false:=by simp [World.frozen?,k1]
    have l1:w1.cell? ⟨w.heap.size+1,1,none⟩=some (.int .i64 33):=cellsAt k1 1
    have zl1:w1.frozen? ⟨w.heap.size+1,1,none⟩=false:=by simp [World.frozen?,k1]
    have l2:w1.cell? ⟨w.heap.size+1,2,none⟩=some (.int .i64 0):=cellsAt k1 2
    have zl2:w1.frozen? ⟨w.heap.size+1,2,none⟩=false:=by simp [World.frozen?,k1]
    have l3:w1.cell? ⟨w.heap.size+1,3,none⟩=some (.int .i64 0):=cellsAt k1 3
    have zl3:w1.frozen? ⟨w.heap.size+1,3,none⟩=false:=by simp [World.frozen?,k1]
    have l4:w1.cell? ⟨w.heap.size+1,4,none⟩=some (.string ⟨#[]⟩):=cellsAt k1 4
    have zl4:w1.frozen? ⟨w.heap.size+1,4,none⟩=false:=by simp [World.frozen?,k1]
    have l5:w1.cell? ⟨w.heap.size+1,5,none⟩=some (.int .i64 0):=cellsAt k1 5
    have zl5:w1.frozen? ⟨w.heap.size+1,5,none⟩=false:=by simp [World.frozen?,k1]
    have l6:w1.cell? ⟨w.heap.size+1,6,none⟩=some (.string ⟨#[]⟩):=cellsAt k1 6
    have zl6:w1.frozen? ⟨w.heap.size+1,6,none⟩=false:=by simp [World.frozen?,k1]
    have s0:w1.cell? ⟨w.heap.size+2,0,none⟩=some (.string nd):=cellsAt k2 0
    have s1:w1.cell? ⟨w.heap.size+2,1,none⟩=some (.string idn):=cellsAt k2 1
    have s2:w1.cell? ⟨w.heap.size+2,2,none⟩=some (.string snm):=cellsAt k2 2
    have s3:w1.cell? ⟨w.heap.size+2,3,none⟩=some (.string tag):=cellsAt k2 3
    have s4:w1.cell? ⟨w.heap.size+2,4,none⟩=some (.int .i64 ad):=cellsAt k2 4
    have s5:w1.cell? ⟨w.heap.size+2,5,none⟩=some (.int .i64 po):=cellsAt k2 5
    have s6:w1.cell? ⟨w.heap.size+2,6,none⟩=some (.bool pa1):=cellsAt k2 6
    have s7:w1.cell? ⟨w.heap.size+2,7,none⟩=some (.int .i64 ver):=cellsAt k2 7
    have s8:w1.cell? ⟨w.heap.size+2,8,none⟩=some (.bool gon):=cellsAt k2 8
    have r0:w1.cell? ⟨w.heap.size+3,0,none⟩=some (.string ⟨#[]⟩):=cellsAt k3 0
    have zr0:w1.frozen? ⟨w.heap.size+3,0,none⟩=false:=by simp [World.frozen?,k3]
    have r1:w1.cell? ⟨w.heap.size+3,1,none⟩=some (.int .i64 0):=cellsAt k3 1
    have zr1:w1.frozen? ⟨w.heap.size+3,1,none⟩=false:=by simp [World.frozen?,k3]
    have r2:w1.cell? ⟨w.heap.size+3,2,none⟩=some (.int .i64 0):=cellsAt k3 2
    have zr2:w1.frozen? ⟨w.heap.size+3,2,none⟩=false:=by simp [World.frozen?,k3]
    have r3:w1.cell? ⟨w.heap.size+3,3,none⟩=some (.int .i64 0):=cellsAt k3 3
    have zr3:w1.frozen? ⟨w.heap.size+3,3,none⟩=false:=by simp [World.frozen?,k3]
    have r4:w1.cell? ⟨w.heap.size+3,4,none⟩=some (.string ⟨#[]⟩):=cellsAt k3 4
    have zr4:w1.frozen? ⟨w.heap.size+3,4,none⟩=false:=by simp [World.frozen?,k3]
    have r5:w1.cell? ⟨w.heap.size+3,5,none⟩=some (.int .i64 0):=cellsAt k3 5
    have zr5:w1.frozen? ⟨w.heap.size+3,5,none⟩=false:=by simp [World.frozen?,k3]
    have r6:w1.cell? ⟨w.heap.size+3,6,none⟩=some (.string ⟨#[]⟩):=cellsAt k3 6
    have zr6:w1.frozen? ⟨w.heap.size+3,6,none⟩=false:=by simp [World.frozen?,k3]
    clear hbW hg1 hg2 hg3 hb1 hsW k1 k2 k3
    by_cases h0:PE=0
    ·subst h0
     go_wp2_with fail
     refine bodyPost_ret (v:=.tuple #[.agg #[.string name,.int .i64 33,.int .i64 0,.int .i64 0,.string ⟨#[]⟩,.int .i64 po,.string PS],.int .i64 0]) ?_ rfl ⟨⟨name,33,0,0,⟨#[]⟩,po,PS⟩,by rw [HE.out],fun _=>HR.out.symm,?_⟩
     ·simp [results,Tryz.results111,go_sem,r0,r1,r2,r3,r4,r5,r6]
     ·exact (((((((((HB.out.setCell (p:=⟨w.heap.size+1,5,none⟩) (by simp<;>omega) _).setCell (p:=⟨w.heap.size+1,6,none⟩) (by simp<;>omega) _).setCell (p:=⟨w.heap.size+1+1+1,0,none⟩) (by simp<;>omega) _).setCell (p:=⟨w.heap.size+1+1+1,1,none⟩) (by simp<;>omega) _).setCell (p:=⟨w.heap.size+1+1+1,2,none⟩) (by simp<;>omega) _).setCell (p:=⟨w.heap.size+1+1+1,3,none⟩) (by simp<;>omega) _).setCell (p:=⟨w.heap.size+1+1+1,4,none⟩) (by simp<;>omega) _).setCell (p:=⟨w.heap.size+1+1+1,5,none⟩) (by simp<;>omega) _).setCell (p:=⟨w.heap.size+1+1+1,6,none⟩) (by simp<;>omega) _)
    ·have h0':(PE != 0)=true:=by simpa using h0
     go_wp2_with fail
     refine bodyPost_ret (v:=.tuple #[.agg #[.string ⟨#[]⟩,.int .i64 0,.int .i64 0,.int .i64 0,.string ⟨#[]⟩,.int .i64 0,.string ⟨#[]⟩],.int .i64 PE]) ?_ rfl ⟨⟨⟨#[]⟩,0,0,0,⟨#[]⟩,0,⟨#[]⟩⟩,by rw [HE.out],fun h=>absurd (HE.out.symm.trans h) h0,?_⟩
     ·simp [results,Tryz.results111,go_sem,r0,r1,r2,r3,r4,r5,r6]
     ·exact (((((((HB.out.setCell (p:=⟨w.heap.size+1+1+1,0,none⟩) (by simp<;>omega) _).setCell (p:=⟨w.heap.size+1+1+1,1,none⟩) (by simp<;>omega) _).setCell (p:=⟨w.heap.size+1+1+1,2,none⟩) (by simp<;>omega) _).setCell (p:=⟨w.heap.size+1+1+1,3,none⟩) (by simp<;>omega) _).setCell (p:=⟨w.heap.size+1+1+1,4,none⟩) (by simp<;>omega) _).setCell (p:=⟨w.heap.size+1+1+1,5,none⟩) (by simp<;>omega) _).setCell (p:=⟨w.heap.size+1+1+1,6,none⟩) (by simp<;>omega) _)
   ·have HE:Hid (recE here t ⟨nd,idn,snm,tag,ad,po,pa1,ver,gon⟩=0):=by show recE _ _ _=0;unfold recE;rw [if_neg h33]
    have HR:Hid (rec1 name here t ⟨nd,idn,snm,tag,ad,po,pa1,ver,gon⟩=⟨name,t,0,0,⟨#[]⟩,0,⟨#[]⟩⟩):=by show rec1 _ _ _ _=_;unfold rec1;rw [if_neg h1,if_neg h16,if_neg h33,if_neg h33]
    have g1:(t == 1)=false:=by simpa using h1
    have g2:(t == 16)=false:=by simpa using h16
    have g3:(t == 33)=false:=by simpa using h33
    go_enter Tryz.func111,Tryz.ntmps111
    go_wp2_with fail
    refine bodyPost_ret (v:=.tuple #[.agg #[.string name,.int .i64 t,.int .i64 0,.int .i64 0,.string ⟨#[]⟩,.int .i64 0,.string ⟨#[]⟩],.int .i64 0]) ?_ rfl ⟨⟨name,t,0,0,⟨#[]⟩,0,⟨#[]⟩⟩,by rw [HE.out],fun _=>HR.out.symm,?_⟩
    ·simp [results,Tryz.results111,go_sem]
    ·exact ((((Below.refl _ _).alloc (Nat.le_refl _) _).alloc (by simp) _).alloc (by simp<;>omega) _).alloc (by simp<;>omega) _
end Go.Proofs.YtignmeaeibaejaaGreatDoor
namespace Go.Proofs.YtignmeaeibaejaaGreatDoor
open Go.RowKit Go.Shelf Go.Lib Go.Sort
def isWd (x:ByteArray):Bool:=decide (x=bServ) || decide (x=bNode)
theorem isWd_gives (x:ByteArray) (W:World):FnGives Tryz.prog 144 #[] #[.string x] (.bool (isWd x)) W:=by
 show Calls Tryz.prog 144 #[.string x] W _
 by_cases h1:x=bServ
 ·subst h1
  go_enter Tryz.func144,Tryz.ntmps144
  go_wp2_with fail
  go_ret
  exact ⟨ret_bool (by simp [isWd]),0,rfl⟩
 ·obtain ⟨a1,a2⟩:=ne_serv h1
  by_cases h2:x=bNode
  ·subst h2
   go_enter Tryz.func144,Tryz.ntmps144
   go_wp2_with fail
   go_ret
   exact ⟨ret_bool (by simp [isWd]),0,rfl⟩
  ·obtain ⟨b1,b2⟩:=ne_node h2
   have HF:Hid (isWd x=false):=(show isWd x=false by simp [isWd,h1,h2])
   go_enter Tryz.func144,Tryz.ntmps144
   go_wp2_with fail
   go_ret
   exact ⟨ret_bool HF.out.symm,0,rfl⟩
end Go.Proofs.YtignmeaeibaejaaGreatDoor
