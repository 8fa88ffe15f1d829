import Derived.WalkKit
import Derived.Test.YtignmeaeibaejaaGreatDoorV1
import Derived.Laws.StructEq
import Derived.Deep.Slices
import Derived.Lib.SmallJoins
import Derived.ProofKit
import Derived.OpenShut
import Derived.Handed
import Derived.Test.YtignmeaeibaejaaGreatDoorRows
namespace Go.Proofs.YtignmeaeibaejaaGreatDoor
namespace RL
section
variable {α:Type}
structure Keyed (o:α→α→Int):Prop where
 refl:∀ a,o a a=0
 gt:∀ a b,0 < o a b↔o b a < 0
 trans:∀ a b c,o a b < 0→o b c < 0→o a c < 0
 left:∀ a b c,o a b=0→o a c=o b c
 right:∀ a b c,o a b=0→o c a=o c b
theorem Keyed.symm {o:α→α→Int} (h:Keyed o) {a b:α} (e:o a b=0):o b a=0:=by
 have h1:=h.gt a b
 have h2:=h.gt b a
 rcases Int.lt_trichotomy (o b a) 0 with hl | he | hg
 ·have:=h1.2 hl;omega
 ·exact he
 ·have:=h2.1 hg;omega
theorem Keyed.eqt {o:α→α→Int} (h:Keyed o) {a b c:α} (e:o a b=0) (f:o b c=0):o a c=0:=by rw [h.left a b c e];exact f
variable (o:α→α→Int) (nw:α→α→Bool) (d:α)
abbrev Rise (ms:List α):Prop:=ms.Pairwise fun a b=>o a b < 0
def risesB:List α→Bool
 | []=>true
 | [_]=>true
 | a :: b :: r=>decide (o a b < 0) && risesB (b :: r)
theorem rise_of (hk:Keyed o):∀ ms:List α,risesB o ms=true→Rise o ms
 | [],_=>.nil
 | [x],_=>by simp [Rise]
 | a :: b :: r,h=>by
   rw [risesB,Bool.and_eq_true,decide_eq_true_eq] at h
   have ih:=rise_of hk (b :: r) h.2
   refine List.pairwise_cons.2 ⟨fun c hc=>?_,ih⟩
   rcases List.mem_cons.1 hc with rfl | hc
   ·exact h.1
   ·exact hk.trans _ _ _ h.1 (List.rel_of_pairwise_cons ih hc)
theorem rises_all:∀ ms:List α,(∀ j,j+1 < ms.length→o (ms.getD j d) (ms.getD (j+1) d) < 0)→risesB o ms=true
 | [],_=>rfl
 | [x],_=>rfl
 | a :: b :: r,h=>by
   rw [risesB,Bool.and_eq_true,decide_eq_true_eq]
   refine ⟨by have:=h 0 (by simp);simpa using this,rises_all (b :: r) fun j hj=>?_⟩
   have:=h (j+1) (by simpa using hj)
   simpa using this
theorem rises_get:∀ ms:List α,risesB o ms=true→∀ j,j+1 < ms.length→o (ms.getD j d) (ms.getD (j+1) d) < 0
 | [],_,j,hj=>by simp at hj
 | [x],_,j,hj=>by simp at hj
 | a :: b :: r,h,0,_=>by
   rw [risesB,Bool.and_eq_true,decide_eq_true_eq] at h
   simpa using h.1
 | a :: b :: r,h,j+1,hj=>by
   rw [risesB,Bool.and_eq_true,decide_eq_true_eq] at h
   have:=rises_get (b :: r) h.2 j (by simpa using hj)
   simpa using this
theorem getD_el {ms:List α} {i:Nat} (h:i < ms.length):ms.getD i d=ms[i]:=by simp [List.getD,List.getElem?_eq_getElem h]
def hear:List α→α→List α
 | [],m=>[m]
 | x :: r,m=>if o x m < 0 then x :: hear r m else if o x m=0 then (if nw m x=true then m :: r else x :: r) else m :: x :: r
def join (a b:List α):List α:=b.foldl (hear o nw) a
theorem hear_last:∀ (a:List α) (m:α),(∀ x∈a,o x m < 0)→hear o nw a m=a++[m]
 | [],_,_=>rfl
 | x :: r,m,h=>by
   rw [hear,if_pos (h x (by simp)),hear_last r m (fun y hy=>h y (by simp [hy]))]
   rfl
theorem join_app:∀ (b a:List α),Rise o (a++b)→join o nw a b=a++b
 | [],a,_=>by simp [join]
 | m :: r,a,h=>by
   have h1:hear o nw a m=a++[m]:=hear_last o nw a m fun x hx=>(List.pairwise_append.1 h).2.2 x hx m (by simp)
   have h2:=join_app r (a++[m]) (by simpa using h)
   simp only [join,List.foldl_cons,h1] at h2 ⊢
   rw [h2];simp
theorem join_nil (b:List α) (h:Rise o b):join o nw [] b=b:=join_app o nw b [] h
def get (ms:List α) (n:α):Option α:=ms.find? fun x=>decide (o x n=0)
def put (ms:List α) (m:α) (p:Nat) (f:Bool):List α:=ms.take p++m :: ms.drop (if f=true then p+1 else p)
end
end RL
namespace Wh
open Go.RowKit
structure Whe where
 node:ByteArray
 x:Int
 y:Int
 z:Int
 h:Int
 s:Int
def dm:Whe:=⟨ByteArray.empty,0,0,0,0,0⟩
def Whe.ok (m:Whe):Prop:=m.node.size≤maxLen
theorem dm_ok:dm.ok:=by simp [Whe.ok,dm]
def Row (w:World) (b off:Nat) (ms:List Whe):Prop:=∀ j,j < ms.length →
 w.cell? ⟨b,off+j * 6,none⟩=some (.string (ms.getD j dm).node)∧w.cell? ⟨b,off+j * 6+1,none⟩=some (.int .i64 (ms.getD j dm).x)∧w.cell? ⟨b,off+j * 6+2,none⟩=some (.int .i64 (ms.getD j dm).y)∧w.cell? ⟨b,off+j * 6+3,none⟩=some (.int .i64 (ms.getD j dm).z)∧w.cell? ⟨b,off+j * 6+4,none⟩=some (.int .i64 (ms.getD j dm).h)∧w.cell? ⟨b,off+j * 6+5,none⟩=some (.int .i64 (ms.getD j dm).s)
def Sl (w:World) (v:Value) (ms:List Whe):Prop:=
 ∃ (a:Option Addr) (cap:Nat),v=.slice a ms.length cap∧(∀ j,(ms.getD j dm).ok) ∧
  (ms=[]∨∃ b off,a=some ⟨b,off,none⟩∧b < w.heap.size∧Row w b off ms)
def Whe.cs (m:Whe):List Value:=[.string m.node,.int .i64 m.x,.int .i64 m.y,.int .i64 m.z,.int .i64 m.h,.int .i64 m.s]
def fl (ms:List Whe):List Value:=ms.flatMap Whe.cs
theorem cs_len (m:Whe):m.cs.length=6:=rfl
theorem fl_cons (m:Whe) (r:List Whe):fl (m :: r)=m.cs++fl r:=by simp [fl]
theorem fl_append (a b:List Whe):fl (a++b)=fl a++fl b:=by simp [fl]
theorem fl_len:∀ ms:List Whe,(fl ms).length=ms.length * 6
 | []=>rfl
 | m :: r=>by rw [fl_cons,List.length_append,fl_len r,cs_len,List.length_cons];omega
theorem cs_one (m:Whe):∀ v∈m.cs,v.oneCell'=true:=by
 intro v hv;simp [Whe.cs] at hv;rcases hv with rfl | rfl | rfl | rfl | rfl | rfl<;>rfl
theorem fl_one (ms:List Whe):∀ v∈fl ms,v.oneCell'=true:=by
 intro v hv
 obtain ⟨m,_,h⟩:=List.mem_flatMap.1 hv
 exact cs_one m v h
theorem fl_get (ms:List Whe) (j:Nat) (hj:j < ms.length) (t:Nat) (ht:t < 6):(fl ms)[j * 6+t]?=(ms.getD j dm).cs[t]?:=by
 induction ms generalizing j with
 | nil=>simp at hj
 | cons m r ih=>
   rw [fl_cons]
   cases j with
   | zero=>rw [List.getElem?_append_left (by rw [cs_len];omega)];simp
   | succ j=>
     rw [List.getElem?_append_right (by rw [cs_len];omega),cs_len,show (j+1) * 6+t - 6=j * 6+t by omega,ih j (by simpa using hj)]
     simp
abbrev Own (base:Nat) (w:World) (v:Value) (ms:List Whe):Prop:=w.ownsRow base 73 6 v ms.length (fl ms)
theorem own_of {base g G:Nat} {w:World} {cur:Array Value} {ms:List Whe} (hb:base≤g) (hg:w.heap[g]?=some (.cells cur 73 (0,0))) (hs:cur.size=G * 6) (hn:ms.length≤G) (hG:G≤maxLen) (ht:cur.toList.take (ms.length * 6)=fl ms) :
 Own base w (.slice (some ⟨g,0,none⟩) ms.length G) ms:=⟨fl_len ms,.inr ⟨g,G,cur,rfl,hb,hg,hn,hG,hs,ht⟩⟩
theorem Own.sl {base:Nat} {w:World} {v:Value} {ms:List Whe} (h:Own base w v ms) (hs:∀ j,(ms.getD j dm).ok):Sl w v ms:=by
 rcases h.2 with ⟨rfl,h0⟩ | ⟨g,c,cur,rfl,hbg,hg,hnc,hcm,hcs,htake⟩
 ·exact ⟨none,0,by rw [h0],hs,.inl (List.eq_nil_of_length_eq_zero h0)⟩
 ·refine ⟨_,c,rfl,hs,.inr ⟨g,0,rfl,(Array.getElem?_eq_some_iff.1 hg).1,fun j hj=>?_⟩⟩
  have hc:∀ t,t < 6→w.cell? ⟨g,0+j * 6+t,none⟩=(ms.getD j dm).cs[t]?:=fun t ht=>by
   rw [cellsAt hg,← fl_get ms j hj t ht,← htake,List.getElem?_take_of_lt (by omega)];simp
  exact ⟨hc 0 (by omega),hc 1 (by omega),hc 2 (by omega),hc 3 (by omega),hc 4 (by omega),hc 5 (by omega)⟩
theorem Own.below {base:Nat} {w w':World} {v:Value} {ms:List Whe} (h:Own base w v ms) (hb:Below w.heap.size w w'):Own base w' v ms:=by
 rcases h.2 with ⟨rfl,h0⟩ | ⟨g,c,cur,rfl,hbg,hg,hnc,hcm,hcs,htake⟩
 ·exact ⟨h.1,.inl ⟨rfl,h0⟩⟩
 ·have hlt:g < w.heap.size:=(Array.getElem?_eq_some_iff.1 hg).1
  exact ⟨h.1,.inr ⟨g,c,cur,rfl,hbg,(hb.block g hlt).trans hg,hnc,hcm,hcs,htake⟩⟩
theorem Own.lt {base:Nat} {w:World} {v:Value} {ms:List Whe} (h:Own base w v ms) (k:Nat) (hk:v.ownBlock=some k):base≤k∧k < w.heap.size:=World.ownsRow.lt h k hk
theorem own_cells {base g c:Nat} {w:World} {ms:List Whe} (h:Own base w (.slice (some ⟨g,0,none⟩) ms.length c) ms) (j:Nat) (hj:j < ms.length) :
 w.cell? ⟨g,j * 6,none⟩=some (.string (ms.getD j dm).node)∧w.cell? ⟨g,j * 6+1,none⟩=some (.int .i64 (ms.getD j dm).x)∧w.cell? ⟨g,j * 6+2,none⟩=some (.int .i64 (ms.getD j dm).y)∧w.cell? ⟨g,j * 6+3,none⟩=some (.int .i64 (ms.getD j dm).z)∧w.cell? ⟨g,j * 6+4,none⟩=some (.int .i64 (ms.getD j dm).h)∧w.cell? ⟨g,j * 6+5,none⟩=some (.int .i64 (ms.getD j dm).s):=by
 rcases h.2 with ⟨h1,_⟩ | ⟨g',c',cur,h1,hbg,hg,hnc,hcm,hcs,htake⟩
 ·cases h1
 ·simp only [Value.slice.injEq,Option.some.injEq,Addr.mk.injEq] at h1
  obtain ⟨⟨rfl,_,_⟩,_,_⟩:=h1
  have hc:∀ t,t < 6→w.cell? ⟨g,j * 6+t,none⟩=(ms.getD j dm).cs[t]?:=fun t ht=>by
   rw [cellsAt hg,← fl_get ms j hj t ht,← htake,List.getElem?_take_of_lt (by omega)];simp
  exact ⟨hc 0 (by omega),hc 1 (by omega),hc 2 (by omega),hc 3 (by omega),hc 4 (by omega),hc 5 (by omega)⟩
theorem own_form {base:Nat} {w:World} {v:Value} {ms:List Whe} (h:Own base w v ms) (p:Nat) (hp:p < ms.length):∃ g c,v=.slice (some ⟨g,0,none⟩) ms.length c:=by
 rcases h.2 with ⟨_,h0⟩ | ⟨g,c,cur,h1,_⟩
 ·omega
 ·exact ⟨g,c,h1⟩
theorem Sl.below {w w':World} {v:Value} {ms:List Whe} (h:Sl w v ms) (hb:Below w.heap.size w w'):Sl w' v ms:=by
 obtain ⟨a,cap,rfl,hs,h⟩:=h
 refine ⟨a,cap,rfl,hs,?_⟩
 rcases h with h | ⟨b,off,rfl,hlt,hr⟩
 ·exact .inl h
 ·refine .inr ⟨b,off,rfl,Nat.lt_of_lt_of_le hlt hb.size,fun j hj=>?_⟩
  obtain ⟨hc,_⟩:=bcell hb
  obtain ⟨c0,c1,c2,c3,c4,c5⟩:=hr j hj
  exact ⟨(hc _ _ hlt).trans c0,(hc _ _ hlt).trans c1,(hc _ _ hlt).trans c2,(hc _ _ hlt).trans c3,(hc _ _ hlt).trans c4,(hc _ _ hlt).trans c5⟩
theorem Row.later {w w':World} {b off:Nat} {ms:List Whe} (hr:Row w b off ms) (hb:Below w.heap.size w w') (hlt:b < w.heap.size):Row w' b off ms:=fun j hj=>by
 obtain ⟨hc,_⟩:=bcell hb
 obtain ⟨c0,c1,c2,c3,c4,c5⟩:=hr j hj
 exact ⟨(hc _ _ hlt).trans c0,(hc _ _ hlt).trans c1,(hc _ _ hlt).trans c2,(hc _ _ hlt).trans c3,(hc _ _ hlt).trans c4,(hc _ _ hlt).trans c5⟩
theorem Own.mono {base base':Nat} {w:World} {v:Value} {ms:List Whe} (h:Own base w v ms) (hb:base'≤base):Own base' w v ms:=by
 rcases h.2 with ⟨rfl,h0⟩ | ⟨g,c,cur,rfl,hbg,hg,hnc,hcm,hcs,htake⟩
 ·exact ⟨h.1,.inl ⟨rfl,h0⟩⟩
 ·exact ⟨h.1,.inr ⟨g,c,cur,rfl,Nat.le_trans hb hbg,hg,hnc,hcm,hcs,htake⟩⟩
theorem own_nil (base:Nat) (w:World):Own base w (.slice none 0 0) []:=World.ownsRow_nil w base 73 6
theorem ns_mem {ms:List Whe} (h:∀ j,(ms.getD j dm).ok):∀ m∈ms,(m).ok:=by
 intro m hm
 obtain ⟨j,hj,rfl⟩:=List.getElem_of_mem hm
 have:=h j
 simpa [List.getD,List.getElem?_eq_getElem hj] using this
theorem ns_get {ms:List Whe} (h:∀ m∈ms,(m).ok):∀ j,(ms.getD j dm).ok:=by
 intro j
 by_cases hj:j < ms.length
 ·have:=h ms[j] (List.getElem_mem hj)
  simpa [List.getD,List.getElem?_eq_getElem hj] using this
 ·rw [List.getD,List.getElem?_eq_none (Nat.le_of_not_lt hj)];exact dm_ok
theorem own_names {base:Nat} {w:World} {v:Value} {ms:List Whe} (h:Own base w v ms) (hs:∀ m∈ms,(m).ok):Sl w v ms:=h.sl (ns_get hs)
theorem sl_one (w:World) (b cap:Nat) (m:Whe) (hm:(m).ok) (hg:w.heap[b]?=some (.cells #[.string m.node,.int .i64 m.x,.int .i64 m.y,.int .i64 m.z,.int .i64 m.h,.int .i64 m.s] 73 (0,0))):Sl w (.slice (some ⟨b,0,none⟩) 1 cap) [m]:=by
 refine ⟨_,cap,rfl,ns_get (fun x hx=>by simp at hx;subst hx;exact hm),.inr ⟨b,0,rfl,(Array.getElem?_eq_some_iff.1 hg).1,fun j hj=>?_⟩⟩
 have:j=0:=by simpa using hj
 subst this
 exact ⟨cellsAt hg (0+0 * 6),cellsAt hg (0+0 * 6+1),cellsAt hg (0+0 * 6+2),cellsAt hg (0+0 * 6+3),cellsAt hg (0+0 * 6+4),cellsAt hg (0+0 * 6+5)⟩
theorem own_snoc {base:Nat} {w:World} {v:Value} {L:List Whe} {m:Whe} (h:w.ownsRow base 73 6 v (L.length+1) (fl L++m.cs)):Own base w v (L++[m]):=by
 have e:fl (L++[m])=fl L++m.cs:=by rw [fl_append,fl_cons];simp [fl]
 show w.ownsRow base 73 6 v (L++[m]).length (fl (L++[m]))
 rw [e,List.length_append]
 exact h
end Wh
namespace Pc
open Go.RowKit
structure Ple where
 x:Int
 y:Int
 z:Int
 h:Int
 s:Int
def dm:Ple:=⟨0,0,0,0,0⟩
def Ple.ok (_m:Ple):Prop:=True
theorem dm_ok:dm.ok:=trivial
def Row (w:World) (b off:Nat) (ms:List Ple):Prop:=∀ j,j < ms.length →
 w.cell? ⟨b,off+j * 5,none⟩=some (.int .i64 (ms.getD j dm).x)∧w.cell? ⟨b,off+j * 5+1,none⟩=some (.int .i64 (ms.getD j dm).y)∧w.cell? ⟨b,off+j * 5+2,none⟩=some (.int .i64 (ms.getD j dm).z)∧w.cell? ⟨b,off+j * 5+3,none⟩=some (.int .i64 (ms.getD j dm).h)∧w.cell? ⟨b,off+j * 5+4,none⟩=some (.int .i64 (ms.getD j dm).s)
def Sl (w:World) (v:Value) (ms:List Ple):Prop:=
 ∃ (a:Option Addr) (cap:Nat),v=.slice a ms.length cap∧(∀ j,(ms.getD j dm).ok) ∧
  (ms=[]∨∃ b off,a=some ⟨b,off,none⟩∧b < w.heap.size∧Row w b off ms)
def Ple.cs (m:Ple):List Value:=[.int .i64 m.x,.int .i64 m.y,.int .i64 m.z,.int .i64 m.h,.int .i64 m.s]
def fl (ms:List Ple):List Value:=ms.flatMap Ple.cs
theorem cs_len (m:Ple):m.cs.length=5:=rfl
theorem fl_cons (m:Ple) (r:List Ple):fl (m :: r)=m.cs++fl r:=by simp [fl]
theorem fl_append (a b:List Ple):fl (a++b)=fl a++fl b:=by simp [fl]
theorem fl_len:∀ ms:List Ple,(fl ms).length=ms.length * 5
 | []=>rfl
 | m :: r=>by rw [fl_cons,List.length_append,fl_len r,cs_len,List.length_cons];omega
theorem cs_one (m:Ple):∀ v∈m.cs,v.oneCell'=true:=by
 intro v hv;simp [Ple.cs] at hv;rcases hv with rfl | rfl | rfl | rfl | rfl<;>rfl
theorem fl_one (ms:List Ple):∀ v∈fl ms,v.oneCell'=true:=by
 intro v hv
 obtain ⟨m,_,h⟩:=List.mem_flatMap.1 hv
 exact cs_one m v h
theorem fl_get (ms:List Ple) (j:Nat) (hj:j < ms.length) (t:Nat) (ht:t < 5):(fl ms)[j * 5+t]?=(ms.getD j dm).cs[t]?:=by
 induction ms generalizing j with
 | nil=>simp at hj
 | cons m r ih=>
   rw [fl_cons]
   cases j with
   | zero=>rw [List.getElem?_append_left (by rw [cs_len];omega)];simp
   | succ j=>
     rw [List.getElem?_append_right (by rw [cs_len];omega),cs_len,show (j+1) * 5+t - 5=j * 5+t by omega,ih j (by simpa using hj)]
     simp
abbrev Own (base:Nat) (w:World) (v:Value) (ms:List Ple):Prop:=w.ownsRow base 25 5 v ms.length (fl ms)
theorem own_of {base g G:Nat} {w:World} {cur:Array Value} {ms:List Ple} (hb:base≤g) (hg:w.heap[g]?=some (.cells cur 25 (0,0))) (hs:cur.size=G * 5) (hn:ms.length≤G) (hG:G≤maxLen) (ht:cur.toList.take (ms.length * 5)=fl ms) :
 Own base w (.slice (some ⟨g,0,none⟩) ms.length G) ms:=⟨fl_len ms,.inr ⟨g,G,cur,rfl,hb,hg,hn,hG,hs,ht⟩⟩
theorem Own.sl {base:Nat} {w:World} {v:Value} {ms:List Ple} (h:Own base w v ms) (hs:∀ j,(ms.getD j dm).ok):Sl w v ms:=by
 rcases h.2 with ⟨rfl,h0⟩ | ⟨g,c,cur,rfl,hbg,hg,hnc,hcm,hcs,htake⟩
 ·exact ⟨none,0,by rw [h0],hs,.inl (List.eq_nil_of_length_eq_zero h0)⟩
 ·refine ⟨_,c,rfl,hs,.inr ⟨g,0,rfl,(Array.getElem?_eq_some_iff.1 hg).1,fun j hj=>?_⟩⟩
  have hc:∀ t,t < 5→w.cell? ⟨g,0+j * 5+t,none⟩=(ms.getD j dm).cs[t]?:=fun t ht=>by
   rw [cellsAt hg,← fl_get ms j hj t ht,← htake,List.getElem?_take_of_lt (by omega)];simp
  exact ⟨hc 0 (by omega),hc 1 (by omega),hc 2 (by omega),hc 3 (by omega),hc 4 (by omega)⟩
theorem Own.below {base:Nat} {w w':World} {v:Value} {ms:List Ple} (h:Own base w v ms) (hb:Below w.heap.size w w'):Own base w' v ms:=by
 rcases h.2 with ⟨rfl,h0⟩ | ⟨g,c,cur,rfl,hbg,hg,hnc,hcm,hcs,htake⟩
 ·exact ⟨h.1,.inl ⟨rfl,h0⟩⟩
 ·have hlt:g < w.heap.size:=(Array.getElem?_eq_some_iff.1 hg).1
  exact ⟨h.1,.inr ⟨g,c,cur,rfl,hbg,(hb.block g hlt).trans hg,hnc,hcm,hcs,htake⟩⟩
theorem Own.lt {base:Nat} {w:World} {v:Value} {ms:List Ple} (h:Own base w v ms) (k:Nat) (hk:v.ownBlock=some k):base≤k∧k < w.heap.size:=World.ownsRow.lt h k hk
theorem own_cells {base g c:Nat} {w:World} {ms:List Ple} (h:Own base w (.slice (some ⟨g,0,none⟩) ms.length c) ms) (j:Nat) (hj:j < ms.length) :
 w.cell? ⟨g,j * 5,none⟩=some (.int .i64 (ms.getD j dm).x)∧w.cell? ⟨g,j * 5+1,none⟩=some (.int .i64 (ms.getD j dm).y)∧w.cell? ⟨g,j * 5+2,none⟩=some (.int .i64 (ms.getD j dm).z)∧w.cell? ⟨g,j * 5+3,none⟩=some (.int .i64 (ms.getD j dm).h)∧w.cell? ⟨g,j * 5+4,none⟩=some (.int .i64 (ms.getD j dm).s):=by
 rcases h.2 with ⟨h1,_⟩ | ⟨g',c',cur,h1,hbg,hg,hnc,hcm,hcs,htake⟩
 ·cases h1
 ·simp only [Value.slice.injEq,Option.some.injEq,Addr.mk.injEq] at h1
  obtain ⟨⟨rfl,_,_⟩,_,_⟩:=h1
  have hc:∀ t,t < 5→w.cell? ⟨g,j * 5+t,none⟩=(ms.getD j dm).cs[t]?:=fun t ht=>by
   rw [cellsAt hg,← fl_get ms j hj t ht,← htake,List.getElem?_take_of_lt (by omega)];simp
  exact ⟨hc 0 (by omega),hc 1 (by omega),hc 2 (by omega),hc 3 (by omega),hc 4 (by omega)⟩
theorem own_form {base:Nat} {w:World} {v:Value} {ms:List Ple} (h:Own base w v ms) (p:Nat) (hp:p < ms.length):∃ g c,v=.slice (some ⟨g,0,none⟩) ms.length c:=by
 rcases h.2 with ⟨_,h0⟩ | ⟨g,c,cur,h1,_⟩
 ·omega
 ·exact ⟨g,c,h1⟩
theorem Sl.below {w w':World} {v:Value} {ms:List Ple} (h:Sl w v ms) (hb:Below w.heap.size w w'):Sl w' v ms:=by
 obtain ⟨a,cap,rfl,hs,h⟩:=h
 refine ⟨a,cap,rfl,hs,?_⟩
 rcases h with h | ⟨b,off,rfl,hlt,hr⟩
 ·exact .inl h
 ·refine .inr ⟨b,off,rfl,Nat.lt_of_lt_of_le hlt hb.size,fun j hj=>?_⟩
  obtain ⟨hc,_⟩:=bcell hb
  obtain ⟨c0,c1,c2,c3,c4⟩:=hr j hj
  exact ⟨(hc _ _ hlt).trans c0,(hc _ _ hlt).trans c1,(hc _ _ hlt).trans c2,(hc _ _ hlt).trans c3,(hc _ _ hlt).trans c4⟩
theorem Row.later {w w':World} {b off:Nat} {ms:List Ple} (hr:Row w b off ms) (hb:Below w.heap.size w w') (hlt:b < w.heap.size):Row w' b off ms:=fun j hj=>by
 obtain ⟨hc,_⟩:=bcell hb
 obtain ⟨c0,c1,c2,c3,c4⟩:=hr j hj
 exact ⟨(hc _ _ hlt).trans c0,(hc _ _ hlt).trans c1,(hc _ _ hlt).trans c2,(hc _ _ hlt).trans c3,(hc _ _ hlt).trans c4⟩
theorem Own.mono {base base':Nat} {w:World} {v:Value} {ms:List Ple} (h:Own base w v ms) (hb:base'≤base):Own base' w v ms:=by
 rcases h.2 with ⟨rfl,h0⟩ | ⟨g,c,cur,rfl,hbg,hg,hnc,hcm,hcs,htake⟩
 ·exact ⟨h.1,.inl ⟨rfl,h0⟩⟩
 ·exact ⟨h.1,.inr ⟨g,c,cur,rfl,Nat.le_trans hb hbg,hg,hnc,hcm,hcs,htake⟩⟩
theorem own_nil (base:Nat) (w:World):Own base w (.slice none 0 0) []:=World.ownsRow_nil w base 25 5
theorem ns_mem {ms:List Ple} (h:∀ j,(ms.getD j dm).ok):∀ m∈ms,(m).ok:=by
 intro m hm
 obtain ⟨j,hj,rfl⟩:=List.getElem_of_mem hm
 have:=h j
 simpa [List.getD,List.getElem?_eq_getElem hj] using this
theorem ns_get {ms:List Ple} (h:∀ m∈ms,(m).ok):∀ j,(ms.getD j dm).ok:=by
 intro j
 by_cases hj:j < ms.length
 ·have:=h ms[j] (List.getElem_mem hj)
  simpa [List.getD,List.getElem?_eq_getElem hj] using this
 ·rw [List.getD,List.getElem?_eq_none (Nat.le_of_not_lt hj)];exact dm_ok
theorem own_names {base:Nat} {w:World} {v:Value} {ms:List Ple} (h:Own base w v ms) (hs:∀ m∈ms,(m).ok):Sl w v ms:=h.sl (ns_get hs)
theorem sl_one (w:World) (b cap:Nat) (m:Ple) (hm:(m).ok) (hg:w.heap[b]?=some (.cells #[.int .i64 m.x,.int .i64 m.y,.int .i64 m.z,.int .i64 m.h,.int .i64 m.s] 25 (0,0))):Sl w (.slice (some ⟨b,0,none⟩) 1 cap) [m]:=by
 refine ⟨_,cap,rfl,ns_get (fun x hx=>by simp at hx;subst hx;exact hm),.inr ⟨b,0,rfl,(Array.getElem?_eq_some_iff.1 hg).1,fun j hj=>?_⟩⟩
 have:j=0:=by simpa using hj
 subst this
 exact ⟨cellsAt hg (0+0 * 5),cellsAt hg (0+0 * 5+1),cellsAt hg (0+0 * 5+2),cellsAt hg (0+0 * 5+3),cellsAt hg (0+0 * 5+4)⟩
theorem own_snoc {base:Nat} {w:World} {v:Value} {L:List Ple} {m:Ple} (h:w.ownsRow base 25 5 v (L.length+1) (fl L++m.cs)):Own base w v (L++[m]):=by
 have e:fl (L++[m])=fl L++m.cs:=by rw [fl_append,fl_cons];simp [fl]
 show w.ownsRow base 25 5 v (L++[m]).length (fl (L++[m]))
 rw [e,List.length_append]
 exact h
end Pc
end Go.Proofs.YtignmeaeibaejaaGreatDoor
namespace Go.Proofs.YtignmeaeibaejaaGreatDoor
open Go.RowKit
structure Mem where
 name:ByteArray
 state:Int
 life:Int
 addr:Int
 server:Bool
def dm:Mem:=⟨ByteArray.empty,0,0,0,false⟩
def Row (w:World) (b off:Nat) (ms:List Mem):Prop:=∀ j,j < ms.length →
 w.cell? ⟨b,off+j * 5,none⟩=some (.string (ms.getD j dm).name)∧w.cell? ⟨b,off+j * 5+1,none⟩=some (.int .i64 (ms.getD j dm).state)∧w.cell? ⟨b,off+j * 5+2,none⟩=some (.int .i64 (ms.getD j dm).life)∧w.cell? ⟨b,off+j * 5+3,none⟩=some (.int .i64 (ms.getD j dm).addr)∧w.cell? ⟨b,off+j * 5+4,none⟩=some (.bool (ms.getD j dm).server)
def Sl (w:World) (v:Value) (ms:List Mem):Prop:=
 ∃ (a:Option Addr) (cap:Nat),v=.slice a ms.length cap∧(∀ j,(ms.getD j dm).name.size≤maxLen) ∧
  (ms=[]∨∃ b off,a=some ⟨b,off,none⟩∧b < w.heap.size∧Row w b off ms)
def Mem.cs (m:Mem):List Value:=[.string m.name,.int .i64 m.state,.int .i64 m.life,.int .i64 m.addr,.bool m.server]
def fl (ms:List Mem):List Value:=ms.flatMap Mem.cs
theorem cs_len (m:Mem):m.cs.length=5:=rfl
theorem fl_cons (m:Mem) (r:List Mem):fl (m :: r)=m.cs++fl r:=by simp [fl]
theorem fl_append (a b:List Mem):fl (a++b)=fl a++fl b:=by simp [fl]
theorem fl_len:∀ ms:List Mem,(fl ms).length=ms.length * 5
 | []=>rfl
 | m :: r=>by rw [fl_cons,List.length_append,fl_len r,cs_len,List.length_cons];omega
theorem cs_one (m:Mem):∀ v∈m.cs,v.oneCell'=true:=by
 intro v hv;simp [Mem.cs] at hv;rcases hv with rfl | rfl | rfl | rfl | rfl<;>rfl
theorem fl_one (ms:List Mem):∀ v∈fl ms,v.oneCell'=true:=by
 intro v hv
 obtain ⟨m,_,h⟩:=List.mem_flatMap.1 hv
 exact cs_one m v h
theorem fl_get (ms:List Mem) (j:Nat) (hj:j < ms.length) (t:Nat) (ht:t < 5):(fl ms)[j * 5+t]?=(ms.getD j dm).cs[t]?:=by
 induction ms generalizing j with
 | nil=>simp at hj
 | cons m r ih=>
   rw [fl_cons]
   cases j with
   | zero=>rw [List.getElem?_append_left (by rw [cs_len];omega)];simp
   | succ j=>
     rw [List.getElem?_append_right (by rw [cs_len];omega),cs_len,show (j+1) * 5+t - 5=j * 5+t by omega,ih j (by simpa using hj)]
     simp
abbrev Own (base:Nat) (w:World) (v:Value) (ms:List Mem):Prop:=w.ownsRow base 89 5 v ms.length (fl ms)
theorem own_of {base g G:Nat} {w:World} {cur:Array Value} {ms:List Mem} (hb:base≤g) (hg:w.heap[g]?=some (.cells cur 89 (0,0))) (hs:cur.size=G * 5) (hn:ms.length≤G) (hG:G≤maxLen) (ht:cur.toList.take (ms.length * 5)=fl ms) :
 Own base w (.slice (some ⟨g,0,none⟩) ms.length G) ms:=⟨fl_len ms,.inr ⟨g,G,cur,rfl,hb,hg,hn,hG,hs,ht⟩⟩
theorem Own.sl {base:Nat} {w:World} {v:Value} {ms:List Mem} (h:Own base w v ms) (hs:∀ j,(ms.getD j dm).name.size≤maxLen):Sl w v ms:=by
 rcases h.2 with ⟨rfl,h0⟩ | ⟨g,c,cur,rfl,hbg,hg,hnc,hcm,hcs,htake⟩
 ·exact ⟨none,0,by rw [h0],hs,.inl (List.eq_nil_of_length_eq_zero h0)⟩
 ·refine ⟨_,c,rfl,hs,.inr ⟨g,0,rfl,(Array.getElem?_eq_some_iff.1 hg).1,fun j hj=>?_⟩⟩
  have hc:∀ t,t < 5→w.cell? ⟨g,0+j * 5+t,none⟩=(ms.getD j dm).cs[t]?:=fun t ht=>by
   rw [cellsAt hg,← fl_get ms j hj t ht,← htake,List.getElem?_take_of_lt (by omega)];simp
  exact ⟨hc 0 (by omega),hc 1 (by omega),hc 2 (by omega),hc 3 (by omega),hc 4 (by omega)⟩
theorem Own.below {base:Nat} {w w':World} {v:Value} {ms:List Mem} (h:Own base w v ms) (hb:Below w.heap.size w w'):Own base w' v ms:=by
 rcases h.2 with ⟨rfl,h0⟩ | ⟨g,c,cur,rfl,hbg,hg,hnc,hcm,hcs,htake⟩
 ·exact ⟨h.1,.inl ⟨rfl,h0⟩⟩
 ·have hlt:g < w.heap.size:=(Array.getElem?_eq_some_iff.1 hg).1
  exact ⟨h.1,.inr ⟨g,c,cur,rfl,hbg,(hb.block g hlt).trans hg,hnc,hcm,hcs,htake⟩⟩
theorem Own.lt {base:Nat} {w:World} {v:Value} {ms:List Mem} (h:Own base w v ms) (k:Nat) (hk:v.ownBlock=some k):base≤k∧k < w.heap.size:=World.ownsRow.lt h k hk
theorem own_cells {base g c:Nat} {w:World} {ms:List Mem} (h:Own base w (.slice (some ⟨g,0,none⟩) ms.length c) ms) (j:Nat) (hj:j < ms.length) :
 w.cell? ⟨g,j * 5,none⟩=some (.string (ms.getD j dm).name)∧w.cell? ⟨g,j * 5+1,none⟩=some (.int .i64 (ms.getD j dm).state)∧w.cell? ⟨g,j * 5+2,none⟩=some (.int .i64 (ms.getD j dm).life)∧w.cell? ⟨g,j * 5+3,none⟩=some (.int .i64 (ms.getD j dm).addr)∧w.cell? ⟨g,j * 5+4,none⟩=some (.bool (ms.getD j dm).server):=by
 rcases h.2 with ⟨h1,_⟩ | ⟨g',c',cur,h1,hbg,hg,hnc,hcm,hcs,htake⟩
 ·cases h1
 ·simp only [Value.slice.injEq,Option.some.injEq,Addr.mk.injEq] at h1
  obtain ⟨⟨rfl,_,_⟩,_,_⟩:=h1
  have hc:∀ t,t < 5→w.cell? ⟨g,j * 5+t,none⟩=(ms.getD j dm).cs[t]?:=fun t ht=>by
   rw [cellsAt hg,← fl_get ms j hj t ht,← htake,List.getElem?_take_of_lt (by omega)];simp
  exact ⟨hc 0 (by omega),hc 1 (by omega),hc 2 (by omega),hc 3 (by omega),hc 4 (by omega)⟩
theorem own_form {base:Nat} {w:World} {v:Value} {ms:List Mem} (h:Own base w v ms) (p:Nat) (hp:p < ms.length):∃ g c,v=.slice (some ⟨g,0,none⟩) ms.length c:=by
 rcases h.2 with ⟨_,h0⟩ | ⟨g,c,cur,h1,_⟩
 ·omega
 ·exact ⟨g,c,h1⟩
theorem Sl.below {w w':World} {v:Value} {ms:List Mem} (h:Sl w v ms) (hb:Below w.heap.size w w'):Sl w' v ms:=by
 obtain ⟨a,cap,rfl,hs,h⟩:=h
 refine ⟨a,cap,rfl,hs,?_⟩
 rcases h with h | ⟨b,off,rfl,hlt,hr⟩
 ·exact .inl h
 ·refine .inr ⟨b,off,rfl,Nat.lt_of_lt_of_le hlt hb.size,fun j hj=>?_⟩
  obtain ⟨hc,_⟩:=bcell hb
  obtain ⟨c0,c1,c2,c3,c4⟩:=hr j hj
  exact ⟨(hc _ _ hlt).trans c0,(hc _ _ hlt).trans c1,(hc _ _ hlt).trans c2,(hc _ _ hlt).trans c3,(hc _ _ hlt).trans c4⟩
theorem Row.later {w w':World} {b off:Nat} {ms:List Mem} (hr:Row w b off ms) (hb:Below w.heap.size w w') (hlt:b < w.heap.size):Row w' b off ms:=fun j hj=>by
 obtain ⟨hc,_⟩:=bcell hb
 obtain ⟨c0,c1,c2,c3,c4⟩:=hr j hj
 exact ⟨(hc _ _ hlt).trans c0,(hc _ _ hlt).trans c1,(hc _ _ hlt).trans c2,(hc _ _ hlt).trans c3,(hc _ _ hlt).trans c4⟩
theorem Own.mono {base base':Nat} {w:World} {v:Value} {ms:List Mem} (h:Own base w v ms) (hb:base'≤base):Own base' w v ms:=by
 rcases h.2 with ⟨rfl,h0⟩ | ⟨g,c,cur,rfl,hbg,hg,hnc,hcm,hcs,htake⟩
 ·exact ⟨h.1,.inl ⟨rfl,h0⟩⟩
 ·exact ⟨h.1,.inr ⟨g,c,cur,rfl,Nat.le_trans hb hbg,hg,hnc,hcm,hcs,htake⟩⟩
theorem own_nil (base:Nat) (w:World):Own base w (.slice none 0 0) []:=World.ownsRow_nil w base 89 5
theorem ns_mem {ms:List Mem} (h:∀ j,(ms.getD j dm).name.size≤maxLen):∀ m∈ms,(m).name.size≤maxLen:=by
 intro m hm
 obtain ⟨j,hj,rfl⟩:=List.getElem_of_mem hm
 have:=h j
 simpa [List.getD,List.getElem?_eq_getElem hj] using this
theorem ns_get {ms:List Mem} (h:∀ m∈ms,(m).name.size≤maxLen):∀ j,(ms.getD j dm).name.size≤maxLen:=by
 intro j
 by_cases hj:j < ms.length
 ·have:=h ms[j] (List.getElem_mem hj)
  simpa [List.getD,List.getElem?_eq_getElem hj] using this
 ·simp [List.getD,List.getElem?_eq_none (Nat.le_of_not_lt hj),dm]
theorem own_names {base:Nat} {w:World} {v:Value} {ms:List Mem} (h:Own base w v ms) (hs:∀ m∈ms,(m).name.size≤maxLen):Sl w v ms:=h.sl (ns_get hs)
theorem sl_one (w:World) (b cap:Nat) (m:Mem) (hm:(m).name.size≤maxLen) (hg:w.heap[b]?=some (.cells #[.string m.name,.int .i64 m.state,.int .i64 m.life,.int .i64 m.addr,.bool m.server] 89 (0,0))):Sl w (.slice (some ⟨b,0,none⟩) 1 cap) [m]:=by
 refine ⟨_,cap,rfl,ns_get (fun x hx=>by simp at hx;subst hx;exact hm),.inr ⟨b,0,rfl,(Array.getElem?_eq_some_iff.1 hg).1,fun j hj=>?_⟩⟩
 have:j=0:=by simpa using hj
 subst this
 exact ⟨cellsAt hg (0+0 * 5),cellsAt hg (0+0 * 5+1),cellsAt hg (0+0 * 5+2),cellsAt hg (0+0 * 5+3),cellsAt hg (0+0 * 5+4)⟩
theorem own_snoc {base:Nat} {w:World} {v:Value} {L:List Mem} {m:Mem} (h:w.ownsRow base 89 5 v (L.length+1) (fl L++m.cs)):Own base w v (L++[m]):=by
 have e:fl (L++[m])=fl L++m.cs:=by rw [fl_append,fl_cons];simp [fl]
 show w.ownsRow base 89 5 v (L++[m]).length (fl (L++[m]))
 rw [e,List.length_append]
 exact h
end Go.Proofs.YtignmeaeibaejaaGreatDoor
namespace Go.Proofs.YtignmeaeibaejaaGreatDoor
namespace Rc
open Go.RowKit
structure Rec where
 name:ByteArray
 typ:Int
 lasts:Int
 addr:Int
 text:ByteArray
 port:Int
 target:ByteArray
def dm:Rec:=⟨ByteArray.empty,0,0,0,ByteArray.empty,0,ByteArray.empty⟩
def Rec.ok (m:Rec):Prop:=m.name.size≤maxLen∧m.text.size≤maxLen∧m.target.size≤maxLen
theorem dm_ok:dm.ok:=by simp [Rec.ok,dm]
def Row (w:World) (b off:Nat) (ms:List Rec):Prop:=∀ j,j < ms.length →
 w.cell? ⟨b,off+j * 7,none⟩=some (.string (ms.getD j dm).name)∧w.cell? ⟨b,off+j * 7+1,none⟩=some (.int .i64 (ms.getD j dm).typ)∧w.cell? ⟨b,off+j * 7+2,none⟩=some (.int .i64 (ms.getD j dm).lasts)∧w.cell? ⟨b,off+j * 7+3,none⟩=some (.int .i64 (ms.getD j dm).addr)∧w.cell? ⟨b,off+j * 7+4,none⟩=some (.string (ms.getD j dm).text)∧w.cell? ⟨b,off+j * 7+5,none⟩=some (.int .i64 (ms.getD j dm).port)∧w.cell? ⟨b,off+j * 7+6,none⟩=some (.string (ms.getD j dm).target)
def Sl (w:World) (v:Value) (ms:List Rec):Prop:=
 ∃ (a:Option Addr) (cap:Nat),v=.slice a ms.length cap∧(∀ j,(ms.getD j dm).ok) ∧
  (ms=[]∨∃ b off,a=some ⟨b,off,none⟩∧b < w.heap.size∧Row w b off ms)
def Rec.cs (m:Rec):List Value:=[.string m.name,.int .i64 m.typ,.int .i64 m.lasts,.int .i64 m.addr,.string m.text,.int .i64 m.port,.string m.target]
def fl (ms:List Rec):List Value:=ms.flatMap Rec.cs
theorem cs_len (m:Rec):m.cs.length=7:=rfl
theorem fl_cons (m:Rec) (r:List Rec):fl (m :: r)=m.cs++fl r:=by simp [fl]
theorem fl_append (a b:List Rec):fl (a++b)=fl a++fl b:=by simp [fl]
theorem fl_len:∀ ms:List Rec,(fl ms).length=ms.length * 7
 | []=>rfl
 | m :: r=>by rw [fl_cons,List.length_append,fl_len r,cs_len,List.length_cons];omega
theorem cs_one (m:Rec):∀ v∈m.cs,v.oneCell'=true:=by
 intro v hv;simp [Rec.cs] at hv;rcases hv with rfl | rfl | rfl | rfl | rfl | rfl | rfl<;>rfl
theorem fl_one (ms:List Rec):∀ v∈fl ms,v.oneCell'=true:=by
 intro v hv
 obtain ⟨m,_,h⟩:=List.mem_flatMap.1 hv
 exact cs_one m v h
theorem fl_get (ms:List Rec) (j:Nat) (hj:j < ms.length) (t:Nat) (ht:t < 7):(fl ms)[j * 7+t]?=(ms.getD j dm).cs[t]?:=by
 induction ms generalizing j with
 | nil=>simp at hj
 | cons m r ih=>
   rw [fl_cons]
   cases j with
   | zero=>rw [List.getElem?_append_left (by rw [cs_len];omega)];simp
   | succ j=>
     rw [List.getElem?_append_right (by rw [cs_len];omega),cs_len,show (j+1) * 7+t - 7=j * 7+t by omega,ih j (by simpa using hj)]
     simp
abbrev Own (base:Nat) (w:World) (v:Value) (ms:List Rec):Prop:=w.ownsRow base 59 7 v ms.length (fl ms)
theorem own_of {base g G:Nat} {w:World} {cur:Array Value} {ms:List Rec} (hb:base≤g) (hg:w.heap[g]?=some (.cells cur 59 (0,0))) (hs:cur.size=G * 7) (hn:ms.length≤G) (hG:G≤maxLen) (ht:cur.toList.take (ms.length * 7)=fl ms) :
 Own base w (.slice (some ⟨g,0,none⟩) ms.length G) ms:=⟨fl_len ms,.inr ⟨g,G,cur,rfl,hb,hg,hn,hG,hs,ht⟩⟩
theorem Own.sl {base:Nat} {w:World} {v:Value} {ms:List Rec} (h:Own base w v ms) (hs:∀ j,(ms.getD j dm).ok):Sl w v ms:=by
 rcases h.2 with ⟨rfl,h0⟩ | ⟨g,c,cur,rfl,hbg,hg,hnc,hcm,hcs,htake⟩
 ·exact ⟨none,0,by rw [h0],hs,.inl (List.eq_nil_of_length_eq_zero h0)⟩
 ·refine ⟨_,c,rfl,hs,.inr ⟨g,0,rfl,(Array.getElem?_eq_some_iff.1 hg).1,fun j hj=>?_⟩⟩
  have hc:∀ t,t < 7→w.cell? ⟨g,0+j * 7+t,none⟩=(ms.getD j dm).cs[t]?:=fun t ht=>by
   rw [cellsAt hg,← fl_get ms j hj t ht,← htake,List.getElem?_take_of_lt (by omega)];simp
  exact ⟨hc 0 (by omega),hc 1 (by omega),hc 2 (by omega),hc 3 (by omega),hc 4 (by omega),hc 5 (by omega),hc 6 (by omega)⟩
theorem Own.below {base:Nat} {w w':World} {v:Value} {ms:List Rec} (h:Own base w v ms) (hb:Below w.heap.size w w'):Own base w' v ms:=by
 rcases h.2 with ⟨rfl,h0⟩ | ⟨g,c,cur,rfl,hbg,hg,hnc,hcm,hcs,htake⟩
 ·exact ⟨h.1,.inl ⟨rfl,h0⟩⟩
 ·have hlt:g < w.heap.size:=(Array.getElem?_eq_some_iff.1 hg).1
  exact ⟨h.1,.inr ⟨g,c,cur,rfl,hbg,(hb.block g hlt).trans hg,hnc,hcm,hcs,htake⟩⟩
theorem Own.lt {base:Nat} {w:World} {v:Value} {ms:List Rec} (h:Own base w v ms) (k:Nat) (hk:v.ownBlock=some k):base≤k∧k < w.heap.size:=World.ownsRow.lt h k hk
theorem own_cells {base g c:Nat} {w:World} {ms:List Rec} (h:Own base w (.slice (some ⟨g,0,none⟩) ms.length c) ms) (j:Nat) (hj:j < ms.length) :
 w.cell? ⟨g,j * 7,none⟩=some (.string (ms.getD j dm).name)∧w.cell? ⟨g,j * 7+1,none⟩=some (.int .i64 (ms.getD j dm).typ)∧w.cell? ⟨g,j * 7+2,none⟩=some (.int .i64 (ms.getD j dm).lasts)∧w.cell? ⟨g,j * 7+3,none⟩=some (.int .i64 (ms.getD j dm).addr)∧w.cell? ⟨g,j * 7+4,none⟩=some (.string (ms.getD j dm).text)∧w.cell? ⟨g,j * 7+5,none⟩=some (.int .i64 (ms.getD j dm).port)∧w.cell? ⟨g,j * 7+6,none⟩=some (.string (ms.getD j dm).target):=by
 rcases h.2 with ⟨h1,_⟩ | ⟨g',c',cur,h1,hbg,hg,hnc,hcm,hcs,htake⟩
 ·cases h1
 ·simp only [Value.slice.injEq,Option.some.injEq,Addr.mk.injEq] at h1
  obtain ⟨⟨rfl,_,_⟩,_,_⟩:=h1
  have hc:∀ t,t < 7→w.cell? ⟨g,j * 7+t,none⟩=(ms.getD j dm).cs[t]?:=fun t ht=>by
   rw [cellsAt hg,← fl_get ms j hj t ht,← htake,List.getElem?_take_of_lt (by omega)];simp
  exact ⟨hc 0 (by omega),hc 1 (by omega),hc 2 (by omega),hc 3 (by omega),hc 4 (by omega),hc 5 (by omega),hc 6 (by omega)⟩
theorem own_form {base:Nat} {w:World} {v:Value} {ms:List Rec} (h:Own base w v ms) (p:Nat) (hp:p < ms.length):∃ g c,v=.slice (some ⟨g,0,none⟩) ms.length c:=by
 rcases h.2 with ⟨_,h0⟩ | ⟨g,c,cur,h1,_⟩
 ·omega
 ·exact ⟨g,c,h1⟩
theorem Sl.below {w w':World} {v:Value} {ms:List Rec} (h:Sl w v ms) (hb:Below w.heap.size w w'):Sl w' v ms:=by
 obtain ⟨a,cap,rfl,hs,h⟩:=h
 refine ⟨a,cap,rfl,hs,?_⟩
 rcases h with h | ⟨b,off,rfl,hlt,hr⟩
 ·exact .inl h
 ·refine .inr ⟨b,off,rfl,Nat.lt_of_lt_of_le hlt hb.size,fun j hj=>?_⟩
  obtain ⟨hc,_⟩:=bcell hb
  obtain ⟨c0,c1,c2,c3,c4,c5,c6⟩:=hr j hj
  exact ⟨(hc _ _ hlt).trans c0,(hc _ _ hlt).trans c1,(hc _ _ hlt).trans c2,(hc _ _ hlt).trans c3,(hc _ _ hlt).trans c4,(hc _ _ hlt).trans c5,(hc _ _ hlt).trans c6⟩
theorem Row.later {w w':World} {b off:Nat} {ms:List Rec} (hr:Row w b off ms) (hb:Below w.heap.size w w') (hlt:b < w.heap.size):Row w' b off ms:=fun j hj=>by
 obtain ⟨hc,_⟩:=bcell hb
 obtain ⟨c0,c1,c2,c3,c4,c5,c6⟩:=hr j hj
 exact ⟨(hc _ _ hlt).trans c0,(hc _ _ hlt).trans c1,(hc _ _ hlt).trans c2,(hc _ _ hlt).trans c3,(hc _ _ hlt).trans c4,(hc _ _ hlt).trans c5,(hc _ _ hlt).trans c6⟩
theorem Own.mono {base base':Nat} {w:World} {v:Value} {ms:List Rec} (h:Own base w v ms) (hb:base'≤base):Own base' w v ms:=by
 rcases h.2 with ⟨rfl,h0⟩ | ⟨g,c,cur,rfl,hbg,hg,hnc,hcm,hcs,htake⟩
 ·exact ⟨h.1,.inl ⟨rfl,h0⟩⟩
 ·exact ⟨h.1,.inr ⟨g,c,cur,rfl,Nat.le_trans hb hbg,hg,hnc,hcm,hcs,htake⟩⟩
theorem own_nil (base:Nat) (w:World):Own base w (.slice none 0 0) []:=World.ownsRow_nil w base 59 7
theorem ns_mem {ms:List Rec} (h:∀ j,(ms.getD j dm).ok):∀ m∈ms,(m).ok:=by
 intro m hm
 obtain ⟨j,hj,rfl⟩:=List.getElem_of_mem hm
 have:=h j
 simpa [List.getD,List.getElem?_eq_getElem hj] using this
theorem ns_get {ms:List Rec} (h:∀ m∈ms,(m).ok):∀ j,(ms.getD j dm).ok:=by
 intro j
 by_cases hj:j < ms.length
 ·have:=h ms[j] (List.getElem_mem hj)
  simpa [List.getD,List.getElem?_eq_getElem hj] using this
 ·rw [List.getD,List.getElem?_eq_none (Nat.le_of_not_lt hj)];exact dm_ok
theorem own_names {base:Nat} {w:World} {v:Value} {ms:List Rec} (h:Own base w v ms) (hs:∀ m∈ms,(m).ok):Sl w v ms:=h.sl (ns_get hs)
theorem sl_one (w:World) (b cap:Nat) (m:Rec) (hm:(m).ok) (hg:w.heap[b]?=some (.cells #[.string m.name,.int .i64 m.typ,.int .i64 m.lasts,.int .i64 m.addr,.string m.text,.int .i64 m.port,.string m.target] 59 (0,0))):Sl w (.slice (some ⟨b,0,none⟩) 1 cap) [m]:=by
 refine ⟨_,cap,rfl,ns_get (fun x hx=>by simp at hx;subst hx;exact hm),.inr ⟨b,0,rfl,(Array.getElem?_eq_some_iff.1 hg).1,fun j hj=>?_⟩⟩
 have:j=0:=by simpa using hj
 subst this
 exact ⟨cellsAt hg (0+0 * 7),cellsAt hg (0+0 * 7+1),cellsAt hg (0+0 * 7+2),cellsAt hg (0+0 * 7+3),cellsAt hg (0+0 * 7+4),cellsAt hg (0+0 * 7+5),cellsAt hg (0+0 * 7+6)⟩
theorem own_snoc {base:Nat} {w:World} {v:Value} {L:List Rec} {m:Rec} (h:w.ownsRow base 59 7 v (L.length+1) (fl L++m.cs)):Own base w v (L++[m]):=by
 have e:fl (L++[m])=fl L++m.cs:=by rw [fl_append,fl_cons];simp [fl]
 show w.ownsRow base 59 7 v (L++[m]).length (fl (L++[m]))
 rw [e,List.length_append]
 exact h
end Rc
namespace Rc
open Go.RowKit
def sameM (x y:Rec):Bool:=x.name.toList == y.name.toList && (x.typ == y.typ && (x.lasts == y.lasts && (x.addr == y.addr && (x.text.toList == y.text.toList && (x.port == y.port && (x.target.toList == y.target.toList))))))
theorem sameM_iff (x y:Rec):sameM x y=true↔x=y:=by
 obtain ⟨x_name,x_typ,x_lasts,x_addr,x_text,x_port,x_target⟩:=x
 obtain ⟨y_name,y_typ,y_lasts,y_addr,y_text,y_port,y_target⟩:=y
 simp only [sameM,Bool.and_eq_true,beq_iff_eq,Rec.mk.injEq,Lib.toList_data]
 constructor
 ·rintro ⟨h0,h1,h2,h3,h4,h5,h6⟩;exact ⟨ba_ext h0,h1,h2,h3,ba_ext h4,h5,ba_ext h6⟩
 ·rintro ⟨h0,h1,h2,h3,h4,h5,h6⟩;exact ⟨by rw [h0],h1,h2,h3,by rw [h4],h5,by rw [h6]⟩
theorem eqInE (m1 m2:Rec) (w:World):(Op.equalIn 10000 59 (.agg #[.string m1.name,.int .i64 m1.typ,.int .i64 m1.lasts,.int .i64 m1.addr,.string m1.text,.int .i64 m1.port,.string m1.target]) (.agg #[.string m2.name,.int .i64 m2.typ,.int .i64 m2.lasts,.int .i64 m2.addr,.string m2.text,.int .i64 m2.port,.string m2.target])).run Tryz.prog w=.ok (sameM m1 m2) w:=by
 have u3:=Tryz.underlying3
 have u9:=Tryz.underlying9
 have a3:=Tryz.isAgg3
 have z3:=Tryz.sizeOf3
 have a9:=Tryz.isAgg9
 have z9:=Tryz.sizeOf9
 have hS:Tryz.prog.underlying 59=some (.struct (Tryz.prog.fieldsOf 59)):=by kernel_rfl
 have hp:Tryz.prog.stoodInHeld 59=false:=by kernel_rfl
 rw [show (10000:Nat)=9999+1 from rfl,run_equalIn_agg w 9999 59 _ _ hS hp]
 simp only [Program.fieldsOf,Tryz.underlying59]
 go_simp
 unfold sameM
 by_cases h0:m1.name.toList=m2.name.toList
 case neg=>simp [h0]
 by_cases h1:m1.typ=m2.typ
 case neg=>simp [h0,h1]
 by_cases h2:m1.lasts=m2.lasts
 case neg=>simp [h0,h1,h2]
 by_cases h3:m1.addr=m2.addr
 case neg=>simp [h0,h1,h2,h3]
 by_cases h4:m1.text.toList=m2.text.toList
 case neg=>simp [h0,h1,h2,h3,h4]
 by_cases h5:m1.port=m2.port
 case neg=>simp [h0,h1,h2,h3,h4,h5]
 by_cases h6:m1.target.toList=m2.target.toList
 case neg=>simp [h0,h1,h2,h3,h4,h5,h6]
 simp [h0,h1,h2,h3,h4,h5,h6]
theorem eqE (m1 m2:Rec) (w:World):Sem.run Tryz.prog (binOp .eql 59 (.agg #[.string m1.name,.int .i64 m1.typ,.int .i64 m1.lasts,.int .i64 m1.addr,.string m1.text,.int .i64 m1.port,.string m1.target]) (.agg #[.string m2.name,.int .i64 m2.typ,.int .i64 m2.lasts,.int .i64 m2.addr,.string m2.text,.int .i64 m2.port,.string m2.target])) w=.ok (.bool (sameM m1 m2)) w:=by
 rw [run_eql_struct,eqInE]
 rfl
end Rc
namespace Rc
open Go.RowKit
end Rc
end Go.Proofs.YtignmeaeibaejaaGreatDoor
namespace Go.Proofs.YtignmeaeibaejaaGreatDoor
open Go.ChangeShapes Go.WideShapes Go.ChangeAt Go.RowKit
section
variable {H:Type} {enc:TypeId × Value→H} {w:World} {base:Nat} {spare:Nat→Bool} {held:Bool}
theorem Tryz.kcT:Tryz.prog.cellsOf 89=5:=by kernel_rfl
theorem Tryz.kc9:Tryz.prog.cellsOf 9=1:=by kernel_rfl
theorem Tryz.kc3:Tryz.prog.cellsOf 3=1:=by kernel_rfl
theorem Tryz.kc4:Tryz.prog.cellsOf 4=1:=by kernel_rfl
set_option maxRecDepth 100000 in
theorem elT_of_trod {fuel:Nat} {cs:List Value} {x:DataW H × List MemPlace} (h:DataW.trod enc Tryz.prog w base spare held fuel 89 cs=some x) :
 ∃ m:Mem,cs=[.string m.name,.int .i64 m.state,.int .i64 m.life,.int .i64 m.addr,.bool m.server]∧(m).name.size≤maxLen:=by
 obtain ⟨xs,n,_,_,hl,hlen,hf⟩:=DataW.trod_struct Tryz.underlying89 h
 rw [Tryz.kcT] at hl
 match cs,hl with
 | [c0,c1,c2,c3,c4],_=>
   match xs,hlen with
   | [y0,y1,y2,y3,y4],_=>
     have h0:=hf 0 _ rfl
     have h1:=hf 1 _ rfl
     have h2:=hf 2 _ rfl
     have h3:=hf 3 _ rfl
     have h4:=hf 4 _ rfl
     simp [Tryz.kc9] at h0
     simp [Tryz.kc3] at h1
     simp [Tryz.kc3] at h2
     simp [Tryz.kc3] at h3
     simp [Tryz.kc4] at h4
     obtain ⟨z0,e0,_,g0⟩:=DataW.trod_string Tryz.underlying9 h0
     obtain ⟨z1,e1,_⟩:=DataW.trod_int Tryz.underlying3 h1
     obtain ⟨z2,e2,_⟩:=DataW.trod_int Tryz.underlying3 h2
     obtain ⟨z3,e3,_⟩:=DataW.trod_int Tryz.underlying3 h3
     obtain ⟨z4,e4,_⟩:=DataW.trod_bool Tryz.underlying4 h4
     simp only [List.cons.injEq,and_true] at e0 e1 e2 e3 e4
     subst e0 e1 e2 e3 e4
     exact ⟨⟨z0,z1,z2,z3,z4⟩,rfl,g0⟩
set_option maxRecDepth 100000 in
theorem elsT_of_trod {fuel:Nat} {cs:List Value} {x:DataW H × List MemPlace} (h:DataW.trod enc Tryz.prog w base spare held fuel 23 cs=some x) :
 ∃ (p:Option Addr) (n c:Nat) (ms:List Mem),cs=[.slice p n c]∧Sl w (.slice p n c) ms∧ms.length≤maxLen:=by
 rcases Go.Deep.open_slice Tryz.underlying23 h with ⟨hcs,_⟩ | ⟨x,len,cap,m,n,D,Pl,hcs,hb,hl,hm,hmm,_,hx⟩
 ·exact ⟨none,0,0,[],hcs,⟨none,0,rfl,ns_get (by simp),.inl rfl⟩,by simp⟩
 ·have hlm:len≤m:=by rw [hmm];split<;>omega
  have hall:∀ i,i < len→∃ q:Mem,(∀ t,t < 5→w.cell? (x.add (i * 5+t))=q.cs[t]?)∧(q).name.size≤maxLen:=fun i hi=>by
   obtain ⟨cs',h1,h2⟩:=hx i (by omega)
   obtain ⟨q,hq,hs⟩:=elT_of_trod h2
   rw [Tryz.kcT] at h1
   obtain ⟨_,_,h3⟩:=World.cells?_some h1
   refine ⟨q,fun t ht=>?_,hs⟩
   rw [← Go.Deep.add_add,h3 t ht,hq]
   rfl
  have hinh:Inhabited Mem:=⟨dm⟩
  obtain ⟨F,hF⟩:=Go.Deep.choose_lt (α:=Mem) (p:=fun i q=>(∀ t,t < 5→w.cell? (x.add (i * 5+t))=q.cs[t]?)∧(q).name.size≤maxLen) hall
  have hget:∀ j,j < len→((List.range len).map F).getD j dm=F j:=fun j hj=>by simp [List.getD,hj]
  refine ⟨some x,len,cap,(List.range len).map F,hcs,⟨some x,cap,by simp,ns_get (fun q hq=>?_),?_⟩,by simp;omega⟩
  ·obtain ⟨j,hj,rfl⟩:=List.mem_map.1 hq
   exact (hF j (List.mem_range.1 hj)).2
  ·by_cases h0:len=0
   ·left;simp [h0]
   ·right
    obtain ⟨b,off,spot⟩:=x
    have hc0:=(hF 0 (by omega)).1 0 (by omega)
    have hspot:spot=none:=by simpa [Addr.add] using World.cell?_spot hc0
    subst hspot
    have hcell:∀ j,j < len→∀ t,t < 5→w.cell? ⟨b,off+j * 5+t,none⟩=(F j).cs[t]?:=fun j hj t ht=>by
     have:=(hF j hj).1 t ht
     rwa [Go.WideShapes.add_plain,← Nat.add_assoc] at this
    refine ⟨b,off,rfl,World.block_lt_of_cell? w ⟨b,off+0 * 5+0,none⟩ (hcell 0 (by omega) 0 (by omega)),fun j hj=>?_⟩
    have hj':j < len:=by simpa using hj
    rw [hget j hj']
    exact ⟨hcell j hj' 0 (by omega),hcell j hj' 1 (by omega),hcell j hj' 2 (by omega),hcell j hj' 3 (by omega),hcell j hj' 4 (by omega)⟩
end
section
variable {H:Type} {enc:TypeId × Value→H} {w:World} {base:Nat} {spare:Nat→Bool} {held:Bool}
end
end Go.Proofs.YtignmeaeibaejaaGreatDoor
