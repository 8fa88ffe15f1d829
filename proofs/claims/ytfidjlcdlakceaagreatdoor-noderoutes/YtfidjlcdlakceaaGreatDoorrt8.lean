import Derived.Test.YtfidjlcdlakceaaGreatDoorrt7
import Derived.Deep.RegionHeld3
set_option maxHeartbeats 800000
open List renaming getD_cons_zero→I4,getD_cons_succ→Jv
open Option renaming none→Y,some→Z
open Go.Value renaming int→O,string→I,bool→AT
open Go.IntKind renaming i64→J
open Go.Proofs.Tryz renaming func219→Qn,ntmps219→Qa
open Go renaming wp_loop_rounds→JQ,rounds_succ→Jx,heap_alloc_new→Ie
open Go.World renaming new_ne→Jo
namespace Go.Proofs.YtfidjlcdlakceaaGreatDoor
namespace Sv
open Go.RowKit
def ord:ba->ba->Int:=RL.lex (λa b=>bl a.node b.node) (λa b=>bl a.cF b.cF)
theorem keyed:RL.Keyed ord:=RL.Fw (RL.mv ba.node) (RL.mv ba.cF)
def VV:ba->ba->Int:=RL.lex (λa b=>a.version-b.version) (RL.lex (λa b=>RL.bI a.gone-RL.bI b.gone) (RL.lex (λa b=>bl a.name b.name) (RL.lex (λa b=>bl a.tag b.tag) (RL.lex (λa b=>a.addr-b.addr) (RL.lex (λa b=>a.port-b.port) (λa b=>RL.bI a.aO-RL.bI b.aO))))))
def fX(a b:ba):Bool:=decide (0<VV a b)
abbrev dt(ms:List ba):Prop:=RL.dt ord ms
abbrev aZ(a b:List ba):List ba:=RL.join ord fX a b
abbrev aC(ms:List ba):Bool:=RL.aC ord ms
theorem dM(ms:List ba)(h:∀j,j+1<ms.length->ord (ms.getD j dm) (ms.getD (j+1) dm)<0):aC ms=true:=RL.fF ord dm ms h
theorem dL(ms:List ba)(h:aC ms=true):∀j,j+1<ms.length->ord (ms.getD j dm) (ms.getD (j+1) dm)<0:=RL.fG ord dm ms h
def ki(t:ByteArray):Bool:=decide (t=ByteArray.empty)||aA t
def ba.e(m:ba):Int:=
 if(aA m.node&&(aA m.cF&&(aA m.name&&ki m.tag)))=true then(if(within m.addr 0 4294967295&&(within m.port 0 65535&&within m.version 1 1000000))=true then 0 else 3) else 1
def aQ:List ba->Int
 |[]=>0
 |m::r=>if m.e=0 then aQ r else m.e
theorem bM:∀(ms:List ba),(∀j,j<ms.length->(ms.getD j dm).e=0)->aQ ms=0
 |[],_=>rfl
 |m::r,h=>by
  have h0:=h 0 (by simp);simp only[I4] at h0;rw[aQ,if_pos h0];exact bM r λj hj=>by have:=h (j+1) (by simpa using hj);simpa using this
theorem dv:∀(ms:List ba) (k:Nat),k<ms.length->(∀j,j<k->(ms.getD j dm).e=0)->(ms.getD k dm).e≠0->aQ ms=(ms.getD k dm).e
 |[],k,h,_,_=>by simp at h
 |m::r,0,_,_,bE=>by
  simp only[I4] at bE ⊢;rw[aQ,if_neg bE]
 |m::r,k+1,h,hz,bE=>by
  have h0:=hz 0 (by omega);simp only[I4] at h0;rw[aQ,if_pos h0,Jv];rw[Jv] at bE;exact dv r k (by simpa using h) (λj hj=>by have:=hz (j+1) (by omega);simpa using this) bE
theorem dw:∀(ms:List ba),aQ ms=0->∀m∈ms,m.e=0
 |[],_,m,hm=>by simp at hm
 |x::r,h,m,hm=>by
  rw[aQ] at h;split at h
  .rename_i hx
   rcases List.mem_cons.1 hm with rfl|hm
   .exact hx
   .exact dw r h m hm
  .rename_i hx;exact absurd h hx
def aM(ms:List ba):Int:=if 40<ms.length then 2 else if aQ ms=0 then(if aC ms=true then 0 else 4) else aQ ms
theorem ll(ms:List ba)(k:Nat)(hn:ms.length<=40)(hk:k<ms.length)(hz:∀j,j<k->(ms.getD j dm).e=0)(bE:(ms.getD k dm).e≠0):aM ms=(ms.getD k dm).e:=by
 have h:=dv ms k hk hz bE;rw[aM,if_neg (by omega),h,if_neg bE]
theorem ja(ms:List ba)(hn:ms.length<=40)(hz:∀j,j<ms.length->(ms.getD j dm).e=0):aM ms=if aC ms=true then 0 else 4:=by
 rw[aM,if_neg (by omega),bM ms hz,if_pos rfl]
theorem sf(ms:List ba)(k:Nat)(hn:ms.length<=40)(hz:∀j,j<ms.length->(ms.getD j dm).e=0)(hk:k+1<ms.length)(hl:¬ ord (ms.getD k dm) (ms.getD (k+1) dm)<0):aM ms=4:=by
 rw[ja ms hn hz,if_neg];intro h;exact hl (dL ms h k hk)
theorem sg(ms:List ba)(hn:ms.length<=40)(hz:∀j,j<ms.length->(ms.getD j dm).e=0)(hl:∀j,j+1<ms.length->ord (ms.getD j dm) (ms.getD (j+1) dm)<0):aM ms=0:=by
 rw[ja ms hn hz,if_pos (dM ms hl)]
theorem aI{ms:List ba}(h:aM ms=0):ms.length<=40/\dt ms/\aQ ms=0:=by
 unfold aM at h;split at h
 .omega
 .split at h
  .rename_i h1 h2
   split at h
   .rename_i h3
    exact⟨by omega,RL.kd ord keyed ms h3,h2⟩
   .omega
  .rename_i h1 h2;exact absurd h h2
def aY(a b:List ba):Int:=if aM a=0 then aM b else aM a
def aX(a b:List ba):Int:=if aY a b=0 then(if 40<(aZ a b).length then 2 else 0) else aY a b
end Sv
namespace Sv
open Go.RowKit
theorem vZ{W:World}{cs:Array Value}{t:TypeId}{g k:Nat}(hg:g=W.heap.size):(W.alloc (.cells cs t)).cell? ⟨g,k,Y⟩=cs[k]?:=by subst hg;simp
def SR(a b:Int):Int:=if a=0 then b else a
theorem BQ(a b:Int)(g:Nat)(c:Nat)(w:World)(h0:w.cell? ⟨g,0,Y⟩=Z (O J a))(h1:w.cell? ⟨g,1,Y⟩=Z (O J b)) :
 aT 219 #[.slice (Z ⟨g,0,Y⟩) 2 c] w λe w'=>e=.returned (O J (SR a b))/\w'=w:=by
 by_cases ha:a=0
 .subst ha
  by_cases hb:b=0
  .subst hb
   go_enter Qn,Qa;go_wp2_with fail;refine JQ 3 ?_;rw[Jx];go_wp2_with fail;rw[Jx];go_wp2_with fail;rw[Jx];go_wp2_with fail;go_ret;exact⟨rfl,rfl⟩
  .have Hi:(b !=0)=true:=by simpa using hb
   go_enter Qn,Qa;go_wp2_with fail;refine JQ 3 ?_;rw[Jx];go_wp2_with fail;rw[Jx];go_wp2_with fail;go_ret;exact⟨rfl,rfl⟩
 .have ha':(a !=0)=true:=by simpa using ha
  go_enter Qn,Qa;go_wp2_with fail;refine JQ 3 ?_;rw[Jx];go_wp2_with fail;go_ret;exact⟨aj (by unfold SR;rw[if_neg ha]),rfl⟩
theorem eO(a b:ba)(w:World) :
 aT 182 #[.agg #[I a.node,I a.cF,I a.name,I a.tag,O J a.addr,O J a.port,AT a.aO,O J a.version,AT a.gone],.agg #[I b.node,I b.cF,I b.name,I b.tag,O J b.addr,O J b.port,AT b.aO,O J b.version,AT b.gone]] w λe w'=>e=.returned (O J (ord a b))/\Below w.heap.size w w':=by
 go_enter Tryz.func182,Tryz.ntmps182;go_wp2_with fail;obtain⟨W,hW⟩:∃W,W=(w.alloc (.cells #[I a.node,I a.cF,I a.name,I a.tag,O J a.addr,O J a.port,AT a.aO,O J a.version,AT a.gone] 52)).alloc (.cells #[I b.node,I b.cF,I b.name,I b.tag,O J b.addr,O J b.port,AT b.aO,O J b.version,AT b.gone] 52):=⟨_,rfl⟩;rw[<- hW];have eG:Below w.heap.size w W:=by rw[hW];exact((Below.refl _ _).alloc (Nat.le_refl _) _).alloc (by simp) _
 have lX:W.heap[w.heap.size]?=Z (.cells #[I a.node,I a.cF,I a.name,I a.tag,O J a.addr,O J a.port,AT a.aO,O J a.version,AT a.gone] 52 (0,0)):=by
  rw[hW,Below.heap_alloc _ _ _ (by simp)];exact Ie w _
 have Cs:W.heap[w.heap.size+1]?=Z (.cells #[I b.node,I b.cF,I b.name,I b.tag,O J b.addr,O J b.port,AT b.aO,O J b.version,AT b.gone] 52 (0,0)):=by
  have h:=Ie (w.alloc (.cells #[I a.node,I a.cF,I a.name,I a.tag,O J a.addr,O J a.port,AT a.aO,O J a.version,AT a.gone] 52)) (.cells #[I b.node,I b.cF,I b.name,I b.tag,O J b.addr,O J b.port,AT b.aO,O J b.version,AT b.gone] 52);rw[hW];simpa using h
 have n0:W.cell? ⟨w.heap.size,0,Y⟩=Z (I a.node):=af lX 0;have n1:W.cell? ⟨w.heap.size,1,Y⟩=Z (I a.cF):=af lX 1;have m0:W.cell? ⟨w.heap.size+1,0,Y⟩=Z (I b.node):=af Cs 0;have m1:W.cell? ⟨w.heap.size+1,1,Y⟩=Z (I b.cF):=af Cs 1;have uv:Hid (Below w.heap.size w W):=eG;have pY:=eG.size;have h1:=Jo W _ n0;have h2:=Jo W _ n1;have h3:=Jo W _ m0;have h4:=Jo W _ m1;clear lX Cs hW eG;go_region_held3 (λw'=>w'.cell? ⟨w.heap.size,0,Y⟩=Z (I a.node)/\w'.cell? ⟨w.heap.size,1,Y⟩=Z (I a.cF)/\w'.cell? ⟨w.heap.size+1,0,Y⟩=Z (I b.node)/\w'.cell? ⟨w.heap.size+1,1,Y⟩=Z (I b.cF)) (go_keep) (first|(go_at_call 110;refine(fC _ _ _).mono ?_;rintro e w' ⟨rfl,rfl⟩)|(go_at_call 219;refine(BQ (bl a.node b.node) (bl a.cF b.cF) _ _ _ (vZ rfl) (vZ rfl)).mono ?_;rintro e w' ⟨rfl,rfl⟩))
 go_wp2_with fail;go_ret;exact⟨rfl,(uv.out.alloc pY _).drew⟩
end Sv
end Go.Proofs.YtfidjlcdlakceaaGreatDoor
