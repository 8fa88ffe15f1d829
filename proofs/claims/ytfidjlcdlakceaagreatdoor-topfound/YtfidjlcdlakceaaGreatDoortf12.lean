import Derived.Test.YtfidjlcdlakceaaGreatDoortf3
import Derived.Deep.RegionHeld3
set_option maxHeartbeats 1600000
open List renaming getD_cons_zero→IT,getD_cons_succ→Jx
open Go.Obj renaming cells→AT
open Option renaming none→Y,some→Z
open Go.Value renaming int→O,agg→Im,string→I,bool→AI
open Go.IntKind renaming i64→J
open Go.Proofs.Tryz renaming func219→Qq,ntmps219→Qc,func207→Ub,ntmps207→QQ
open Go renaming wp_loop_rounds→JT,rounds_succ→JC,heap_alloc_new→Ie
open Go.World renaming new_ne→Ju
namespace Go.Proofs.YtfidjlcdlakceaaGreatDoor
namespace Sv
open Go.RowKit
def ord:aI->aI->Int:=RL.lex (λa b=>bz a.node b.node) (λa b=>bz a.bF b.bF)
theorem keyed:RL.Keyed ord:=RL.Gs (RL.ni aI.node) (RL.ni aI.bF)
def MT:aI->aI->Int:=RL.lex (λa b=>a.version-b.version) (RL.lex (λa b=>RL.bI a.gone-RL.bI b.gone) (RL.lex (λa b=>bz a.name b.name) (RL.lex (λa b=>bz a.tag b.tag) (RL.lex (λa b=>a.addr-b.addr) (RL.lex (λa b=>a.port-b.port) (λa b=>RL.bI a.au-RL.bI b.au))))))
def cP(a b:aI):Bool:=decide (0<MT a b)
abbrev bO(ms:List aI):Prop:=RL.bO ord ms
abbrev aZ(ms:List aI)(m:aI):List aI:=RL.iE ord cP ms m
abbrev ay(a b:List aI):List aI:=RL.join ord cP a b
abbrev At(ms:List aI)(t:aI)(p:Nat)(f:Bool):Prop:=RL.At ord dm ms t p f
abbrev aE(ms:List aI):Bool:=RL.aE ord ms
theorem dG{ms:List aI}(h:bO ms)(t:aI):∀i j,i<=j->j<ms.length->ord (ms.getD j dm) t<0->ord (ms.getD i dm) t<0:=RL.dG ord dm keyed h t
theorem fe(ms:List aI)(h:∀j,j+1<ms.length->ord (ms.getD j dm) (ms.getD (j+1) dm)<0):aE ms=true:=RL.gf ord dm ms h
theorem fc(ms:List aI)(h:aE ms=true):∀j,j+1<ms.length->ord (ms.getD j dm) (ms.getD (j+1) dm)<0:=RL.gS ord dm ms h
theorem eV{ms:List aI}{t:aI}{p q:Nat}{f e:Bool}(h:At ms t p f)(k:At ms t q e):p=q/\f=e:=RL.eV ord dm h k
theorem dM(ms:List aI)(m:aI)(p:Nat)(f:Bool)(h:At ms m p f) :
 aZ ms m=if f=true then(if cP m (ms.getD p dm)=true then ms.set p m else ms) else ms.take p++m::ms.drop p:=RL.sQ ord cP dm ms m p f h
theorem gQ(b a:List aI)(h:bO a):bO (ay a b):=RL.qj ord cP keyed b a h
theorem dY(b a:List aI):(ay a b).length<=a.length+b.length:=RL.tH ord cP b a
theorem qk(b a:List aI)(x:aI)(h:x∈ay a b):x∈a\/x∈b:=RL.tI ord cP b a x h
theorem jb(a b:List aI)(j:Nat)(hj:j<b.length):ay a (b.take (j+1))=aZ (ay a (b.take j)) (b.getD j dm):=RL.xe ord cP dm a b j hj
theorem j9(b:List aI)(h:bO b):ay [] b=b:=RL.join_nil ord cP b h
theorem jR(b a:List aI)(ha:∀m∈a,m.ok)(hb:∀m∈b,m.ok):∀x∈ay a b,x.ok:=by
 intro x hx;rcases qk b a x hx with h|h
 .exact ha x h
 .exact hb x h
def tJ(t:ByteArray):Bool:=decide (t=ByteArray.empty)||aN t
def aI.e(m:aI):Int:=
 if(aN m.node&&(aN m.bF&&(aN m.name&&tJ m.tag)))=true then(if(within m.addr 0 4294967295&&(within m.port 0 65535&&within m.version 1 1000000))=true then 0 else 3) else 1
def aV:List aI->Int
 |[]=>0
 |m::r=>if m.e=0 then aV r else m.e
theorem bY:∀(ms:List aI),(∀j,j<ms.length->(ms.getD j dm).e=0)->aV ms=0
 |[],_=>rfl
 |m::r,h=>by
  have h0:=h 0 (by simp);simp only[IT] at h0;rw[aV,if_pos h0];exact bY r λj hj=>by have:=h (j+1) (by simpa using hj);simpa using this
theorem dI:∀(ms:List aI) (k:Nat),k<ms.length->(∀j,j<k->(ms.getD j dm).e=0)->(ms.getD k dm).e≠0->aV ms=(ms.getD k dm).e
 |[],k,h,_,_=>by simp at h
 |m::r,0,_,_,bu=>by
  simp only[IT] at bu ⊢;rw[aV,if_neg bu]
 |m::r,k+1,h,hz,bu=>by
  have h0:=hz 0 (by omega);simp only[IT] at h0;rw[aV,if_pos h0,Jx];rw[Jx] at bu;exact dI r k (by simpa using h) (λj hj=>by have:=hz (j+1) (by omega);simpa using this) bu
theorem dh:∀(ms:List aI),aV ms=0->∀m∈ms,m.e=0
 |[],_,m,hm=>by simp at hm
 |x::r,h,m,hm=>by
  rw[aV] at h;split at h
  .rename_i hx
   rcases List.mem_cons.1 hm with rfl|hm
   .exact hx
   .exact dh r h m hm
  .rename_i hx;exact absurd h hx
def ba(ms:List aI):Int:=if 40<ms.length then 2 else if aV ms=0 then(if aE ms=true then 0 else 4) else aV ms
theorem tC(ms:List aI)(k:Nat)(hn:ms.length<=40)(hk:k<ms.length)(hz:∀j,j<k->(ms.getD j dm).e=0)(bu:(ms.getD k dm).e≠0):ba ms=(ms.getD k dm).e:=by
 have h:=dI ms k hk hz bu;rw[ba,if_neg (by omega),h,if_neg bu]
theorem rD(ms:List aI)(hn:ms.length<=40)(hz:∀j,j<ms.length->(ms.getD j dm).e=0):ba ms=if aE ms=true then 0 else 4:=by
 rw[ba,if_neg (by omega),bY ms hz,if_pos rfl]
theorem aF{ms:List aI}(h:ba ms=0):ms.length<=40/\bO ms/\aV ms=0:=by
 unfold ba at h;split at h
 .omega
 .split at h
  .rename_i h1 h2
   split at h
   .rename_i h3
    exact⟨by omega,RL.kY ord keyed ms h3,h2⟩
   .omega
  .rename_i h1 h2;exact absurd h h2
theorem Tn:ba []=0:=rfl
def aJ(a b:List aI):Int:=if ba a=0 then ba b else ba a
def eK(a b:List aI)(k:Nat):List aI:=if k=0 then[] else if k=1 then a else ay a b
def aA(a b:List aI):Int:=if aJ a b=0 then(if 40<(ay a b).length then 2 else 0) else aJ a b
end Sv
namespace Sv
open Go.RowKit
theorem xf{W:World}{cs:Array Value}{t:TypeId}{g k:Nat}(hg:g=W.heap.size):(W.alloc (AT cs t)).cell? ⟨g,k,Y⟩=cs[k]?:=by subst hg;simp
theorem Af{a b:ByteArray}(h:¬ a=b):Op.bytesLess a.toList b.toList = !Op.bytesLess b.toList a.toList:=by
 have h1:=tp b.toList a.toList;rw[(hY h).1,Bool.or_false] at h1;exact h1.symm
def WB(a b:Int):Int:=if a=0 then b else a
theorem CP(a b:Int)(g:Nat)(c:Nat)(w:World)(h0:w.cell? ⟨g,0,Y⟩=Z (O J a))(h1:w.cell? ⟨g,1,Y⟩=Z (O J b)) :
 aP 219 #[.slice (Z ⟨g,0,Y⟩) 2 c] w λe w'=>e=.returned (O J (WB a b))/\w'=w:=by
 by_cases ha:a=0
 .subst ha
  by_cases hb:b=0
  .subst hb
   go_enter Qq,Qc;go_wp2_with fail;refine JT 3 ?_;rw[JC];go_wp2_with fail;rw[JC];go_wp2_with fail;rw[JC];go_wp2_with fail;go_ret;exact⟨rfl,rfl⟩
  .have zT:(b !=0)=true:=by simpa using hb
   go_enter Qq,Qc;go_wp2_with fail;refine JT 3 ?_;rw[JC];go_wp2_with fail;rw[JC];go_wp2_with fail;go_ret;exact⟨rfl,rfl⟩
 .have ha':(a !=0)=true:=by simpa using ha
  go_enter Qq,Qc;go_wp2_with fail;refine JT 3 ?_;rw[JC];go_wp2_with fail;go_ret;exact⟨aj (by unfold WB;rw[if_neg ha]),rfl⟩
theorem cW(a b:aI)(w:World) :
 aP 182 #[Im #[I a.node,I a.bF,I a.name,I a.tag,O J a.addr,O J a.port,AI a.au,O J a.version,AI a.gone],Im #[I b.node,I b.bF,I b.name,I b.tag,O J b.addr,O J b.port,AI b.au,O J b.version,AI b.gone]] w λe w'=>e=.returned (O J (ord a b))/\Below w.heap.size w w':=by
 go_enter Tryz.func182,Tryz.ntmps182;go_wp2_with fail;obtain⟨W,hW⟩:∃W,W=(w.alloc (AT #[I a.node,I a.bF,I a.name,I a.tag,O J a.addr,O J a.port,AI a.au,O J a.version,AI a.gone] 52)).alloc (AT #[I b.node,I b.bF,I b.name,I b.tag,O J b.addr,O J b.port,AI b.au,O J b.version,AI b.gone] 52):=⟨_,rfl⟩;rw[<- hW];have ez:Below w.heap.size w W:=by rw[hW];exact((Below.refl _ _).alloc (Nat.le_refl _) _).alloc (by simp) _
 have pX:W.heap[w.heap.size]?=Z (AT #[I a.node,I a.bF,I a.name,I a.tag,O J a.addr,O J a.port,AI a.au,O J a.version,AI a.gone] 52 (0,0)):=by
  rw[hW,Below.heap_alloc _ _ _ (by simp)];exact Ie w _
 have zI:W.heap[w.heap.size+1]?=Z (AT #[I b.node,I b.bF,I b.name,I b.tag,O J b.addr,O J b.port,AI b.au,O J b.version,AI b.gone] 52 (0,0)):=by
  have h:=Ie (w.alloc (AT #[I a.node,I a.bF,I a.name,I a.tag,O J a.addr,O J a.port,AI a.au,O J a.version,AI a.gone] 52)) (AT #[I b.node,I b.bF,I b.name,I b.tag,O J b.addr,O J b.port,AI b.au,O J b.version,AI b.gone] 52);rw[hW];simpa using h
 have n0:W.cell? ⟨w.heap.size,0,Y⟩=Z (I a.node):=af pX 0;have n1:W.cell? ⟨w.heap.size,1,Y⟩=Z (I a.bF):=af pX 1;have m0:W.cell? ⟨w.heap.size+1,0,Y⟩=Z (I b.node):=af zI 0;have m1:W.cell? ⟨w.heap.size+1,1,Y⟩=Z (I b.bF):=af zI 1;have wm:Hid (Below w.heap.size w W):=ez;have oX:=ez.size;have h1:=Ju W _ n0;have h2:=Ju W _ n1;have h3:=Ju W _ m0;have h4:=Ju W _ m1;clear pX zI hW ez;go_region_held3 (λw'=>w'.cell? ⟨w.heap.size,0,Y⟩=Z (I a.node)/\w'.cell? ⟨w.heap.size,1,Y⟩=Z (I a.bF)/\w'.cell? ⟨w.heap.size+1,0,Y⟩=Z (I b.node)/\w'.cell? ⟨w.heap.size+1,1,Y⟩=Z (I b.bF)) (go_keep) (first|(go_at_call 110;refine(fb _ _ _).mono ?_;rintro e w' ⟨rfl,rfl⟩)|(go_at_call 219;refine(CP (bz a.node b.node) (bz a.bF b.bF) _ _ _ (xf rfl) (xf rfl)).mono ?_;rintro e w' ⟨rfl,rfl⟩))
 go_wp2_with fail;go_ret;exact⟨rfl,(wm.out.alloc oX _).drew⟩
theorem jc(a b:aI):cP a b=if a.version=b.version then(if a.gone=b.gone then(if a.name=b.name then(if a.tag=b.tag then(if a.addr=b.addr then(if a.port=b.port then(a.au&&!b.au) else decide (b.port<a.port)) else decide (b.addr<a.addr)) else less b.tag a.tag) else less b.name a.name) else a.gone) else decide (b.version<a.version):=by
 have hI:∀x y:Int,(x-y=0)↔x=y:=λx y=>by omega
 have hB:∀x y:Bool,(RL.bI x=RL.bI y)↔x=y:=λx y=>⟨λh=>RL.XM (by omega),λh=>by rw[h]⟩;have hP:∀x y:Int,(0<x-y)↔y<x:=λx y=>by omega
 have hL:∀x y:ByteArray,decide (0<bz x y)=less y x:=λx y=>by rw[Bool.eq_iff_iff,decide_eq_true_eq];exact mV x y
 have hG:∀x y:Bool,x≠y->decide (0<RL.bI x-RL.bI y)=x:=λx y h=>by cases x<;>cases y<;>simp[RL.bI] at h ⊢
 have hQ:∀x y:Bool,decide (0<RL.bI x-RL.bI y)=(x&&!y):=λx y=>by cases x<;>cases y<;>simp[RL.bI]
 simp only[cP,MT,RL.lex,hI,hB,cU];by_cases h1:a.version=b.version
 .simp only[if_pos h1]
  by_cases h2:a.gone=b.gone
  .simp only[if_pos h2]
   by_cases h3:a.name=b.name
   .simp only[if_pos h3]
    by_cases h4:a.tag=b.tag
    .simp only[if_pos h4]
     by_cases h5:a.addr=b.addr
     .simp only[if_pos h5]
      by_cases h6:a.port=b.port
      .simp only[if_pos h6];exact hQ _ _
      .simp only[if_neg h6,hP]
     .simp only[if_neg h5,hP]
    .simp only[if_neg h4];exact hL _ _
   .simp only[if_neg h3];exact hL _ _
  .simp only[if_neg h2];exact hG _ _ h2
 .simp only[if_neg h1,hP]
theorem CQ(f:Nat)(hf:f=207)(a_node:ByteArray)(a_idn:ByteArray)(a_name:ByteArray)(a_tag:ByteArray)(a_addr:Int)(a_port:Int)(a_passing:Bool)(a_version:Int)(a_gone:Bool)(b_node:ByteArray)(b_idn:ByteArray)(b_name:ByteArray)(b_tag:ByteArray)(b_addr:Int)(b_port:Int)(b_passing:Bool)(b_version:Int)(b_gone:Bool)(w:World) :
 nZ f #[Im #[I a_node,I a_idn,I a_name,I a_tag,O J a_addr,O J a_port,AI a_passing,O J a_version,AI a_gone],Im #[I b_node,I b_idn,I b_name,I b_tag,O J b_addr,O J b_port,AI b_passing,O J b_version,AI b_gone]] w (AI (cP ⟨a_node,a_idn,a_name,a_tag,a_addr,a_port,a_passing,a_version,a_gone⟩ ⟨b_node,b_idn,b_name,b_tag,b_addr,b_port,b_passing,b_version,b_gone⟩)):=by
 subst hf;have hB:Hid (Below w.heap.size w ((w.alloc (AT #[I a_node,I a_idn,I a_name,I a_tag,O J a_addr,O J a_port,AI a_passing,O J a_version,AI a_gone] 52)).alloc (AT #[I b_node,I b_idn,I b_name,I b_tag,O J b_addr,O J b_port,AI b_passing,O J b_version,AI b_gone] 52))):=((Below.refl _ _).alloc (Nat.le_refl _) _).alloc (by simp) _;by_cases h1:a_version=b_version
 .subst h1
  by_cases h2:a_gone=b_gone
  .subst h2
   by_cases h3:a_name=b_name
   .subst h3
    by_cases h4:a_tag=b_tag
    .subst h4
     by_cases h5:a_addr=b_addr
     .subst h5
      by_cases h6:a_port=b_port
      .subst h6
       cases a_passing
       all_goals
        go_enter Ub,QQ;go_wp2;go_ret;exact⟨aD (by rw[jc];simp),hB.out⟩
      .have h6':(a_port !=b_port)=true:=by simpa using h6
       go_enter Ub,QQ;go_wp2;go_ret;exact⟨aD (by rw[jc];simp[h6]),hB.out⟩
     .have h5':(a_addr !=b_addr)=true:=by simpa using h5
      go_enter Ub,QQ;go_wp2;go_ret;exact⟨aD (by rw[jc];simp[h5]),hB.out⟩
    .obtain⟨g1,g2⟩:=hY h4
     have H4:Hid (¬ a_tag=b_tag):=h4;clear h4;go_enter Ub,QQ;go_wp2;go_ret;exact⟨aD (by rw[jc];simp[H4.out,less];exact Af H4.out),hB.out⟩
   .obtain⟨g1,g2⟩:=hY h3
    have H3:Hid (¬ a_name=b_name):=h3;clear h3;go_enter Ub,QQ;go_wp2;go_ret;exact⟨aD (by rw[jc];simp[H3.out,less];exact Af H3.out),hB.out⟩
  .have hg:b_gone = !a_gone:=by cases a_gone<;>cases b_gone<;>simp at h2 ⊢
   subst hg;clear h2;cases a_gone
   all_goals
    go_enter Ub,QQ;go_wp2;go_ret;exact⟨aD (by rw[jc];simp),hB.out⟩
 .have CR:(a_version !=b_version)=true:=by simpa using h1
  go_enter Ub,QQ;go_wp2;go_ret;exact⟨aD (by rw[jc];simp[h1]),hB.out⟩
theorem ja(a b:aI)(w:World) :
 aP 207 #[Im #[I a.node,I a.bF,I a.name,I a.tag,O J a.addr,O J a.port,AI a.au,O J a.version,AI a.gone],Im #[I b.node,I b.bF,I b.name,I b.tag,O J b.addr,O J b.port,AI b.au,O J b.version,AI b.gone]] w λe w'=>e=.returned (AI (cP a b))/\Below w.heap.size w w':=
 CQ _ rfl a.node a.bF a.name a.tag a.addr a.port a.au a.version a.gone b.node b.bF b.name b.tag b.addr b.port b.au b.version b.gone w
end Sv
end Go.Proofs.YtfidjlcdlakceaaGreatDoor
