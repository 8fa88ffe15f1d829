import Derived.Test.YtfidjlcdlakceaaGreatDoortf8
import Derived.Deep.AppendLies
import Derived.Test.YtfidjlcdlakceaaGreatDoortf10
set_option maxHeartbeats 6400000
set_option maxRecDepth 100000
open Go.Value renaming int→O,slice→U,agg→Im,tuple→Il,ownBlock→I2,string→I,pointer→If
open Go.IntKind renaming i64→J
open Option renaming some→Z,none→Y
open Nat renaming zero_add→IM,le_refl→By
open Go.Obj renaming cells→AT
open Go renaming heap_alloc_new→Ie,maxLen→Ij,step_append_lies→QD,plainElem→Jo,wp_loop_rounds→JT,rounds_succ→JC
open Go.Ending renaming returned→sh
open Go.Proofs.Tryz renaming prog→be,underlying297→QM,underlying9→IE,underlying223→JH,underlying3→IG,func219→Qq,ntmps219→Qc
open Go.RowKit.Below renaming refl→Ib
open Go.World renaming new_ne→Ju
open Go.Maps renaming has→ON
namespace Go.Proofs.YtfidjlcdlakceaaGreatDoor
open Go.RowKit
abbrev Pl.v5(p:Pl):List Value:=[O J p.x,O J p.y,O J p.z,O J p.h,O J p.s]
theorem Ae{base g c n:Nat}{w:World}{p:Pl}{ms:List Pc.nQ}(hn:ms.length=n)(h:w.ownsRow base 27 5 (U (Z ⟨g,0,Y⟩) (1+n) c) (1+n) (p.v5++Pc.fl ms)):qf w g 0 (p::ms.map dP):=by
 have e:p.v5++Pc.fl ms=Pc.fl (⟨p.x,p.y,p.z,p.h,p.s⟩::ms):=by rw[Pc.aT];rfl
 rw[e] at h;have h2:Pc.Own base w (U (Z ⟨g,0,Y⟩) (Pc.nQ.mk p.x p.y p.z p.h p.s::ms).length c) (⟨p.x,p.y,p.z,p.h,p.s⟩::ms):=by
  show World.ownsRow _ _ _ _ _ _ _;rw[show(Pc.nQ.mk p.x p.y p.z p.h p.s::ms).length=1+n by rw[List.length_cons,hn];omega];exact h
 have h3:Pc.Row w g 0 (⟨p.x,p.y,p.z,p.h,p.s⟩::ms):=λj hj=>by
  have:=Pc.dH h2 j hj;simpa only[IM] using this
 have h4:=Th h3;exact h4
theorem oZ{X:World}{p:Pl}{b base:Nat}(hX:X.heap[b]?=Z (AT #[O J p.x,O J p.y,O J p.z,O J p.h,O J p.s] 27 (0,0)))(hb:base<=b):X.ownsRow base 27 5 (U (Z ⟨b,0,Y⟩) 1 1) 1 p.v5:=
 ⟨rfl,.inr ⟨b,1,_,rfl,hb,hX,By _,by decide,rfl,rfl⟩⟩
theorem ml{base g n c m s:Nat}{e:TypeId}{w:World}{xs:List Value}(h:w.ownsRow base e s (U (Z ⟨g,0,Y⟩) n c) m xs):∀j u,xs[j]?=Z u->w.cell? (Addr.add ⟨g,0,Y⟩ j)=Z u:=λj u hj=>by
 have hl:j<xs.length:=(List.getElem?_eq_some_iff.1 hj).1;rw[Addr.add_lit,IM];rcases h.2 with⟨h1,_⟩|⟨g',c',cur,h1,dQ,hg,eC,dj,cM,aO⟩
 .cases h1
 .simp only[Value.slice.injEq,Option.some.injEq,Addr.mk.injEq] at h1
  obtain⟨⟨rfl,_,_⟩,_,_⟩:=h1;rw[af hg,<- hj,<- aO,List.getElem?_take_of_lt (by rw[<- h.1];exact hl)];simp
theorem nc{W w3:World}{p:Pl}{H:Nat}(hs:W.heap.size=H)(h:Below (W.alloc (AT #[O J p.x,O J p.y,O J p.z,O J p.h,O J p.s] 27)).drew.heap.size (W.alloc (AT #[O J p.x,O J p.y,O J p.z,O J p.h,O J p.s] 27)).drew w3) :
 w3.heap[H]?=Z (AT #[O J p.x,O J p.y,O J p.z,O J p.h,O J p.s] 27 (0,0)):=by
 rw[h.block H (by simp;omega),<- hs];exact Ie W _
theorem Gq(p:Pl)(ms:List Wh.bC)(v:Value)(a2:Option Addr)(m c2:Nat)(w:World)(hv:Wh.Sl w v ms)(hn:ms.length<=100)(nH:0<ms.length)(hm:m<=100)(hb:hZ (p::(dS ms).map dP)=3) :
 Calls be 243 #[Im #[O J p.x,O J p.y,O J p.z,O J p.h,O J p.s],v,U a2 m c2] w λe w'=>e=sh (Il #[U Y 0 0,O J 3])/\Below w.heap.size w w':=by
 obtain⟨i0,ei,bW,fs,eU⟩:=info_parts Tryz.CM;have HV:Hid (Wh.Sl w v ms):=hv;have Gk:(dS ms).length=ms.length:=tE ms;have HP:Hid (∀W,Wh.Sl W v ms->Calls be 264 #[v] W λe w'=>∃g c,e=sh (U (Z ⟨g,0,Y⟩) ms.length c)/\Pc.Own W.heap.size w' (U (Z ⟨g,0,Y⟩) ms.length c) (dS ms)/\Below W.heap.size W w'):=λW h=>by
  refine(tF ms v W h hn).mono ?_;rintro e w' ⟨v',rfl,ho,aU⟩;obtain⟨g,c,pW⟩:=Pc.eL ho 0 (by omega);subst pW;rw[Gk] at ho;exact⟨g,c,by rw[Gk],ho,aU⟩
 have HK:Hid (∀g c W,qf W g 0 (p::(dS ms).map dP)->Calls be 263 #[U (Z ⟨g,0,Y⟩) (1+ms.length) c] W λe w'=>e=sh (O J 3)/\Below W.heap.size W w'):=λg c W h=>by
  have h2:=hJ (p::(dS ms).map dP) g 0 (1+ms.length) c W (by simp[Gk];omega) h (by omega);rw[hb] at h2;exact h2
 obtain⟨pa,ca,pW,_,_⟩:=hv;subst pW;have h1:decide (100<(ms.length:Int))=false:=by simp;omega
 have h2:decide (100<(m:Int))=false:=by simp;omega
 clear hb;generalize yo:ms.length=n at *;have HN:Hid (ms.length=n):=yo;clear yo;have Ti:Hid ((dS ms).length=n):=Gk;clear Gk;go_enter Tryz.func243,Tryz.ntmps243;go_wp2_with fail;obtain⟨W,hW⟩:∃W,W=w.alloc (AT #[O J p.x,O J p.y,O J p.z,O J p.h,O J p.s] 27):=⟨_,rfl⟩;rw[<- hW];have ez:Below w.heap.size w W:=by rw[hW];exact(Ib _ _).alloc (By _) _
 have pX:W.heap[w.heap.size]?=Z (AT #[O J p.x,O J p.y,O J p.z,O J p.h,O J p.s] 27 (0,0)):=by rw[hW];exact Ie w _
 have oX:W.heap.size=w.heap.size+1:=by rw[hW];simp
 have n0:W.cell? ⟨w.heap.size,0,Y⟩=Z (O J p.x):=af pX 0;have n1:W.cell? ⟨w.heap.size,1,Y⟩=Z (O J p.y):=af pX 1;have n2:W.cell? ⟨w.heap.size,2,Y⟩=Z (O J p.z):=af pX 2;have n3:W.cell? ⟨w.heap.size,3,Y⟩=Z (O J p.h):=af pX 3;have n4:W.cell? ⟨w.heap.size,4,Y⟩=Z (O J p.s):=af pX 4;have HVW:Hid (∀W',Below W.heap.size W W'->Wh.Sl W' (U pa n ca) ms):=λW' h=>(HV.out.below ez).below h;have wm:Hid (Below w.heap.size w W):=ez;have e0:=Ju W _ n0;have e1:=Ju W _ n1;have e2:=Ju W _ n2;have e3:=Ju W _ n3;have e4:=Ju W _ n4;clear pX hW ez;have h63:1+n<=Ij:=by unfold Ij;omega
 have Sq:(1+n)*40<=140737488355328:=by omega
 have oi:(Pc.fl (dS ms)).length=n*5:=by rw[Pc.cT,Ti.out]
 have Sr:(Value.slice (Z ⟨w.heap.size+1,0,Y⟩) 1 1).ownBlock≠Z w.heap.size:=λh=>by simp[I2] at h
 go_region_held3 (λw'=>w'.cell? ⟨w.heap.size,0,Y⟩=Z (O J p.x)/\w'.cell? ⟨w.heap.size,1,Y⟩=Z (O J p.y)/\w'.cell? ⟨w.heap.size,2,Y⟩=Z (O J p.z)/\w'.cell? ⟨w.heap.size,3,Y⟩=Z (O J p.h)/\w'.cell? ⟨w.heap.size,4,Y⟩=Z (O J p.s))
  (first
    |go_keep
    |(go_split_ands
      refine⟨?_,?_,?_,?_,?_⟩;all_goals ((rw[ix.cell (by show w.heap.size<_;have h8:=bX.size;have h9:=bf.size;simp at h8 h9;omega)];assumption)))
    |(go_split_ands
      refine⟨?_,?_,?_,?_,?_⟩;all_goals ((rw[bX.cell_far _ (by show w.heap.size<_;have:=bf.size;simp at this ⊢;omega) (Ne.symm Sr)];assumption)))
    |(go_split_ands
      refine⟨?_,?_,?_,?_,?_⟩;all_goals ((rw[bX.cell_far _ (by show w.heap.size<_;have:=bf.size;simp at this ⊢;omega) (by simp[I2];have:=bf.size;simp at this;omega)];assumption)))
    |(go_split_ands
      refine⟨?_,?_,?_,?_,?_⟩;all_goals ((rw[bf.cell (by simp;omega)];first|assumption|simp[*])))
    )
  (first
    |(go_at_call 264;refine(HP.out _ (HVW.out _ ?_)).mono ?_;(focus (repeat(first|exact Ib _ _|refine Below.drew ?_|refine Below.alloc ?_ (by simp) _)));rintro e w3 ⟨g,c,rfl,nf,bf⟩)
    |(go_at_call 263;refine(HK.out _ _ _ (Ae Ti.out iI)).mono ?_;rintro e w6 ⟨rfl,ix⟩)
    |(refine QD _ (by rfl) _ _ _ (by rfl) w.heap.size 27 i0 _ 5 40 QM ei bW fs eU rfl (by omega) (U (Z ⟨w.heap.size+1,0,Y⟩) 1 1) 1 p.v5 (by rfl) (oZ (nc oX bf) (by omega)) ⟨g,0,Y⟩ n c (Pc.fl (dS ms)) (by rfl) oi (ml nf) (Pc.fi _) nH h63 Sq (by have:=bf.size;simp at this;omega) _ rfl ?_
      intro gg cap w5 iI bX cA aL)
    |(refine QD _ (by rfl) _ _ _ (by rfl) w.heap.size 27 i0 _ 5 40 QM ei bW fs eU rfl (by omega) (U (Z ⟨w3.heap.size,0,Y⟩) 1 1) 1 p.v5 (by rfl) (oZ (Ie w3 _) (by have:=bf.size;simp at this;omega)) ⟨g,0,Y⟩ n c (Pc.fl (dS ms)) (by rfl) oi (ml (nf.below ((Ib _ _).alloc (By _) _))) (Pc.fi _) nH h63 Sq (by have:=bf.size;simp at this ⊢;omega) _ rfl ?_
      intro gg cap w5 iI bX cA aL))
 all_goals
  have kX:Hid (Below w.heap.size w w6):=by
   first
    |exact((((wm.out.alloc (by omega) _).drew.trans (bf.mono (by simp;omega))).grown bX (by have:=bf.size;simp at this;omega) (λj hj=>by simp[I2] at hj;omega))).trans (ix.mono (by have h8:=bX.size;have h9:=bf.size;simp at h8 h9;omega))
    |exact(((wm.out.drew.trans (bf.mono (by simp;omega))).alloc (by have:=bf.size;simp at this;omega) _).grown bX (by have:=bf.size;simp at this ⊢;omega) (λj hj=>by simp[I2] at hj;have:=bf.size;simp at this;omega)).trans (ix.mono (by have h8:=bX.size;have h9:=bf.size;simp at h8 h9;omega))
  clear ix bX iI cA aL bf nf Sr;go_wp2_with fail;go_ret2;exact⟨rfl,kX.out⟩
theorem rG(a:Option Addr)(c:Nat)(w:World) :
 Calls be 264 #[U a 0 c] w λe w'=>e=sh (U Y 0 0)/\w'=w:=by
 go_enter Tryz.func264,Tryz.ntmps264;go_wp2_with fail;go_loopw [3,8] (λo i w'=>o=U Y 0 0/\i=O J 0/\w'=w) (λ_ _ _=>0)
 case atStart=>exact⟨rfl,rfl,rfl⟩
 case round=>
  obtain⟨rfl,rfl,hw⟩:=hrel;subst hw;go_wp2_with fail;go_ret;exact⟨rfl,rfl⟩
theorem nh{X:World}{p:Pl}{b:Nat}(hX:X.heap[b]?=Z (AT #[O J p.x,O J p.y,O J p.z,O J p.h,O J p.s] 27 (0,0))):qf X b 0 [p]:=λk hk=>by
 have:k=0:=by simpa using hk
 subst this;exact⟨af hX 0,af hX 1,af hX 2,af hX 3,af hX 4⟩
theorem Gr(p:Pl)(a1 a2:Option Addr)(m c1 c2:Nat)(w:World)(hm:m<=100)(hb:hZ [p]=3) :
 Calls be 243 #[Im #[O J p.x,O J p.y,O J p.z,O J p.h,O J p.s],U a1 0 c1,U a2 m c2] w λe w'=>e=sh (Il #[U Y 0 0,O J 3])/\Below w.heap.size w w':=by
 have HP:Hid (∀W,Calls be 264 #[U a1 0 c1] W λe w'=>e=sh (U Y 0 0)/\Below W.heap.size W w'):=λW=>by
  refine(rG a1 c1 W).mono ?_;rintro e w' ⟨rfl,rfl⟩;exact⟨rfl,Ib _ _⟩
 have HK:Hid (∀g W,qf W g 0 [p]->Calls be 263 #[U (Z ⟨g,0,Y⟩) 1 1] W λe w'=>e=sh (O J 3)/\Below W.heap.size W w'):=λg W h=>by
  have h2:=hJ [p] g 0 1 1 W rfl h (by omega);rw[hb] at h2;exact h2
 have h2:decide (100<(m:Int))=false:=by simp;omega
 clear hb;go_enter Tryz.func243,Tryz.ntmps243;go_wp2_with fail;obtain⟨W,hW⟩:∃W,W=w.alloc (AT #[O J p.x,O J p.y,O J p.z,O J p.h,O J p.s] 27):=⟨_,rfl⟩;rw[<- hW];have ez:Below w.heap.size w W:=by rw[hW];exact(Ib _ _).alloc (By _) _
 have pX:W.heap[w.heap.size]?=Z (AT #[O J p.x,O J p.y,O J p.z,O J p.h,O J p.s] 27 (0,0)):=by rw[hW];exact Ie w _
 have oX:W.heap.size=w.heap.size+1:=by rw[hW];simp
 have n0:W.cell? ⟨w.heap.size,0,Y⟩=Z (O J p.x):=af pX 0;have n1:W.cell? ⟨w.heap.size,1,Y⟩=Z (O J p.y):=af pX 1;have n2:W.cell? ⟨w.heap.size,2,Y⟩=Z (O J p.z):=af pX 2;have n3:W.cell? ⟨w.heap.size,3,Y⟩=Z (O J p.h):=af pX 3;have n4:W.cell? ⟨w.heap.size,4,Y⟩=Z (O J p.s):=af pX 4;have wm:Hid (Below w.heap.size w W):=ez;have e0:=Ju W _ n0;have e1:=Ju W _ n1;have e2:=Ju W _ n2;have e3:=Ju W _ n3;have e4:=Ju W _ n4;clear pX hW ez;go_region_held3 (λw'=>w'.cell? ⟨w.heap.size,0,Y⟩=Z (O J p.x)/\w'.cell? ⟨w.heap.size,1,Y⟩=Z (O J p.y)/\w'.cell? ⟨w.heap.size,2,Y⟩=Z (O J p.z)/\w'.cell? ⟨w.heap.size,3,Y⟩=Z (O J p.h)/\w'.cell? ⟨w.heap.size,4,Y⟩=Z (O J p.s))
  (first
    |go_keep
    |(go_split_ands
      refine⟨?_,?_,?_,?_,?_⟩;all_goals ((rw[ix.cell (by show w.heap.size<_;have h9:=bf.size;simp at h9 ⊢;omega)];first|assumption|simp[*])))
    |(go_split_ands
      refine⟨?_,?_,?_,?_,?_⟩;all_goals ((rw[bf.cell (by simp;omega)];first|assumption|simp[*])))
    )
  (first
    |(go_at_call 264;refine(HP.out _).mono ?_;rintro e w3 ⟨rfl,bf⟩)
    |(go_at_call 263;refine(HK.out _ _ (nh (nc oX bf))).mono ?_;rintro e w6 ⟨rfl,ix⟩)
    |(go_at_call 263;refine(HK.out _ _ (nh (Ie w3 _))).mono ?_;rintro e w6 ⟨rfl,ix⟩))
 all_goals
  have kX:Hid (Below w.heap.size w w6):=by
   first
    |exact((wm.out.alloc (by omega) _).drew.trans (bf.mono (by simp;omega))).trans (ix.mono (by have h9:=bf.size;simp at h9;omega))
    |exact((wm.out.drew.trans (bf.mono (by simp;omega))).alloc (by have:=bf.size;simp at this;omega) _).trans (ix.mono (by have h9:=bf.size;simp at h9 ⊢;omega))
  clear ix bf;go_wp2_with fail;go_ret2;exact⟨rfl,kX.out⟩
end Go.Proofs.YtfidjlcdlakceaaGreatDoor
namespace Go.Proofs.YtfidjlcdlakceaaGreatDoor
open Go.RowKit Go.WideMaps Go.Maps
def Dd(f:Wh.bC->Int)(ms:List Wh.bC):Nat->DataW Unit
 |0=>.map []
 |k+1=>if ON (Dd f ms k) (kS (ms.getD k Wh.dm).node)=true then Dd f ms k else(Dd f ms k).put (kS (ms.getD k Wh.dm).node) (.lit (.int J (f (ms.getD k Wh.dm))))
theorem Wx:Keyed be 9:=string_keyed IE
theorem Tj(w:World):(zeroValue 3).run be w=.ok (O J 0) w:=by kernel_rfl
theorem qg(n:Int)(w:World):(Instr.makeMap 223 (Z (O J n))).run be w=.ok (.map (Z w.heap.size)) (w.alloc (.map #[] 0)):=by
 have h:=run_underlying JH;simp[Instr.makeMap,h,asInt,newObj];rfl
theorem xc{w:World}{b n:Nat}{D:DataW Unit}(h:w.ownsMap be 9 (Jo (H:=Unit) be 3) b n D){s:ByteArray}(hs:s.size<=Ij) :
 ∃c:Int,(Instr.lookup 223 (.map (Z b)) (I s) true).run be w=.ok (Il #[O J c,.bool (ON D (kS s))]) w/\D.atKey (kS s) (.lit (.int J 0))=.lit (.int J c):=by
 obtain⟨v,ps,ia,hv⟩:=h.look_ok Wx JH (Tj _) (plainElem_int IG (by decide)) (keyOf_string_mk IE hs);obtain⟨c,rfl,hc,_⟩:=plainElem_int_inv IG hv;exact⟨c,ia,congrArg Prod.fst hc⟩
def iO(p:Pl)(m:Wh.bC):Int:=MP p (dP (nI m))
theorem Tk{p:Pl}{m:Wh.bC}(hp:zK p)(hm:zK (dP (nI m))):0<=iO p m/\iO p m<=1000000000:=by
 obtain⟨h1,h2⟩:=xd hp hm;have h3:iO p m=j2 p (dP (nI m))+p.h+(dP (nI m)).h:=rfl;have h4:=hp.h0;have h5:=hp.h1;have h6:=hm.h0;have h7:=hm.h1;omega
theorem acv{d:Int}(h0 : -9223372036854775808<=d)(h1:d<=9223372036854775807):(Lit.int .i64 d).wf=true:=by
 show(decide (IntKind.i64.min<=d)&&decide (d<=IntKind.i64.max))=true;rw[Bool.and_eq_true,decide_eq_true_eq,decide_eq_true_eq];exact⟨h0,h1⟩
theorem iU{w w':World}{b n:Nat}{D:DataW Unit}(h:w.ownsMap be 9 (Jo (H:=Unit) be 3) b n D)(hb:Below w.heap.size w w'):w'.ownsMap be 9 (Jo (H:=Unit) be 3) b n D:=by
 have hl:=h.lt;obtain⟨es,clock,h1,h2⟩:=h;exact⟨es,clock,(hb.block b hl).trans h1,h2⟩
theorem wo(p:Pl)(ms:List Wh.bC)(v:Value)(w:World)(hv:Wh.Sl w v ms)(hn:ms.length<=100)(hp:zK p)(kM:∀j,j<ms.length->zK (dP (nI (ms.getD j Wh.dm)))) :
 Calls be 265 #[Im #[O J p.x,O J p.y,O J p.z,O J p.h,O J p.s],v] w λe w'=>∃g,e=sh (.map (Z g))/\w'.ownsMap be 9 (Jo (H:=Unit) be 3) g ms.length (Dd (iO p) ms ms.length)/\w.heap.size<=g/\g<w'.heap.size/\Below w.heap.size w w':=by
 obtain⟨pa,ca,rfl,bA,ha⟩:=hv;have HA:Hid (ms=[]\/∃b off,pa=Z ⟨b,off,Y⟩/\b<w.heap.size/\Wh.Row w b off ms):=ha;have HS:Hid (∀j,(ms.getD j Wh.dm).ok):=bA;have CN:Hid (∀j,j<ms.length->zK (dP (nI (ms.getD j Wh.dm)))):=kM;have HPO:Hid (zK p):=hp;clear ha bA kM hp;generalize hN:ms.length=n at *;have HN:Hid (ms.length=n):=hN;clear hN;have zJ:=qg;go_enter Tryz.func265,Tryz.ntmps265;go_wp2_with fail;have pX:((w.alloc (AT #[O J p.x,O J p.y,O J p.z,O J p.h,O J p.s] 27)).alloc (.map #[] 0)).heap[w.heap.size]?=Z (AT #[O J p.x,O J p.y,O J p.z,O J p.h,O J p.s] 27 (0,0)):=by
  rw[Below.heap_alloc _ _ _ (by simp)];exact Ie w _
 have wm:Hid (Below w.heap.size w ((w.alloc (AT #[O J p.x,O J p.y,O J p.z,O J p.h,O J p.s] 27)).alloc (.map #[] 0))):=((Ib _ _).alloc (By _) _).alloc (by simp) _;have Ct:Hid (((w.alloc (AT #[O J p.x,O J p.y,O J p.z,O J p.h,O J p.s] 27)).alloc (.map #[] 0)).ownsMap be 9 (Jo (H:=Unit) be 3) (w.heap.size+1) 0 (.map [])):=by
  have h:=World.ownsMap_made (w.alloc (AT #[O J p.x,O J p.y,O J p.z,O J p.h,O J p.s] 27)) be 9 (Jo (H:=Unit) be 3);rw[show(w.alloc (AT #[O J p.x,O J p.y,O J p.z,O J p.h,O J p.s] 27)).heap.size=w.heap.size+1 by simp] at h;exact h
 generalize(w.alloc (AT #[O J p.x,O J p.y,O J p.z,O J p.h,O J p.s] 27)).alloc (.map #[] 0)=W at *;go_loopw [15] (λi wr=>∃k:Nat,k<=n/\i=O J k/\Hid (wr.ownsMap be 9 (Jo (H:=Unit) be 3) (w.heap.size+1) k (Dd (iO p) ms k))/\Hid (Below w.heap.size w wr)/\Hid (wr.heap[w.heap.size]?=Z (AT #[O J p.x,O J p.y,O J p.z,O J p.h,O J p.s] 27 (0,0)))) (λi _=>n-(intOf i).toNat)
 case atStart=>exact⟨0,Nat.zero_le _,rfl,Ct,wm,pX⟩
 case round=>
  obtain⟨k,hk,rfl,HO,HB,HG⟩:=hrel;have hlm:=HO.out.lt;by_cases aL:k<n
  .obtain⟨b,off,lP,eY,hr⟩:∃b off,pa=Z ⟨b,off,Y⟩/\b<w.heap.size/\Wh.Row w b off ms:=by
    rcases HA.out with h|h
    .have:=HN.out;rw[h] at this;simp at this;omega
    .exact h
   subst lP;obtain⟨c0,c1,c2,c3,c4,c5⟩:=hr.later HB.out eY k (by rw[HN.out];exact aL);have bA:(ms.getD k Wh.dm).node.size<=Ij:=HS.out k;have CL:keyOf be 9 (I (ms.getD k Wh.dm).node)=Z (kS (ms.getD k Wh.dm).node):=keyOf_string_mk IE bA;obtain⟨lc,hlk,_⟩:=xc (HO.out.alloc (AT #[I (ms.getD k Wh.dm).node,O J (ms.getD k Wh.dm).x,O J (ms.getD k Wh.dm).y,O J (ms.getD k Wh.dm).z,O J (ms.getD k Wh.dm).h,O J (ms.getD k Wh.dm).s] 142)) bA;have HOM:Hid (zK (dP (nI (ms.getD k Wh.dm)))):=CN.out k aL;have HDD:Hid (Dd (iO p) ms (k+1)=if ON (Dd (iO p) ms k) (kS (ms.getD k Wh.dm).node)=true then Dd (iO p) ms k else(Dd (iO p) ms k).put (kS (ms.getD k Wh.dm).node) (.lit (.int J (iO p (ms.getD k Wh.dm))))):=rfl;generalize Ss:Dd (iO p) ms (k+1)=D2 at *;have lQ:Hid (Dd (iO p) ms (k+1)=D2):=Ss;clear Ss hr;generalize Dd (iO p) ms k=D at *;generalize ms.getD k Wh.dm=m at *;rcases hhas:ON D (kS m.node) with _|_
   .rw[hhas] at hlk
    have HDP:Hid (D2=D.put (kS m.node) (.lit (.int J (iO p m)))):=by have h:=HDD.out;rw[hhas] at h;exact h
    clear HDD;have agC:Hid (∀W,Calls be 286 #[Im #[O J p.x,O J p.y,O J p.z,O J p.h,O J p.s],Im #[O J m.x,O J m.y,O J m.z,O J m.h,O J m.s]] W λe w'=>e=sh (O J (iO p m))/\Below W.heap.size W w'):=λW=>Tl p (dP (nI m)) W HPO.out HOM.out;have hfb:=Tk HPO.out HOM.out;have HEL:Hid (Jo (H:=Unit) be 3 (O J (iO p m))=Z (.lit (.int J (iO p m)),[])):=plainElem_int IG (acv (by omega) (by omega));generalize iO p m=fd at *;obtain⟨nd,x,y,z,h,s⟩:=m;simp only at *;go_wp2_with fail;obtain⟨X,hX⟩:∃X,X=wr.alloc (AT #[I nd,O J x,O J y,O J z,O J h,O J s] 142):=⟨_,rfl⟩;rw[<- hX];have Wy:Below wr.heap.size wr X:=by rw[hX];exact(Ib _ _).alloc (By _) _
    have eu:X.heap[wr.heap.size]?=Z (AT #[I nd,O J x,O J y,O J z,O J h,O J s] 142 (0,0)):=by rw[hX];exact Ie wr _
    have hsX:X.heap.size=wr.heap.size+1:=by rw[hX];simp
    have XL:X.heap[w.heap.size]?=Z (AT #[O J p.x,O J p.y,O J p.z,O J p.h,O J p.s] 27 (0,0)):=(Wy.block _ (by omega)).trans HG.out;have Wz:Hid (X.ownsMap be 9 (Jo (H:=Unit) be 3) (w.heap.size+1) k D):=iU HO.out Wy;have CO:Hid (Below w.heap.size w X):=HB.out.trans (Wy.mono HB.out.size);have f0:X.cell? ⟨w.heap.size,0,Y⟩=Z (O J p.x):=af XL 0;have f1:X.cell? ⟨w.heap.size,1,Y⟩=Z (O J p.y):=af XL 1;have f2:X.cell? ⟨w.heap.size,2,Y⟩=Z (O J p.z):=af XL 2;have f3:X.cell? ⟨w.heap.size,3,Y⟩=Z (O J p.h):=af XL 3;have f4:X.cell? ⟨w.heap.size,4,Y⟩=Z (O J p.s):=af XL 4;have q0:X.cell? ⟨wr.heap.size,0,Y⟩=Z (I nd):=af eu 0;have q1:X.cell? ⟨wr.heap.size,1,Y⟩=Z (O J x):=af eu 1;have q2:X.cell? ⟨wr.heap.size,2,Y⟩=Z (O J y):=af eu 2;have q3:X.cell? ⟨wr.heap.size,3,Y⟩=Z (O J z):=af eu 3;have q4:X.cell? ⟨wr.heap.size,4,Y⟩=Z (O J h):=af eu 4;have q5:X.cell? ⟨wr.heap.size,5,Y⟩=Z (O J s):=af eu 5;have HGF:Hid (X.heap[w.heap.size]?=Z (AT #[O J p.x,O J p.y,O J p.z,O J p.h,O J p.s] 27 (0,0))):=XL;have vu:k<Ij:=by unfold Ij;omega
    clear hX Wy eu XL HG HO;go_region_held3 (λw'=>w'.cell? ⟨w.heap.size,0,Y⟩=Z (O J p.x)/\w'.cell? ⟨w.heap.size,1,Y⟩=Z (O J p.y)/\w'.cell? ⟨w.heap.size,2,Y⟩=Z (O J p.z)/\w'.cell? ⟨w.heap.size,3,Y⟩=Z (O J p.h)/\w'.cell? ⟨w.heap.size,4,Y⟩=Z (O J p.s)/\w'.cell? ⟨wr.heap.size,0,Y⟩=Z (I nd)/\w'.cell? ⟨wr.heap.size,1,Y⟩=Z (O J x)/\w'.cell? ⟨wr.heap.size,2,Y⟩=Z (O J y)/\w'.cell? ⟨wr.heap.size,3,Y⟩=Z (O J z)/\w'.cell? ⟨wr.heap.size,4,Y⟩=Z (O J h)/\w'.cell? ⟨wr.heap.size,5,Y⟩=Z (O J s))
     (first
       |go_keep
       |(go_split_ands
         refine⟨?_,?_,?_,?_,?_,?_,?_,?_,?_,?_,?_⟩;all_goals ((rw[yr.cell_far _ (by first|(show w.heap.size<_;have h9:=wu.size;simp at h9;omega)|(show wr.heap.size<_;have h9:=wu.size;simp at h9;omega)) (by intro e;have e2:=Option.some.inj e;first|omega|(simp only at e2;omega))];assumption)))
       |(go_split_ands
         refine⟨?_,?_,?_,?_,?_,?_,?_,?_,?_,?_,?_⟩;all_goals ((rw[wu.cell (by first|(show w.heap.size<_;simp;omega)|(show wr.heap.size<_;simp;omega))];first|assumption|simp[*]))))
     (first
       |(go_at_call 286;refine(agC.out _).mono ?_;rintro e w8 ⟨rfl,wu⟩;obtain⟨w9,acx,WA,yr⟩:=(iU (show X.drew.ownsMap _ _ _ _ _ _ from Wz.out.drew) wu).update Wx JH vu CL HEL.out))
    have h8s:X.heap.size<=w8.heap.size:=by have h9:=wu.size;simpa using h9
    have qi:Hid (Below w.heap.size w w9):=(CO.out.drew.trans (wu.mono (by simp;omega))).grown yr (by omega) (λj hj=>by cases hj;omega);have HG9:Hid (w9.heap[w.heap.size]?=Z (AT #[O J p.x,O J p.y,O J p.z,O J p.h,O J p.s] 27 (0,0))):=by
     have h1:=yr.block w.heap.size (by omega) (by intro e;have e2:=Option.some.inj e;omega);have h2:=wu.block w.heap.size (by simp;omega);exact h1.trans (h2.trans HGF.out)
    have HO9:Hid (w9.ownsMap be 9 (Jo (H:=Unit) be 3) (w.heap.size+1) (k+1) (D.put (kS nd) (.lit (.int J fd)))):=WA;clear wu acx WA yr;go_wp2_with fail;exact⟨⟨k+1,by omega,by go_num,by rw[lQ.out,HDP.out];exact HO9.out,qi,HG9⟩,by simp[intOf];omega⟩
   .rw[hhas] at hlk
    have HDP:Hid (D2=D):=by have h:=HDD.out;rw[hhas] at h;exact h
    clear HDD;obtain⟨nd,x,y,z,h,s⟩:=m;simp only at *;go_wp2_with fail;have hba:Below wr.heap.size wr (wr.alloc (AT #[I nd,O J x,O J y,O J z,O J h,O J s] 142)):=(Ib _ _).alloc (By _) _;exact⟨⟨k+1,by omega,by go_num,by rw[lQ.out,HDP.out];exact(HO.out.alloc _).mono (by omega),HB.out.alloc HB.out.size _,(hba.block _ (by omega)).trans HG.out⟩,by simp[intOf];omega⟩
  .have fM:k=n:=by omega
   subst fM;go_wp2_with fail;go_ret;exact⟨_,rfl,HO.out,by omega,hlm,HB.out⟩
def tG(a b:Int):Int:=if a<b then -1 else if b<a then 1 else 0
theorem wv(a b:Int)(w:World) :
 Calls be 220 #[O J a,O J b] w λe w'=>e=sh (O J (tG a b))/\w'=w:=by
 go_enter Tryz.func220,Tryz.ntmps220;go_wp2;all_goals
  go_ret;exact⟨aj (by unfold tG;(repeat' split)<;>omega),rfl⟩
def MQ(a b:Int):Int:=if a=0 then b else a
theorem Tm(a b:Int)(g:Nat)(c:Nat)(w:World)(h0:w.cell? ⟨g,0,Y⟩=Z (O J a))(h1:w.cell? ⟨g,1,Y⟩=Z (O J b)) :
 Calls be 219 #[U (Z ⟨g,0,Y⟩) 2 c] w λe w'=>e=sh (O J (MQ a b))/\w'=w:=by
 by_cases ha:a=0
 .subst ha
  by_cases hb:b=0
  .subst hb
   go_enter Qq,Qc;go_wp2_with fail;refine JT 3 ?_;rw[JC];go_wp2_with fail;rw[JC];go_wp2_with fail;rw[JC];go_wp2_with fail;go_ret;exact⟨rfl,rfl⟩
  .have zT:(b !=0)=true:=by simpa using hb
   go_enter Qq,Qc;go_wp2_with fail;refine JT 3 ?_;rw[JC];go_wp2_with fail;rw[JC];go_wp2_with fail;go_ret;exact⟨rfl,rfl⟩
 .have ha':(a !=0)=true:=by simpa using ha
  go_enter Qq,Qc;go_wp2_with fail;refine JT 3 ?_;rw[JC];go_wp2_with fail;go_ret;exact⟨aj (by unfold MQ;rw[if_neg ha]),rfl⟩
def dV(D:DataW Unit)(s:ByteArray):Int:=if ON D (kS s)=true then(match D.atKey (kS s) (.lit (.int J 0)) with | .lit (.int _ c)=>c|_=>0) else 9223372036854775807
theorem MR(s:ByteArray)(kb g n:Nat)(D:DataW Unit)(w:World)(hs:s.size<=Ij)(hk:w.cell? ⟨kb,0,Y⟩=Z (.map (Z g)))(hm:w.ownsMap be 9 (Jo (H:=Unit) be 3) g n D) :
 Calls be 266 #[I s,If (Z ⟨kb,0,Y⟩)] w λe w'=>e=sh (O J (dV D s))/\w'=w:=by
 obtain⟨c,hl,hc⟩:=xc hm hs;have HV:Hid (dV D s=if ON D (kS s)=true then c else 9223372036854775807):=by
  show dV D s=_;unfold dV;rw[hc]
 clear hc hm;rcases hh:ON D (kS s) with _|_
 .rw[hh] at hl
  have HV2:Hid (dV D s=9223372036854775807):=by have h:=HV.out;rw[hh] at h;exact h
  clear HV;go_enter Tryz.func266,Tryz.ntmps266;go_wp2_with fail;go_ret;exact⟨aj HV2.out.symm,rfl⟩
 .rw[hh] at hl
  have HV2:Hid (dV D s=c):=by have h:=HV.out;rw[hh] at h;exact h
  clear HV;go_enter Tryz.func266,Tryz.ntmps266;go_wp2_with fail;go_ret;exact⟨aj HV2.out.symm,rfl⟩
theorem MS(a b:ByteArray)(db kb g n:Nat)(D:DataW Unit)(w:World)(ha:a.size<=Ij)(hb:b.size<=Ij)(hd:w.cell? ⟨db,0,Y⟩=Z (.func (.func 266) #[] #[If (Z ⟨kb,0,Y⟩)]))(hk:w.cell? ⟨kb,0,Y⟩=Z (.map (Z g)))(hm:w.ownsMap be 9 (Jo (H:=Unit) be 3) g n D) :
 Calls be 269 #[I a,I b,If (Z ⟨db,0,Y⟩)] w λe w'=>e=sh (O J (MQ (tG (dV D a) (dV D b)) (bz a b)))/\w'=(w.alloc (AT #[O J (tG (dV D a) (dV D b)),O J (bz a b)] 3)).drew:=by
 have HD:Hid (∀s:ByteArray,(s=a\/s=b)->∀W:World,W.heap=w.heap->Calls be 266 #[I s,If (Z ⟨kb,0,Y⟩)] W λe w'=>e=sh (O J (dV D s))/\w'=W):=λs hs W hW=>by
  have bA:s.size<=Ij:=by rcases hs with rfl|rfl<;>assumption
  refine MR s kb g n D W bA ?_ ?_
  .rw[<- hk];unfold World.cell?;rw[hW]
  .obtain⟨es,cl,h1,h2⟩:=hm
   exact⟨es,cl,by rw[hW];exact h1,h2⟩
 have h1:=Ju w _ hd;clear hm hk;go_enter Tryz.func269,Tryz.ntmps269;go_wp2_with fail;go_region_held3 (λw'=>w'.cell? ⟨db,0,Y⟩=Z (.func (.func 266) #[] #[If (Z ⟨kb,0,Y⟩)])) (go_keep) (first|(go_at_call 266;refine(HD.out _ ?_ _ ?_).mono ?_;(focus simp);(focus rfl);rintro e w' ⟨rfl,rfl⟩)|(go_at_call 220;refine(wv _ _ _).mono ?_;rintro e w' ⟨rfl,rfl⟩)|(go_at_call 110;refine(fb _ _ _).mono ?_;rintro e w' ⟨rfl,rfl⟩)|(go_at_call 219;refine(Tm (tG (dV D a) (dV D b)) (bz a b) _ _ _ (bJ rfl) (bJ rfl)).mono ?_;rintro e w' ⟨rfl,rfl⟩))
 go_wp2_with fail;go_ret;exact⟨rfl,rfl⟩
end Go.Proofs.YtfidjlcdlakceaaGreatDoor
