import Derived.Test.YtbfghimjdlpicaaGreatDoorna26
set_option maxHeartbeats 6400000
set_option maxRecDepth 1000000
open Go.Value renaming int→U,string→Y,slice→J
open Option renaming some→AI,none→be
open List renaming length_drop→JU,length_eraseIdx→Qm,getElem?_take_of_lt→IP,getElem?_eq_some_iff→Jt,getElem?_eq_getElem→Ic
open Go.Proofs.Tryz renaming prog→AS,underlying25→Ql
namespace Go.Proofs.YtbfghimjdlpicaaGreatDoor
open Go.RowKit
theorem Tryz.Xt:(Tryz.prog.info? 92).map (λi=>(i.zero,i.size,i.bytes))=AI (AI (.agg #[U .i64 0,Y ⟨#[]⟩]),2,24):=by kernel_rfl
def LQ:List Value:=[U .i64 0,Y ⟨#[]⟩]
theorem lj{g k:Nat}(hk:k≠g):∀(vs:List Value) (o:Nat) (w:World),(w.setCells g o vs).heap[k]?=w.heap[k]?
 |[],_,_=>rfl
 |v::r,o,w=>(lj hk r (o+1) _).trans (Below.heap_setCell w ⟨g,o,be⟩ v k hk)
theorem zL{rs:List Lt.fy}{p n:Nat}(hn:rs.length=n)(hp:p<n):(Cl (Cl (Lt.fl rs) (p*2) (Lt.fl (rs.drop (p+1)))) ((n-1)*2) LQ).take ((n-1)*2)=Lt.fl (rs.eraseIdx p):=by
 have hl:(Lt.fl rs).length=n*2:=by rw[Lt.da,hn]
 have hd:(Lt.fl (rs.drop (p+1))).length=(n-(p+1))*2:=by rw[Lt.da,JU,hn]
 refine qi (by rw[ko,ko,hl];omega) (by rw[Lt.da,Qm,if_pos (by omega),hn]) (λj hj=>?_);rw[lF _ _ _ _ (by omega),List.eraseIdx_eq_take_drop_succ,Lt.cU];have ht:(Lt.fl (rs.take p)).length=p*2:=by rw[Lt.da,List.length_take,hn];omega
 by_cases hjp:j<p*2
 .rw[lF _ _ _ _ (by omega),List.getElem?_append_left (by omega),<- Lt.fP,IP hjp]
 .rw[List.getElem?_append_right (by omega),ht]
  have:=yT (Lt.fl (rs.drop (p+1))) (Lt.fl rs) (p*2) (j-p*2) (by rw[hd];omega) (by rw[hd,hl];omega);rw[show p*2+(j-p*2)=j by omega] at this;exact this
theorem DT(w:World)(ty:TypeId)(b o c:Nat)(hc:∀j,j<2->(w.cell? ⟨b,o+j,be⟩).isSome=true)(hf:∀j,j<2->w.frozen? ⟨b,o+j,be⟩=false) : (Builtin.clear_ #[25] ty #[J (AI ⟨b,o,be⟩) 1 c]).run AS w=.ok (.tuple #[]) (w.setCells b o LQ):=by
 have hzc:(Builtin.zeroCells (Value.agg #[U .i64 0,Y ⟨#[]⟩]).cells 1).toList=LQ:=by kernel_rfl
 have pK:=run_storeCells_cells (P:=AS) b o LQ 0 w (λj hj=>by simpa using hc j (by simpa[LQ] using hj)) (λj hj=>by simpa using hf j (by simpa[LQ] using hj)) (by intro v hv;simp[LQ] at hv;rcases hv with rfl|rfl<;>rfl);simp only[Nat.add_zero] at pK;simp[Builtin.clear_,run_underlying Ql,hzc,pK]
theorem BE(rs:List Lt.fy)(n p g c base:Nat)(w:World)(hn:rs.length=n)(ho:Lt.Own base w (J (AI ⟨g,0,be⟩) n c) rs)(hp:p<n)(xM:n<=1000) :
 Calls AS 123 #[J (AI ⟨g,0,be⟩) n c,U .i64 p,U .i64 (p+1)] w λe w'=>e=.returned (J (AI ⟨g,0,be⟩) (n-1) c)/\Lt.Own base w' (J (AI ⟨g,0,be⟩) (n-1) c) (rs.eraseIdx p)/\Below base w w'/\∀k,k≠g->w'.heap[k]?=w.heap[k]?:=by
 obtain⟨i0,fH,dt,dD,pA⟩:=info_parts Tryz.Xt;have HO:Hid (w.ownsRow base 92 2 (J (AI ⟨g,0,be⟩) n c) n (Lt.fl rs)):=by rw[<- hn];rw[<- hn] at ho;exact ho
 obtain⟨dv,gK,et⟩:base<=g/\n<=c/\c<=maxLen:=by
  rcases HO.out.2 with⟨hv,_⟩|⟨g',c',cur,hv,eX,hg,gK,et,cE,bo⟩
  .cases hv
  .simp only[Value.slice.injEq,Option.some.injEq,Addr.mk.injEq,and_true,true_and] at hv
   obtain⟨rfl,rfl⟩:=hv;exact⟨eX,gK,et⟩
 unfold maxLen at et;have V6:(0:Int)<=(p:Int)+1:=by omega
 have ru:(p:Int)+1<=(n:Int):=by omega
 have qW:((p:Int)+1).toNat=p+1:=by omega
 have hic:p<=c:=by omega
 have gO:∀k,k<n*2->w.cell? ⟨g,k,be⟩=(Lt.fl rs)[k]?:=λk hk=>by
  rcases HO.out.2 with⟨hv,_⟩|⟨g',c',cur,hv,eX,hg,_,_,cE,bo⟩
  .cases hv
  .simp only[Value.slice.injEq,Option.some.injEq,Addr.mk.injEq,and_true,true_and] at hv
   obtain⟨rfl,rfl⟩:=hv;rw[ae hg,<- bo,IP hk,Array.getElem?_toList]
 have Mm:(Lt.fl rs).length=n*2:=by rw[Lt.da,hn]
 have S1:Hid ((Lt.fl (rs.drop (p+1))).length=(n-(p+1))*2):=(show(Lt.fl (rs.drop (p+1))).length=_ by rw[Lt.da,JU,hn]);obtain⟨A,hA,hnews⟩:∃A:Addr,(if c=p+1 then AI (⟨g,0,be⟩:Addr) else AI ⟨g,(p+1)*2,be⟩)=AI A/\Hid (∀j u,(Lt.fl (rs.drop (p+1)))[j]?=AI u->w.drew.cell? (A.add j)=AI u):=by
  by_cases h:c=p+1
  .refine⟨_,if_pos h,λj u hj=>?_⟩
   have:j<(Lt.fl (rs.drop (p+1))).length:=(Jt.1 hj).1
   rw[S1.out] at this;omega
  .refine⟨_,if_neg h,λj u hj=>?_⟩
   have hj1:=(Jt.1 hj).1;rw[S1.out] at hj1;rw[Addr.add_lit];show w.cell? _=_;rw[gO _ (by omega),<- hj,<- Lt.fQ,List.getElem?_drop]
 have S2:Hid (∀u∈Lt.fl (rs.drop (p+1)),u.oneCell'=true):=Lt.iK _;have S3:Hid (∀j,j<(Lt.fl (rs.drop (p+1))).length->(w.drew.cell? ⟨g,0+p*2+j,be⟩).isSome=true/\w.drew.frozen? ⟨g,0+p*2+j,be⟩=false):=λj hj=>by
  rw[S1.out] at hj;refine⟨?_,World.ownsRow.frozenAt HO.out _⟩;show(w.cell? _).isSome=true;rw[gO _ (by omega),Ic (by omega)];rfl
 have HD:Hid ((w.drew.setCells g (p*2) (Lt.fl (rs.drop (p+1)))).ownsRow base 92 2 (J (AI ⟨g,0,be⟩) n c) n (Cl (Lt.fl rs) (p*2) (Lt.fl (rs.drop (p+1))))):=hJ _ _ _ _ (show w.drew.ownsRow base 92 2 (J (AI ⟨g,0,be⟩) n c) n (Lt.fl rs) from HO.out);have Mn:∀ty,(Builtin.clear_ #[25] ty #[J (AI ⟨g,(p+(n-(p+1)))*2,be⟩) (n-(p+(n-(p+1)))) (c-(p+(n-(p+1))))]).run AS (w.drew.setCells g (p*2) (Lt.fl (rs.drop (p+1))))=.ok (.tuple #[]) ((w.drew.setCells g (p*2) (Lt.fl (rs.drop (p+1)))).setCells g ((n-1)*2) LQ):=λty=>by
  rw[show p+(n-(p+1))=n-1 by omega,show n-(n-1)=1 by omega];exact DT _ ty g _ _ (λj hj=>by rw[World.ownsRow.cellAt HD.out _ (by omega),Ic (by rw[ko,Mm];omega)];rfl) (λj _=>World.ownsRow.frozenAt HD.out _)
 have HF:Hid (((w.drew.setCells g (p*2) (Lt.fl (rs.drop (p+1)))).setCells g ((n-1)*2) LQ).ownsRow base 92 2 (J (AI ⟨g,0,be⟩) (n-1) c) (n-1) (Lt.fl (rs.eraseIdx p))):=by
  have h:=oh (m:=n-1) (hJ LQ _ ((n-1)*2) _ HD.out) (by omega);rw[zL hn hp] at h;exact h
 have HL:Hid ((rs.eraseIdx p).length=n-1):=(show(rs.eraseIdx p).length=n-1 by rw[Qm,if_pos (by omega),hn]);have HBL:Hid (Below base w ((w.drew.setCells g (p*2) (Lt.fl (rs.drop (p+1)))).setCells g ((n-1)*2) LQ)):=eA dv _ _ _ _ (eA dv _ _ _ _ (Below.refl _ _).drew);have HOT:Hid (∀k,k≠g->((w.drew.setCells g (p*2) (Lt.fl (rs.drop (p+1)))).setCells g ((n-1)*2) LQ).heap[k]?=w.heap[k]?):=λk hk=>(lj hk _ _ _).trans (lj hk _ _ _);have CI:Hid (p+(n-(p+1))=n-1):=(show p+(n-(p+1))=n-1 by omega);clear ho gO;go_enter Tryz.func123,Tryz.ntmps123;go_wp2_with fail;go_region_law (refine step_append_room rfl (.tmp 22) (.tmp 25) 25 rfl 92 i0 2 Ql fH dD g 0 p c (by simp[Act.eval,Act.put]) A (n-(p+1)) (c-(p+1)) (Lt.fl (rs.drop (p+1))) (by simp[Act.eval,Act.put]) S1.out hnews.out S2.out (by omega) S3.out ?_)
 go_wp2_with fail;go_ret;refine⟨?_,?_,HBL.out,HOT.out⟩
 .have xa:=CI.out
  simp only[xa];rfl
 .show World.ownsRow _ _ _ _ _ (rs.eraseIdx p).length _
  rw[HL.out];exact HF.out
theorem rV(C g j:Nat)(un ul:Value)(ls:List Lt.fy)(v:Ev)(w:World)(h:lU C w g un ul ls v)(h20:ls.length<=20)(hv:v.which=(j:Int))(hj:j<ls.length) :
 Calls AS 76 #[.pointer (AI ⟨g,0,be⟩)] w λe w'=>e=.returned (U .i64 0)/\Mv C w w'/\∃a k c,lU C w' g un (J a k c) (ls.eraseIdx j) v:=by
 obtain⟨lb,cu,Rg⟩:∃lb cu,ul=J (AI ⟨lb,0,be⟩) ls.length cu:=by
  rcases h.ls.2 with⟨_,h0⟩|⟨b',c,cur,rfl,_⟩
  .omega
  .exact⟨b',c,rfl⟩
 subst Rg;have dv:g<w.heap.size:=(Array.getElem?_eq_some_iff.1 h.hg).1;have y1:w.cell? ⟨g,1,be⟩=AI (J (AI ⟨lb,0,be⟩) ls.length cu):=ae h.hg 1;have y3:w.cell? ⟨g,3,be⟩=AI (U .i64 (j:Int)):=by rw[<- hv];exact ae h.hg 3
 have aP:lb≠g:=λe=>by
  obtain⟨_,cs,h2⟩:=jx h.ls (show(Value.slice (AI ⟨lb,0,be⟩) ls.length cu).ownBlock=AI g by rw[e];rfl);rw[h.hg] at h2;simp at h2
 have HD:Hid (Calls AS 123 #[J (AI ⟨lb,0,be⟩) ls.length cu,U .i64 j,U .i64 (j+1)] w.drew λe w'=>e=.returned (J (AI ⟨lb,0,be⟩) (ls.length-1) cu)/\w'.cell? ⟨g,1,be⟩=AI (J (AI ⟨lb,0,be⟩) ls.length cu)/\w'.frozen? ⟨g,1,be⟩=false/\Hid (Mv C w (w'.setCell ⟨g,1,be⟩ (J (AI ⟨lb,0,be⟩) (ls.length-1) cu))/\lU C (w'.setCell ⟨g,1,be⟩ (J (AI ⟨lb,0,be⟩) (ls.length-1) cu)) g un (J (AI ⟨lb,0,be⟩) (ls.length-1) cu) (ls.eraseIdx j) v)):=by
  refine(BE ls ls.length j lb cu C w.drew rfl (World.ownsRow.drew h.ls) hj (by omega)).mono ?_;rintro e w1 ⟨rfl,ho,hb,hk⟩;have cI:w1.heap[g]?=AI (.cells (plA un (J (AI ⟨lb,0,be⟩) ls.length cu) v) 74 (0,0)):=(hk g (Ne.symm aP)).trans h.hg;exact⟨rfl,ae cI 1,by simp[World.frozen?,cI],lU.turn h ((Below.refl C w).drew.trans hb) (λb _ hnb=>hk b (λe=>hnb (by rw[e];rfl))) ho⟩
 have nR:IntKind.i64.wrap ((j:Int)+1)=(j:Int)+1:=by rw[IntKind.wrap_i64];omega
 clear h hv hj h20 aP;generalize ls.length=m at *;go_enter Tryz.func76,Tryz.ntmps76;go_wp2_with fail;go_region_with (first|(go_at_call 123;refine HD.out.mono ?_;rintro e w1 ⟨rfl,z1,zf,HR⟩))
 all_goals
  go_wp2_with fail;go_ret;exact⟨rfl,HR.out.1,_,_,_,HR.out.2⟩
end Go.Proofs.YtbfghimjdlpicaaGreatDoor
