import Derived.Test.YtfidhgjmifendaaGreatDoornt49
import Derived.Deep.CutBlock
set_option maxHeartbeats 25600000
set_option maxRecDepth 100000
open List renaming range→JD,length_map→No,getD→Ip,length_append→Ig,mem_singleton→Jb,map_append→O5,getElem_of_mem→IU
open Go renaming maxLen→Il,heap_alloc_new→Ih,bodyPost_ret→IK,wpAnyH_done→QB
open Go.Value renaming string→Y,int→U,agg→Ij,slice→J,bool→Ia,tuple→Ik,pointer→Ie
open Option renaming some→AI,none→be
open Go.IntKind renaming i64→O,wrap_i64→IY
open Go.Ending renaming returned→By
open Go.Proofs.Tryz renaming prog→AS,underlying3→ID
open Array renaming getElem?_eq_some_iff→BY,getElem?_toList→On
open Go.Obj renaming cells→AT
open Nat renaming zero_le→II,le_refl→Ic,zero_add→IC
open Go.RowKit.Below renaming refl→Ib
open Go.DataW renaming trod_int→JZ
open List.cons renaming injEq→O0
namespace Go.Proofs.YtfidhgjmifendaaGreatDoor
open Go.RowKit
def vq(i:Nat):ByteArray:=[(⟨#[97]⟩:ByteArray),⟨#[98]⟩,⟨#[101]⟩,⟨#[102]⟩,⟨#[103]⟩,⟨#[104]⟩].getD i ⟨#[]⟩
def uf(c i:Nat):ByteArray:=if i%(1+c)=0 then⟨#[99]⟩ else⟨#[100]⟩
def mw(c i:Nat):Nd:=Gm (vq i) (uf c i) (i:Int) (decide (i%2=0))
theorem aau(c i:Nat)(hc:c<=1)(hi:i<6):MV (vq i) (uf c i) (i:Int)=0:=by
 rcases(by omega:c=0\/c=1) with rfl|rfl<;>rcases(by omega:i=0\/i=1\/i=2\/i=3\/i=4\/i=5) with rfl|rfl|rfl|rfl|rfl|rfl<;>kernel_rfl
theorem Rc(c k:Nat)(hc:c<=1)(hk:k<=5):(Nt.mk ((JD (k+1)).map (mw c)) []).e=0:=by
 rcases(by omega:c=0\/c=1) with rfl|rfl<;>rcases(by omega:k=0\/k=1\/k=2\/k=3\/k=4\/k=5) with rfl|rfl|rfl|rfl|rfl|rfl<;>kernel_rfl
theorem afN(c i:Nat):(uf c i).size<=Il:=by unfold uf;split<;>decide
theorem afO(c i:Nat)(hc:c<=1):(#[Y ⟨#[99]⟩,Y ⟨#[100]⟩]:Array Value)[i%(1+c)]?=AI (Y (uf c i)):=by
 unfold uf;split
 .rename_i h;rw[h];rfl
 .rename_i h
  have:i%(1+c)=1:=by have:=Nat.mod_lt i (by omega:0<1+c);omega
  rw[this];rfl
def Ty(c n:Int):Int:=if c<0 then(-(c+1)).tmod n else c.tmod n
theorem Ct(c:Int){n:Int}(hn:0<n):0<=Ty c n/\Ty c n<n:=by
 unfold Ty;split
 .exact⟨Int.tmod_nonneg _ (by omega),Int.tmod_lt_of_pos _ hn⟩
 .exact⟨Int.tmod_nonneg _ (by omega),Int.tmod_lt_of_pos _ hn⟩
theorem wC(c n:Int)(w:World)(hn:0<n)(V2:n<=1000)(hc : -9223372036854775808<=c)(Dv:c<=9223372036854775807) :
 Calls AS 17 #[U O c,U O n] w λe w'=>e=By (U O (Ty c n))/\w'=w:=by
 have hb:=Ct c hn;have h0:(n==0)=false:=by
  have h:n≠0:=by omega
  simpa using h
 unfold Ty at hb ⊢;by_cases h:c<0
 .rw[if_pos h] at hb ⊢
  have h1:IntKind.i64.wrap (c+1)=c+1:=by rw[IY];omega
  have h2:IntKind.i64.wrap (-(c+1)) = -(c+1):=by rw[IY];omega
  have h5:IntKind.i64.wrap ((-(c+1)).tmod n)=(-(c+1)).tmod n:=by rw[IY];omega
  have h3:=decide_eq_true h;go_enter Tryz.func17,Tryz.ntmps17;go_wp2_with fail;go_ret;exact⟨by rw[Int.neg_tmod];rfl,rfl⟩
 .rw[if_neg h] at hb ⊢
  have h5:IntKind.i64.wrap (c.tmod n)=c.tmod n:=by rw[IY];omega
  have h3:=decide_eq_false h;go_enter Tryz.func17,Tryz.ntmps17;go_wp2_with fail;go_ret;exact⟨by rw[Int.tmod_eq_emod_of_nonneg (by omega)];rfl,rfl⟩
theorem aav:∀i,i<6->(vq i).size<=Il
 |0,_=>by decide
 |1,_=>by decide
 |2,_=>by decide
 |3,_=>by decide
 |4,_=>by decide
 |5,_=>by decide
 |i+6,h=>absurd h (by omega)
theorem aaw:∀i,i<6->(#[Y ⟨#[97]⟩,Y ⟨#[98]⟩,Y ⟨#[101]⟩,Y ⟨#[102]⟩,Y ⟨#[103]⟩,Y ⟨#[104]⟩]:Array Value)[i]?=AI (Y (vq i))
 |0,_=>rfl
 |1,_=>rfl
 |2,_=>rfl
 |3,_=>rfl
 |4,_=>rfl
 |5,_=>rfl
 |i+6,h=>absurd h (by omega)
theorem Tryz.Tz:(Tryz.prog.info? 42).map (λi=>(i.zero,i.size,i.bytes))=AI (AI (Ij #[Y ⟨#[]⟩,Y ⟨#[]⟩,J be 0 0,J be 0 0,J be 0 0,J be 0 0,U O 0,U O 0,U O 0,U O 0,U O 0,J be 0 0]),12,192):=by kernel_rfl
theorem N4(c i:Nat)(hc:c<=1)(hi:i<6)(W:World) :
 Calls AS 21 #[Y (vq i),Y (uf c i),U O (i:Int),Ia (decide (i%2=0))] W λe w'=>Below W.heap.size W w'/\∃a2 uv ux a3 uy uz a4 uA uB a5 uC uD a6 uE uF,e=By (Ik #[Ij #[Y (vq i),Y (uf c i),J a2 uv ux,J a3 uy uz,J a4 uA uB,J a5 uC uD,U O 0,U O 0,U O 0,U O 0,U O 1000,J a6 uE uF],U O 0])/\Hid (cL W.heap.size w' (mw c i) (J a2 uv ux) (J a3 uy uz) (J a4 uA uB) (J a5 uC uD) (J a6 uE uF)/\il (mw c i)):=by
 refine(su (vq i) (uf c i) (i:Int) (decide (i%2=0)) W (aav i hi) (afN c i)).mono ?_;rintro e w' ⟨hb,⟨aM,_⟩|⟨_,aM,_⟩|⟨_,_,um,ur,us,ug,uw,rfl,ho,hk⟩⟩
 .exact absurd (aau c i hc hi) aM
 .exact absurd rfl aM
 .obtain⟨x2,y2,e2⟩:=aK ho.ms
  obtain⟨x3,y3,e3⟩:=aK ho.rs;obtain⟨x4,y4,e4⟩:=aK ho.sv;obtain⟨x5,y5,e5⟩:=aK ho.gw;obtain⟨x6,y6,e6⟩:=aK ho.wh;subst e2 e3 e4 e5 e6;exact⟨hb,_,_,_,_,_,_,_,_,_,_,_,_,_,_,_,rfl,ho,hk⟩
structure TA(C:Nat)(w:World)(v:Value)(L:List Nx):Prop where
 row:w.ownsRow C 42 12 v L.length (iW L)
 own:∀x∈L,cL C w x.n x.vm x.vr x.vs x.vg x.vw/\il x.n
theorem TA.below{C:Nat}{w w':World}{v:Value}{L:List Nx}(h:TA C w v L)(hb:Below w.heap.size w w'):TA C w' v L:=
 ⟨ek h.row (λb _ _ e=>(hb.block b (BY.1 e).1).trans e),λx hx=>⟨(h.own x hx).1.below hb,(h.own x hx).2⟩⟩
theorem cL.grown{B:Nat}{w w':World}{n:Nd}{vm vr vs vg vw:Value}{row:Option Nat}(h:cL B w n vm vr vs vg vw)(hg:w.grownBy w' row)(hr:∀b,row=AI b->∃cs,w.heap[b]?=AI (AT cs 42 (0,0))):cL B w' n vm vr vs vg vw:=by
 have hq:∀(q:Nat) (c:Array Value) (T:TypeId) (f:Nat×Nat),T≠42->w.heap[q]?=AI (AT c T f)->w'.heap[q]?=AI (AT c T f):=λq c T f hT e=>(hg.block q (BY.1 e).1 (λe2=>by
  obtain⟨cs,h2⟩:=hr q e2.symm;rw[h2] at e;simp at e;exact hT e.2.1.symm)).trans e
 exact⟨ek h.ms (λq c f e=>hq q c _ f (by decide) e),ek h.rs (λq c f e=>hq q c _ f (by decide) e),ek h.sv (λq c f e=>hq q c _ f (by decide) e),ek h.gw (λq c f e=>hq q c _ f (by decide) e),ek h.wh (λq c f e=>hq q c _ f (by decide) e)⟩
theorem TA.nsl{C:Nat}{w:World}{v:Value}{L:List Nx}(h:TA C w v L):xG w v (L.map (·.n)):=by
 rcases h.row.2 with⟨rfl,h0⟩|⟨b,c,cur,rfl,ev,hb,hn,dO,b9,Hn⟩
 .have:L=[]:=List.eq_nil_of_length_eq_zero h0
  subst this;exact⟨be,0,rfl,.inl rfl⟩
 .refine⟨AI ⟨b,0,be⟩,c,by rw[No],.inr ⟨b,0,rfl,(BY.1 hb).1,λj hj=>?_⟩⟩
  have Fs:j<L.length:=by simpa using hj
  have V2:(L.getD j bX).n=(L.map (·.n)).getD j cS:=by
   rw[Ip,Ip,List.getElem?_map,List.getElem?_eq_getElem Fs];rfl
  have ho:=h.own _ (gi Fs);rw[<- V2];refine⟨_,_,_,_,_,ho.1.is ho.2,λi hi=>?_⟩;have hg:=lW L j Fs i hi;rw[ae hb,show 0+j*12+i=j*12+i by omega,<- On,<- List.getElem?_take_of_lt (show j*12+i<L.length*12 by omega),Hn,hg,Nx.cs,On]
theorem Cu(nodes eN:Int)(k z:Nat)(hk:k<=5)(hc:z<=1)(w:World)(hV:Rv w.heap.size w)(jz:∀W:World,Calls AS 17 #[U O nodes,U O 6] W λe w'=>e=By (U O (k:Int))/\w'=W)(Dv:∀W:World,Calls AS 17 #[U O eN,U O 2] W λe w'=>e=By (U O (z:Int))/\w'=W) :
 Calls AS 8 #[U O nodes,U O eN] w λe w'=>Below w.heap.size w w'/\∃a l c2 d m q,e=By (Ik #[Ij #[J a l c2,J d m q],Ia true])/\Hid (gh w' ⟨(JD (k+1)).map (mw z),[]⟩ (J a l c2) (J d m q)):=by
 obtain⟨i0,fL,dh,gW,gG⟩:=info_parts Tryz.Tz;have he:=Rc z k hc hk;have HNW:Hid (∀W v,Below w.heap.size w W->xG W v ((JD (k+1)).map (mw z))->Calls AS 22 #[v] W λe w'=>Below W.heap.size W w'/\∃a l c d m q,e=By (Ik #[Ij #[J a l c,J d m q],U O 0])/\Hid (fF W.heap.size w' ⟨(JD (k+1)).map (mw z),[]⟩ (J a l c) (J d m q))):=λW v hW hv=>by
  refine(tW _ v W (hV.after hW) hv).mono ?_;rintro e w' ⟨hb,⟨_,a,l,c,d,m,q,nb,L,rfl,ho⟩|⟨aM,_⟩⟩
  .have hns:L.map (·.n)=(JD (k+1)).map (mw z):=ho.ns
   have hLn:L.length=((JD (k+1)).map (mw z)).length:=by rw[<- hns,No]
   exact⟨hb,_,_,_,_,_,_,rfl,nb,L,by rw[hLn];exact ho.un,ho.ns,⟨ho.le,ho.row,λx hx=>(ho.own x hx).mono (by have:=ho.le;omega),λx hx=>hv.ok _ (by rw[<- hns];exact List.mem_map_of_mem hx)⟩,Lt.Own.mono ho.ls (by have:=ho.le;omega)⟩
  .exact absurd he aM
 have HCH:Hid _:=jz;have pU:Hid _:=Dv;have hwc:IntKind.i64.wrap (1+(z:Int))=1+(z:Int):=by rw[IY];omega
 have yV:(1+(z:Int)==0)=false:=by
  have h:1+(z:Int)≠0:=by omega
  simpa using h
 have Mj:IntKind.i64.wrap (1+(k:Int))=1+(k:Int):=by rw[IY];omega
 clear hV he jz Dv;obtain⟨W0,bJ,bM,-,hz⟩:=bW w #[J be 0 0,J be 0 0] 27;have rN:Hid (w.heap.size+1<=W0.heap.size):=by show _<=_;rw[bJ];simp
 have da:Hid (Below w.heap.size w W0/\W0.heap[w.heap.size]?=AI (AT #[J be 0 0,J be 0 0] 27 (0,0))):=⟨bM,hz⟩;clear bM hz;go_enter Tryz.func8,Tryz.ntmps8;go_wp2_with fail;rw[<- bJ];clear bJ;go_loopw [6,7] (λv i wr=>∃(j:Nat) (L:List Nx) (a:Option Addr) (c:Nat),j<=k+1/\i=U O j/\v=J a j c/\Hid (L.map (·.n)=(JD j).map (mw z)/\L.length=j)/\Hid (TA (w.heap.size+1) wr (J a j c) L)/\Hid (Below w.heap.size w wr/\wr.heap[w.heap.size]?=AI (AT #[J be 0 0,J be 0 0] 27 (0,0)))) (λ_ i _=>k+1-(intOf i).toNat)
 case atStart=>exact⟨0,[],be,0,II _,rfl,rfl,⟨rfl,rfl⟩,⟨World.ownsRow_nil _ _ _ _,λx hx=>by cases hx⟩,da⟩
 case round=>
  obtain⟨j,L,a,c,hj,rfl,rfl,HL,HG,HB⟩:=hrel;by_cases aW:j<k+1
  .have hd:=decide_eq_true (by omega)
   have hj6:j<6:=by omega
   obtain⟨r,hr⟩:∃r,r=j%(1+z):=⟨_,rfl⟩;have rh:r<2:=by have:=Nat.mod_lt j (by omega:0<1+z);omega
   have pF:(j:Int)%(1+(z:Int))=(r:Int):=by rw[hr,Int.natCast_emod];rfl
   have hm2:=(Int.tmod_eq_emod_of_nonneg (by omega)).trans pF;have hmw:IntKind.i64.wrap (r:Int)=(r:Int):=by rw[IY];omega
   have hr3:(r:Int)<2:=by omega
   have FC:(0:Int)<=(r:Int):=by omega
   have hr5:((r:Int)).toNat=r:=by omega
   have SF:=(afO z j hc).trans rfl;rw[<- hr] at SF;clear hr rh;have hm4:((j:Int)%2==0)=decide (j%2=0):=by
    by_cases h:j%2=0
    .rw[decide_eq_true h]
     have:(j:Int)%2=0:=by omega
     simpa using this
    .rw[decide_eq_false h]
     have:(j:Int)%2≠0:=by omega
     simpa using this
   have HM4:Hid _:=hm4;clear hm4;have HNO:=N4 z j hc hj6;have aax:Hid _:=HNO;clear HNO;go_wp2_with fail;refine(HCH.out wr).mono ?_;rintro e w' ⟨rfl,MH⟩;have Lu:=MH.symm;subst Lu;go_wp2_with fail;obtain⟨W1,cM⟩:∃W1,W1=wr.alloc (AT #[Y ⟨#[99]⟩,Y ⟨#[100]⟩] 9):=⟨_,rfl⟩;rw[<- cM];refine(pU.out W1).mono ?_;rintro e w' ⟨rfl,MH⟩;have Lu:=MH.symm;subst Lu;have hx1:W1.heap[wr.heap.size]?=AI (AT #[Y ⟨#[99]⟩,Y ⟨#[100]⟩] 9 (0,0)):=by rw[cM];exact Ih wr _
   have aV:Hid (Below wr.heap.size wr W1):=by show Below _ _ _;rw[cM];exact(Ib _ _).alloc (Ic _) _
   have x0:=(ae hx1 r).trans SF;have y0:(W1.alloc (AT #[Y ⟨#[97]⟩,Y ⟨#[98]⟩,Y ⟨#[101]⟩,Y ⟨#[102]⟩,Y ⟨#[103]⟩,Y ⟨#[104]⟩] 9)).cell? ⟨W1.heap.size,j,be⟩=AI (Y (vq j)):=(ae (Ih W1 _) j).trans (aaw j hj6);have hj7:(j:Int)<6:=by omega
   clear cM hx1;go_wp2_with fail;obtain⟨W2,bF⟩:∃W2,W2=W1.alloc (AT #[Y ⟨#[97]⟩,Y ⟨#[98]⟩,Y ⟨#[101]⟩,Y ⟨#[102]⟩,Y ⟨#[103]⟩,Y ⟨#[104]⟩] 9):=⟨_,rfl⟩;rw[<- bF];have bp:Hid (Below wr.heap.size wr W2):=by show Below _ _ _;rw[bF];exact aV.out.alloc aV.out.size _
   rw[HM4.out];refine Calls.mono (aax.out W2) ?_;rintro e w3 ⟨bV,a2,uv,ux,a3,uy,uz,a4,uA,uB,a5,uC,uD,a6,uE,uF,rfl,vj⟩;have cj:Hid _:=bp.out.trans (bV.mono bp.out.size);clear bV bF x0 y0 aax;generalize cV:vq j=nm at *;generalize Hd:uf z j=ct at *;have MD:Hid (vq j=nm/\uf z j=ct):=⟨cV,Hd⟩;clear cV Hd;have cF:=cj.out.size;obtain⟨W4,nQ,eO,-,Lm⟩:=bW w3 #[Y nm,Y ct,J a2 uv ux,J a3 uy uz,J a4 uA uB,J a5 uC uD,U O 0,U O 0,U O 0,U O 0,U O 1000,J a6 uE uF] 42;have eP:Hid _:=cj.out.trans (eO.mono cj.out.size);have lM:Hid _:=HB.out.1.trans (eP.out.mono HB.out.1.size);have LK:=(HG.out.below eP.out);have cQ:W4.ownsRow (w.heap.size+1) 42 12 (J a j c) j (iW L):=by have h:=LK.row;rw[HL.out.2] at h;exact h
   have nH:Hid (cL (w.heap.size+1) W4 (mw z j) (J a2 uv ux) (J a3 uy uz) (J a4 uA uB) (J a5 uC uD) (J a6 uE uF)/\il (mw z j)):=⟨(vj.out.1.below eO).mono (by have:=bp.out.size;have:=HB.out.1.size;have:=(BY.1 HB.out.2).1;omega),vj.out.2⟩;have HOO:Hid _:=LK.own;obtain⟨p0,p1,p2,p3,p4,p5,p6,p7,p8,p9,p10,p11⟩:=bA Lm;have Pr:Hid _:=(eP.out.block _ (BY.1 HB.out.2).1).trans HB.out.2;have hbs:w.heap.size+1<=W4.heap.size:=by have:=eP.out.size;have:=(BY.1 HB.out.2).1;omega
   clear eO Lm LK vj;go_upto_region 7 with fail
   rw[<- nQ];clear nQ;have LQ:Hid (∀b,(J a j c).ownBlock=AI b->∃cs,W4.heap[b]?=AI (AT cs 42 (0,0))):=λb e=>(ij cQ e).2;have HRL:Hid (∀b,(J a j c).ownBlock=AI b->w.heap.size+1<=b):=λb e=>(ij cQ e).1;have h63:j+1<=Il:=by unfold Il;omega
   have GO:(j+1)*192<=140737488355328:=by omega
   go_wp2_with (at_builtin;refine wpList_append_lies _ rfl _ _ 24 rfl (w.heap.size+1) 42 i0 _ 12 192 Tryz.underlying24 fL dh gW gG rfl (by omega) (J a j c) j (iW L) rfl (World.ownsRow.alloc cQ _) ⟨W4.heap.size,0,be⟩ 1 1 [Y nm,Y ct,J a2 uv ux,J a3 uy uz,J a4 uA uB,J a5 uC uD,U O 0,U O 0,U O 0,U O 0,U O 1000,J a6 uE uF] rfl rfl (World.news_of_block (cs:=#[Y nm,Y ct,J a2 uv ux,J a3 uy uz,J a4 uA uB,J a5 uC uD,U O 0,U O 0,U O 0,U O 0,U O 1000,J a6 uE uF]) (t:=42) (fr:=(0,0)) (Ih W4 _)) (by simp[Value.oneCell']) (by omega) h63 GO (by simp;omega) (W4.heap.size+1) (by simp) ?_;intro gg cap w5 hown fE cv Tv);have Vh:Below W4.heap.size W4 (W4.alloc (AT #[Y nm,Y ct,J a2 uv ux,J a3 uy uz,J a4 uA uB,J a5 uC uD,U O 0,U O 0,U O 0,U O 0,U O 1000,J a6 uE uF] 42)):=(Ib _ _).alloc (Ic _) _;have HGR:Hid (TA (w.heap.size+1) w5 (J (AI ⟨gg,0,be⟩) (j+1) cap) (L++[⟨mw z j,J a2 uv ux,J a3 uy uz,J a4 uA uB,J a5 uC uD,J a6 uE uF⟩])):=by
    have P4:∀b,(J a j c).ownBlock=AI b->∃cs,(W4.alloc (AT #[Y nm,Y ct,J a2 uv ux,J a3 uy uz,J a4 uA uB,J a5 uC uD,U O 0,U O 0,U O 0,U O 0,U O 1000,J a6 uE uF] 42)).heap[b]?=AI (AT cs 42 (0,0)):=λb e=>by
     obtain⟨cs,h2⟩:=LQ.out b e;exact⟨cs,(Vh.block b (BY.1 h2).1).trans h2⟩
    refine⟨?_,λx hx=>?_⟩
    .have hl:(L++[(⟨mw z j,J a2 uv ux,J a3 uy uz,J a4 uA uB,J a5 uC uD,J a6 uE uF⟩:Nx)]).length=j+1:=by rw[Ig,HL.out.2];rfl
     rw[hl,kt,sw];have b9:(⟨mw z j,J a2 uv ux,J a3 uy uz,J a4 uA uB,J a5 uC uD,J a6 uE uF⟩:Nx).cs=[Y nm,Y ct,J a2 uv ux,J a3 uy uz,J a4 uA uB,J a5 uC uD,U O 0,U O 0,U O 0,U O 0,U O 1000,J a6 uE uF]:=by rw[<- MD.out.1,<- MD.out.2];rfl
     rw[b9];exact hown
    .rcases List.mem_append.1 hx with h1|h1
     .exact⟨((HOO.out x h1).1.below Vh).grown fE P4,(HOO.out x h1).2⟩
     .rw[Jb] at h1
      subst h1;exact⟨(nH.out.1.below Vh).grown fE P4,nH.out.2⟩
   have DS:Hid ((L++[(⟨mw z j,J a2 uv ux,J a3 uy uz,J a4 uA uB,J a5 uC uD,J a6 uE uF⟩:Nx)]).map (·.n)=(JD (j+1)).map (mw z)/\(L++[(⟨mw z j,J a2 uv ux,J a3 uy uz,J a4 uA uB,J a5 uC uD,J a6 uE uF⟩:Nx)]).length=j+1):=⟨by rw[O5,HL.out.1,List.range_succ,O5];rfl,by rw[Ig,HL.out.2];rfl⟩;have hlw:=(BY.1 Pr.out).1;have HBF:Hid (Below w.heap.size w w5/\w5.heap[w.heap.size]?=AI (AT #[J be 0 0,J be 0 0] 27 (0,0))):=⟨(lM.out.trans (Vh.mono lM.out.size)).grown fE (by simp;omega) (λb e=>by have:=HRL.out b e;omega),((fE.block _ (by simp;omega) (λe=>by have:=HRL.out _ e.symm;omega)).trans (Vh.block _ hlw)).trans Pr.out⟩;clear hown fE cv Tv Vh cQ p0 p1 p2 p3 p4 p5 p6 p7 p8 p9 p10 p11 HOO nH Pr lM eP cj bp aV LQ HRL HL HG HB hlw hbs;go_wp2_with fail;go_roundw
   case rel=>exact⟨j+1,_,AI ⟨gg,0,be⟩,cap,by omega,by go_num,rfl,DS,HGR,HBF⟩
   case measure=>simp[intOf];omega
  .have hd:=decide_eq_false (by omega)
   have LP:j=k+1:=by omega
   have hN:=HG.out.nsl;rw[HL.out.1,LP] at hN;have HC:=HNW.out wr _ HB.out.1 hN;rw[<- LP] at HC;have HJK:Hid _:=LP;clear HG HL hN HNW pU LP;go_wp2_with fail;refine(HCH.out wr).mono ?_;rintro e w' ⟨rfl,MH⟩;have Lu:=MH.symm;subst Lu;go_wp2_with fail;refine Calls.mono HC ?_;rintro e w1 ⟨aB,a1,l1,c1,d1,m1,q1,rfl,LF⟩;have aV:Hid _:=HB.out.1.trans (aB.mono HB.out.1.size);have cZ:=(aB.block _ (BY.1 HB.out.2).1).trans HB.out.2;have BM:=(BY.1 HB.out.2).1;clear aB HC HB HCH;obtain⟨W2,bF,aJ,-,dQ⟩:=bW w1 #[J a1 l1 c1,J d1 m1 q1] 27;have nF:=(aJ.block _ (BY.1 cZ).1).trans cZ;obtain⟨W3,ea⟩:∃W3,W3=aC w.heap.size [J a1 l1 c1,J d1 m1 q1] 0 W2:=⟨_,rfl⟩;have jO:W3.heap[w.heap.size]?=AI (AT #[J a1 l1 c1,J d1 m1 q1] 27 (0,0)):=by rw[ea];exact bC [J a1 l1 c1,J d1 m1 q1] [] [J be 0 0,J be 0 0] nF rfl
   have gN:Hid (Below w.heap.size w W3/\gh W3 ⟨(JD (k+1)).map (mw z),[]⟩ (J a1 l1 c1) (J d1 m1 q1)):=by
    refine⟨by rw[ea];exact aQ (Ic _) _ _ (aV.out.trans (aJ.mono aV.out.size)),by rw[<- HJK.out];exact((LF.out.fa (w':=W2) (λq hq hl=>aJ.block q hl)).fa (w':=W3) (λq hq _=>by rw[ea];exact aX (by omega) _ _ _)).is (λl hl=>by cases hl)⟩
   have x0:=ae dQ 0;have x1:=ae dQ 1;have g0:=ae nF 0;have g1:=ae nF 1;have f0:=an nF 0;have f1:=an nF 1;have q0:=ae jO 0;have q1':=ae jO 1;clear aJ dQ nF cZ jO LF aV BM;go_upto_region 11 with fail
   rw[<- bF];clear bF;go_wp2_with fail;simp only[aC,IC] at ea;rw[<- ea];clear ea x0 x1 g0 g1 f0 f1;exact IK (v:=Ik #[Ij #[J a1 l1 c1,J d1 m1 q1],Ia true]) (by simp[results,Tryz.results8,go_sem,q0,q1']) rfl ⟨gN.out.1,_,_,_,_,_,_,rfl,gN.out.2⟩
def LY:Ev:=⟨0,0,0,0,⟨#[]⟩,⟨0,0,0,0,0⟩,⟨⟨#[]⟩,⟨#[]⟩,⟨#[]⟩,⟨#[]⟩,0,0,false,0,false⟩⟩
structure FR(w:World)(a:Option Addr)(l:List Ev):Prop where
 ok:∀v∈l,v.Ok
 row:∀k,k<l.length->∃G off,a=AI ⟨G,off,be⟩/\w.rangeAt G (off+k*19) (Cc (l.getD k LY)).toList
theorem vt{P:Program}{a:Act}{o:Oper}{W:World}(ty:TypeId)(x:Operand)(ho:o.op=.load ty x)(b off:Nat)(hx:a.eval x=Ie (AI ⟨b,off,be⟩))(cs:List Value)(d:TypeDesc)(hc:W.rangeAt b off cs)(hu:P.underlying ty=AI d)(hd:d.isRow=true)(hi:(P.info? ty).map (·.size)=AI cs.length):(execOp a.eval o).run P W=.ok (.value (Ij cs.toArray)) W:=by
 unfold execOp;simp only[ho,hx,run_loadAt_mid W b off ty cs d hc hu hd hi,Sem.run_bind,Sem.run_pure,Result.andThen_ok]
theorem rI{w W:World}{b off:Nat}{cs:List Value}(h:w.rangeAt b off cs)(hb:Below w.heap.size w W):W.rangeAt b off cs:=λi v hi=>by
 have h1:=h i v hi;exact(hb.cell (World.block_lt_of_cell? w _ h1)).trans h1
theorem uh{C:Nat}{w:World}{t:Nt}{un ul:Value}(h:fF C w t un ul)(hr:eu t):gh w t un ul:=h.is (λl hl=>by
 have:=hr.sh l hl;show _<=Il;unfold Il;omega)
theorem Inv.is{w wr:World}{t:Nt}{un ul:Value}{C:Nat}(h:gh w t un ul\/fF C wr t un ul)(hr:eu t)(hb:Below w.heap.size w wr):gh wr t un ul:=h.elim (·.below hb) (uh · hr)
theorem fF.mono{A C:Nat}{w:World}{t:Nt}{un ul:Value}(h:fF C w t un ul)(hA:A<=C):fF A w t un ul:=by
 obtain⟨nb,L,h1,h2,h3,h4⟩:=h;exact⟨nb,L,h1,h2,h3.mono hA,Lt.Own.mono h4 hA⟩
theorem N5(kf:Nat)(eg:∀args w,(callFunc kf args).run AS w=.ok (.enter kf args) w)(l:List Ev)(la:Option Addr)(lc:Nat)(t0:Nt)(vn vl:Value)(w:World)(hV:Rv w.heap.size w)(hl:FR w la l)(h:gh w t0 vn vl)(I:Nt->Prop)(hr:eu t0/\I t0)(hI:∀t t',eu t->Ci t t'->I t->NR t t'->I t')(Ks:l.length<=Il)(hIs:∀W t t' a1 n1 c1 d1 l1 q1 a2 n2 c2 d2 l2 q2,Below w.heap.size w W->gh W t (J a1 n1 c1) (J d1 l1 q1)->gh W t' (J a2 n2 c2) (J d2 l2 q2)->eu t->Ci t t'->I t'->Calls AS kf #[Ij #[J a1 n1 c1,J d1 l1 q1],Ij #[J a2 n2 c2,J d2 l2 q2]] W λe w'=>e=By (Ia true)/\Below W.heap.size W w') :
 Calls AS 9 #[Ij #[vn,vl],J la l.length lc,.func (.func kf) #[] #[]] w λe w'=>Below w.heap.size w w'/\∃t a k c b m d,e=By (Ik #[Ij #[J a k c,J b m d],Ia true])/\Hid (gh w' t (J a k c) (J b m d)/\(eu t/\I t)/\t.ns.length=t0.ns.length):=by
 have HV:Hid _:=hV;have ml:Hid _:=hIs;have CP:Hid _:=hI;have Wp:Hid (∀k,k<l.length->∃G off,la=AI ⟨G,off,be⟩/\(l.getD k LY).Ok/\∀W,Below w.heap.size w W->W.rangeAt G (off+k*19) (Cc (l.getD k LY)).toList):=λk hk=>by
  obtain⟨G,off,e,hg⟩:=hl.row k hk;exact⟨G,off,e,hl.ok _ (bq hk LY),λW hW=>rI hg hW⟩
 obtain⟨⟨pn,cn,EN,_⟩,⟨pl,cl,lj,_,_⟩⟩:=id h;subst EN lj;generalize hn1:t0.ns.length=n0 at *;generalize Bd:t0.ls.length=m0 at *;obtain⟨W0,bJ⟩:∃W0,W0=(w.alloc (AT #[J pn n0 cn,J pl m0 cl] 27)).alloc (AT #[J be 0 0,J be 0 0] 27):=⟨_,rfl⟩;have bM:Below w.heap.size w W0:=by rw[bJ];exact((Ib _ _).alloc (Ic _) _).alloc (by simp) _
 have HI0:Hid (W0.heap[w.heap.size]?=AI (AT #[J pn n0 cn,J pl m0 cl] 27 (0,0))/\W0.heap[w.heap.size+1]?=AI (AT #[J be 0 0,J be 0 0] 27 (0,0))/\(gh w t0 (J pn n0 cn) (J pl m0 cl)\/fF (w.heap.size+2) W0 t0 (J pn n0 cn) (J pl m0 cl))/\(eu t0/\I t0)/\t0.ns.length=n0/\Below w.heap.size w W0):=by
  refine⟨?_,?_,.inl h,hr,hn1,bM⟩
  .rw[bJ];exact(Lib.alloc_old _ _ _ (by simp)).trans (Ih w _)
  .rw[bJ]
   have:=Ih (w.alloc (AT #[J pn n0 cn,J pl m0 cl] 27)) (AT #[J be 0 0,J be 0 0] 27);simpa using this
 have Tn:(l.length:Int)<=9223372036854775807:=by unfold Il at Ks;omega
 clear hV hIs hI hl h hr bM hn1 Bd Ks;generalize hnn:l.length=n at *;go_enter Tryz.func9,Tryz.ntmps9;go_wp2_with fail;rw[<- bJ];clear bJ;go_loopw [8] (λi wr=>∃(k n1 c1 l1 q1:Nat) (a1 d1:Option Addr) (t:Nt),k<=n/\i=U O k/\Hid (wr.heap[w.heap.size]?=AI (AT #[J a1 n1 c1,J d1 l1 q1] 27 (0,0))/\wr.heap[w.heap.size+1]?=AI (AT #[J be 0 0,J be 0 0] 27 (0,0))/\(gh w t (J a1 n1 c1) (J d1 l1 q1)\/fF (w.heap.size+2) wr t (J a1 n1 c1) (J d1 l1 q1))/\(eu t/\I t)/\t.ns.length=n0/\Below w.heap.size w wr)) (λi _=>n-(intOf i).toNat)
 case atStart=>exact⟨0,n0,cn,m0,cl,pn,pl,t0,II _,rfl,HI0⟩
 case round=>
  obtain⟨k,n1,c1,l1,q1,a1,d1,t,hk,rfl,HR⟩:=hrel;by_cases aW:k<n/\k<40
  .have hd:=decide_eq_true (by omega)
   have afS:decide ((k:Int)<40)=true:=decide_eq_true (by omega);obtain⟨G,off,kL,hvo,hrg⟩:=Wp.out k aW.1;subst kL;have Dn:Hid (∀W,Below wr.heap.size wr W->Calls AS 19 #[Ij #[J a1 n1 c1,J d1 l1 q1],Ij (Cc (l.getD k LY))] W λe w'=>Below W.heap.size W w'/\∃a2 n2 c2 d2 l2 q2 er,e=By (Ik #[Ij #[J a2 n2 c2,J d2 l2 q2],U O er])/\Hid (er=0->∃t',NR t t'/\fF W.heap.size w' t' (J a2 n2 c2) (J d2 l2 q2))):=λW hW=>by
    obtain⟨_,_,i3,i4,_,i6⟩:=HR.out;refine(Lk t _ _ (l.getD k LY) W (HV.out.after (i6.trans (hW.mono i6.size))) ((Inv.is i3 i4.1 i6).below hW) i4.1 hvo).mono ?_;rintro e w' ⟨hb,⟨er,aM,_,rfl⟩|⟨t',a2,n2,c2,d2,l2,q2,hx,rfl,hN⟩⟩
    .exact⟨hb,_,_,_,_,_,_,er,rfl,λhz=>absurd hz aM⟩
    .exact⟨hb,_,_,_,_,_,_,0,rfl,λ_=>⟨t',hx,hN⟩⟩
   have N6:Hid (∀W,Below wr.heap.size wr W->W.heap[w.heap.size]?=AI (AT #[J a1 n1 c1,J d1 l1 q1] 27 (0,0))/\W.rangeAt G (off+k*19) (Cc (l.getD k LY)).toList):=λW hW=>by
    obtain⟨i1,_,_,_,_,i6⟩:=HR.out;exact⟨(hW.block _ (BY.1 i1).1).trans i1,hrg W (i6.trans (hW.mono i6.size))⟩
   have uT:(k:Int)<(n:Int):=by omega
   have jq:¬ (k:Int)<0:=by omega
   have jz:(0:Int)<=(k:Int):=by omega
   have jO:((k:Int)).toNat=k:=by omega
   have Gn:Hid (k<n):=aW.1;clear hrg hvo aW;generalize l.getD k LY=v at *;go_upto_region 4 with fail
   go_cut [9,10] from 11 to 38 (λp9 e10 wx=>∃(B9 n2 c2 l2 q2:Nat) (a2 d2:Option Addr) (er:Int),p9=Ie (AI ⟨B9,0,be⟩)/\e10=U O er/\Hid (wx.heap[B9]?=AI (AT #[J a2 n2 c2,J d2 l2 q2] 27 (0,0))/\wr.heap.size<=B9)/\Hid ((er=0->∃t',NR t t'/\fF wr.heap.size wx t' (J a2 n2 c2) (J d2 l2 q2))/\Below wr.heap.size wr wx))
   case first=>
    clear HR Wp ml CP Gn HV;refine wp_region_held_drew (S:=λW=>W.heap[w.heap.size]?=AI (AT #[J a1 n1 c1,J d1 l1 q1] 27 (0,0))/\W.rangeAt G (off+k*19) (Cc v).toList) (by kernel_rfl) (N6.out _ (Ib _ _).drew) (λbQ=>?_);refine bZ 0 (v:=Ij #[J a1 n1 c1,J d1 l1 q1]) ?_ (hy:=Or.inl ⟨by rfl,λW LD=>nT 27 (.tmp 3) rfl w.heap.size rfl 27 #[J a1 n1 c1,J d1 l1 q1] (0,0) _ LD.1 Tryz.underlying27 rfl (by kernel_rfl)⟩);refine bZ 1 (v:=J (AI ⟨G,off,be⟩) n lc) ?_;refine bZ 2 (v:=U O (k:Int)) ?_;refine bZ 3 (v:=Ie (AI ⟨G,off+k*19,be⟩)) ?_;refine bZ 4 (v:=Ij (Cc v)) ?_ (hy:=Or.inl ⟨by rfl,λW LD=>vt 59 (.tmp 25) rfl G (off+k*19) rfl (Cc v).toList _ LD.2 Tryz.underlying59 rfl (by kernel_rfl)⟩);refine wpAnyH_ready (rs:=[5,9]) (by kernel_rfl) (by simp) ?_;refine AllReadyH.cons rfl (λK hK=>?_) (AllReadyH.cons rfl (λK hK=>?_) AllReadyH.nil)
    .have HK:Hid _:=hK
     clear hK;go_simp;refine Calls.mono (Dn.out _ (Ib _ _).drew) ?_;rintro e w5 ⟨jB,a2,n2,c2,d2,l2,q2,er,rfl,Gk⟩;have gE:Hid _:=(Ib wr.heap.size wr).drew.trans jB;clear jB Dn;refine HK.out _ _ (N6.out w5 gE.out) (λbQ=>?_);clear HK K;refine bZ 6 (v:=Ik #[Ij #[J a2 n2 c2,J d2 l2 q2],U O er]) ?_;refine bZ 7 (v:=Ij #[J a2 n2 c2,J d2 l2 q2]) ?_;refine bZ 8 (v:=U O er) ?_;refine cf 9 (λK hK=>?_);have HK:Hid _:=hK;clear hK;go_simp;have rK:Hid (Below wr.heap.size wr (w5.alloc (AT #[J be 0 0,J be 0 0] 27))):=gE.out.alloc gE.out.size _;refine HK.out _ _ (N6.out _ rK.out) (λbQ=>?_);clear HK K;refine cf 10 (λK hK=>?_);have HK:Hid _:=hK;clear hK;go_simp;have DW:Hid (Below wr.heap.size wr (w5.alloc (AT #[J a2 n2 c2,J d2 l2 q2] 27))):=gE.out.alloc gE.out.size _;refine HK.out _ _ (N6.out _ DW.out) (λbQ=>?_);clear HK K;refine bZ 11 (v:=U O er) ?_;refine QB (by kernel_rfl) ?_ _;clear bQ;go_wp2_with fail;go_meet
     case rel=>exact⟨w5.heap.size,n2,c2,l2,q2,a2,d2,er,rfl,rfl,⟨Ih w5 _,gE.out.size⟩,⟨λhz=>by
      obtain⟨t',hx,hN⟩:=Gk.out hz;exact⟨t',hx,hN.fa (λb _ hb=>((Ib w5.heap.size w5).alloc (Ic _) _).block b hb)⟩,DW.out⟩⟩
    .have HK:Hid _:=hK
     clear hK;go_simp;have rK:Hid (Below wr.heap.size wr ((wr.alloc (AT #[J be 0 0,J be 0 0] 27)).drew)):=((Ib wr.heap.size wr).alloc (Ic _) _).drew;have Dl:((wr.alloc (AT #[J be 0 0,J be 0 0] 27)).drew).heap[wr.heap.size]?=AI (AT #[J be 0 0,J be 0 0] 27 (0,0)):=Ih wr _;have Wy:((wr.alloc (AT #[J be 0 0,J be 0 0] 27)).drew).heap.size=wr.heap.size+1:=by simp
     refine HK.out _ _ (N6.out _ rK.out) (λbQ=>?_);clear HK K;generalize(wr.alloc (AT #[J be 0 0,J be 0 0] 27)).drew=W6b at *;have HS6:Hid _:=Wy;clear Wy;refine cf 5 (λK hK=>?_);have HK:Hid _:=hK;clear hK;go_simp;refine Calls.mono (Dn.out _ rK.out) ?_;rintro e w5 ⟨jB,a2,n2,c2,d2,l2,q2,er,rfl,Gk⟩;have gE:Hid _:=rK.out.trans (jB.mono rK.out.size);have mT:=(jB.block _ (BY.1 Dl).1).trans Dl;clear jB Dn Dl;refine HK.out _ _ (N6.out w5 gE.out) (λbQ=>?_);clear HK K;refine bZ 6 (v:=Ik #[Ij #[J a2 n2 c2,J d2 l2 q2],U O er]) ?_;refine bZ 7 (v:=Ij #[J a2 n2 c2,J d2 l2 q2]) ?_;refine bZ 8 (v:=U O er) ?_;obtain⟨W7,Ep⟩:∃W7,W7=aC wr.heap.size [J a2 n2 c2,J d2 l2 q2] 0 w5:=⟨_,rfl⟩;have MF:Hid (W7.heap[wr.heap.size]?=AI (AT #[J a2 n2 c2,J d2 l2 q2] 27 (0,0))):=by show _=_;rw[Ep];exact bC [J a2 n2 c2,J d2 l2 q2] [] [J be 0 0,J be 0 0] mT rfl
     have HN7:Hid ((er=0->∃t',NR t t'/\fF wr.heap.size W7 t' (J a2 n2 c2) (J d2 l2 q2))/\Below wr.heap.size wr W7):=by
      refine⟨λhz=>?_,by rw[Ep];exact aQ (Ic _) _ _ gE.out⟩;obtain⟨t',hx,nb7,L7,e1,e2,e3,e4⟩:=Gk.out hz;have hle:=HS6.out;have sj:∀b,W6b.heap.size<=b->b<w5.heap.size->W7.heap[b]?=w5.heap[b]?:=λb hb _=>by rw[Ep];exact aX (by omega) _ _ _
      exact⟨t',hx,nb7,L7,e1,e2,(e3.fa sj).mono (by omega),Lt.Own.mono (ee sj e4) (by omega)⟩
     have g0:=ae mT 0;have g1:=ae mT 1;have f0:=an mT 0;have f1:=an mT 1;clear mT;refine cf 10 (λK hK=>?_);have HK:Hid _:=hK;clear hK;go_simp;simp only[aC,IC] at Ep;rw[<- Ep];clear Ep g0 g1 f0 f1;refine HK.out _ _ (N6.out _ HN7.out.2) (λbQ=>?_);clear HK K;refine bZ 11 (v:=U O er) ?_;refine QB (by kernel_rfl) ?_ _;clear bQ;go_wp2_with fail;go_meet
     case rel=>exact⟨wr.heap.size,n2,c2,l2,q2,a2,d2,er,rfl,rfl,⟨MF.out,Ic _⟩,HN7.out⟩
   case rest=>
    obtain⟨B9,n2,c2,l2,q2,a2,d2,er,rfl,rfl,H9,HN9⟩:=hcut;have C8:IntKind.i64.wrap ((k:Int)+1)=(k:Int)+1:=by rw[IY];omega
    by_cases her:er=0
    .subst her
     obtain⟨t',hx,hN⟩:=HN9.out.1 rfl;have zn:=HN9.out.2;obtain⟨i1,i2,i3,i4,i5,i6⟩:=HR.out;have i7:=Inv.is i3 i4.1 i6;have Pe:=K3 i4.1 i7.ns.ok hx;have Wu:=CP.out t t' i4.1 Pe i4.2 hx;have BM:=(BY.1 i2).1;have HC:=ml.out wc t t' a1 n1 c1 d1 l1 q1 a2 n2 c2 d2 l2 q2 (i6.trans (zn.mono i6.size)) (i7.below zn) (uh hN Pe.right) i4.1 Pe Wu;have mT:=(zn.block _ (by omega)).trans i1;have jc:=(zn.block _ BM).trans i2;have y0:=ae H9.out.1 0;have y1:=ae H9.out.1 1;have g0:=ae mT 0;have g1:=ae mT 1;have HG:Hid (∀W,Below wc.heap.size wc W->W.heap[B9]?=AI (AT #[J a2 n2 c2,J d2 l2 q2] 27 (0,0))/\W.heap[w.heap.size]?=AI (AT #[J a1 n1 c1,J d1 l1 q1] 27 (0,0))/\W.heap[w.heap.size+1]?=AI (AT #[J be 0 0,J be 0 0] 27 (0,0))/\B9≠w.heap.size/\Below w.heap.size w W/\∀W8,W8=aC w.heap.size [J a2 n2 c2,J d2 l2 q2] 0 W->W8.heap[w.heap.size]?=AI (AT #[J a2 n2 c2,J d2 l2 q2] 27 (0,0))/\W8.heap[w.heap.size+1]?=AI (AT #[J be 0 0,J be 0 0] 27 (0,0))/\(gh w t' (J a2 n2 c2) (J d2 l2 q2)\/fF (w.heap.size+2) W8 t' (J a2 n2 c2) (J d2 l2 q2))/\(eu t'/\I t')/\t'.ns.length=n0/\Below w.heap.size w W8):=λW hW=>by
      have k1:=(hW.block B9 (BY.1 H9.out.1).1).trans H9.out.1;have k2:=(hW.block _ (BY.1 mT).1).trans mT;have k3:=(hW.block _ (BY.1 jc).1).trans jc;have k4:=(i6.trans (zn.mono i6.size)).trans (hW.mono (Nat.le_trans i6.size zn.size));have hle:=H9.out.2;refine⟨k1,k2,k3,by omega,k4,λW8 e8=>?_⟩;have eo:∀q,q≠w.heap.size->W8.heap[q]?=W.heap[q]?:=λq hq=>by rw[e8];exact aX hq _ _ _
      refine⟨by rw[e8];exact bC [J a2 n2 c2,J d2 l2 q2] [] [J a1 n1 c1,J d1 l1 q1] k2 rfl,(eo _ (by omega)).trans k3,?_,⟨Pe.right,Wu⟩,Pe.len.trans i5,by rw[e8];exact aQ (Ic _) _ _ k4⟩;exact .inr (((hN.fa (λb _ hb=>hW.block b hb)).fa (λb hb _=>eo b (by omega))).mono (by omega))
     clear hN zn i1 i2 i3 i4 i5 i6 i7 Wu Pe BM mT jc hx HN9 H9 HR Dn N6;go_wp2_with fail;refine HC.mono ?_;rintro e w6 ⟨rfl,rR⟩;obtain⟨j1,j2,j3,j4,j5,j6⟩:=HG.out w6 rR;clear y0 y1 g0 g1 HC;have y0:=ae j1 0;have y1:=ae j1 1;have g0:=ae j2 0;have g1:=ae j2 1;have f0:=an j2 0;have f1:=an j2 1;obtain⟨W8,DD⟩:∃W8,W8=aC w.heap.size [J a2 n2 c2,J d2 l2 q2] 0 w6:=⟨_,rfl⟩;have HR8:=j6 W8 DD;have afT:Hid _:=HR8;clear HR8 j1 j2 j3 j5 j6 HG rR;go_wp2_with fail;simp only[aC,IC] at DD;rw[<- DD];clear DD y0 y1 g0 g1 f0 f1;go_roundw
     case rel=>exact⟨k+1,n2,c2,l2,q2,a2,d2,t',by have:=Gn.out;omega,by go_num,afT⟩
     case measure=>simp[intOf];have:=Gn.out;omega
    .have hd2:(er==0)=false:=by simpa using her
     have hd3:(er !=0)=true:=by simpa using her
     have HR8:Hid (wc.heap[w.heap.size]?=AI (AT #[J a1 n1 c1,J d1 l1 q1] 27 (0,0))/\wc.heap[w.heap.size+1]?=AI (AT #[J be 0 0,J be 0 0] 27 (0,0))/\(gh w t (J a1 n1 c1) (J d1 l1 q1)\/fF (w.heap.size+2) wc t (J a1 n1 c1) (J d1 l1 q1))/\(eu t/\I t)/\t.ns.length=n0/\Below w.heap.size w wc):=by
      obtain⟨i1,i2,i3,i4,i5,i6⟩:=HR.out;have zn:=HN9.out.2;exact⟨(zn.block _ (BY.1 i1).1).trans i1,(zn.block _ (BY.1 i2).1).trans i2,i3.imp id (λh=>h.fa (λb _ hb=>zn.block b hb)),i4,i5,i6.trans (zn.mono i6.size)⟩
     clear HR HN9 H9 Dn N6 her;go_wp2_with fail;go_roundw
     case rel=>exact⟨k+1,n1,c1,l1,q1,a1,d1,t,by have:=Gn.out;omega,by go_num,HR8⟩
     case measure=>simp[intOf];have:=Gn.out;omega
  .have hdd:(k:Int)<(n:Int)->¬ (k:Int)<40:=λh1 h2=>aW ⟨by omega,by omega⟩
   obtain⟨i1,i2,i3,i4,i5,i6⟩:=HR.out;have x0:=ae i1 0;have x1:=ae i1 1;have g0:=ae i2 0;have g1:=ae i2 1;have f0:=an i2 0;have f1:=an i2 1;obtain⟨W8,DD⟩:∃W8,W8=aC (w.heap.size+1) [J a1 n1 c1,J d1 l1 q1] 0 wr:=⟨_,rfl⟩;have TV:W8.heap[w.heap.size+1]?=AI (AT #[J a1 n1 c1,J d1 l1 q1] 27 (0,0)):=by rw[DD];exact bC [J a1 n1 c1,J d1 l1 q1] [] [J be 0 0,J be 0 0] i2 rfl
   have gN:Hid (Below w.heap.size w W8/\gh W8 t (J a1 n1 c1) (J d1 l1 q1)/\(eu t/\I t)/\t.ns.length=n0):=by
    have Wz:Below w.heap.size w W8:=by rw[DD];exact aQ (by omega) _ _ i6
    refine⟨Wz,?_,i4,i5⟩;rcases i3 with i3|i3
    .exact i3.below Wz
    .exact uh (i3.fa (λb hb _=>by rw[DD];exact aX (by omega) _ _ _)) i4.1
   have q0:=ae TV 0;have q1':=ae TV 1;clear HR Wp ml CP HV i1 i2 i3 i4 i5 i6 TV;by_cases fQ:k<n
   .have hd:=decide_eq_true (by omega)
    have afS:=decide_eq_false (hdd (by omega));clear hdd aW;go_wp2_with fail;simp only[aC,IC] at DD;rw[<- DD];clear DD x0 x1 g0 g1 f0 f1;exact IK (v:=Ik #[Ij #[J a1 n1 c1,J d1 l1 q1],Ia true]) (by simp[results,Tryz.results9,go_sem,q0,q1']) rfl ⟨gN.out.1,t,_,_,_,_,_,_,rfl,gN.out.2⟩
   .have hd:=decide_eq_false (by omega)
    clear hdd aW;go_wp2_with fail;simp only[aC,IC] at DD;rw[<- DD];clear DD x0 x1 g0 g1 f0 f1;exact IK (v:=Ik #[Ij #[J a1 n1 c1,J d1 l1 q1],Ia true]) (by simp[results,Tryz.results9,go_sem,q0,q1']) rfl ⟨gN.out.1,t,_,_,_,_,_,_,rfl,gN.out.2⟩
theorem FR.below{w W:World}{a:Option Addr}{l:List Ev}(h:FR w a l)(hb:Below w.heap.size w W):FR W a l:=⟨h.ok,λk hk=>by
 obtain⟨G,off,e,hr⟩:=h.row k hk;exact⟨G,off,e,rI hr hb⟩⟩
def Lv(t:Nt):Prop:=t.ls=[]/\∀x∈t.ns,(∀m∈x.ms,m.name=x.name)/\x.sv=[]
theorem Cv(nodes eN:Int)(w:World)(hV:Rv w.heap.size w)(hn : -9223372036854775808<=nodes/\nodes<=9223372036854775807)(hc : -9223372036854775808<=eN/\eN<=9223372036854775807) :
 Calls AS 8 #[U O nodes,U O eN] w λe w'=>Below w.heap.size w w'/\∃t a m c d l q,e=By (Ik #[Ij #[J a m c,J d l q],Ia true])/\Hid (gh w' t (J a m c) (J d l q)/\eu t/\Lv t):=by
 have b1:=Ct nodes (show(0:Int)<6 by omega);have b2:=Ct eN (show(0:Int)<2 by omega);have e1:=Int.toNat_of_nonneg b1.1;have e2:=Int.toNat_of_nonneg b2.1;refine(Cu nodes eN (Ty nodes 6).toNat (Ty eN 2).toNat (by omega) (by omega) w hV (λW=>?_) (λW=>?_)).mono ?_
 .rw[e1];exact wC nodes 6 W (by omega) (by omega) hn.1 hn.2
 .rw[e2];exact wC eN 2 W (by omega) (by omega) hc.1 hc.2
 .rintro e w' ⟨hb,a,m,c,d,l,q,rfl,HN⟩
  exact⟨hb,_,_,_,_,_,_,_,rfl,HN.out,⟨Rc _ _ (by omega) (by omega),λl hl=>by cases hl⟩,rfl,λx hx=>by
   obtain⟨i,_,rfl⟩:=List.mem_map.1 hx;exact⟨λm hm=>by rw[Jb.1 hm];rfl,rfl⟩⟩
theorem Ak{t:Nt}(hr:eu t)(h:Lv t):uc t:=by
 obtain⟨_,_,z3,z4,_⟩:=Nt.aU hr.e;refine⟨λo ho x hx=>?_,λo _ l hl=>by rw[h.1] at hl;cases hl⟩;obtain⟨h1,h2⟩:=h.2 x hx;refine⟨λm hm e=>?_,λs hs=>by rw[h2] at hs;cases hs⟩;obtain⟨i,hi,rfl⟩:=IU hx;obtain⟨j,hj,rfl⟩:=IU ho;by_cases iY:i=j
 .subst iY;exact(wy (z3 _ hx)).ms m hm e
 .have:=zX z4 iY hi hj
  rw[RL.j9 cS hi,RL.j9 cS hj] at this;exact absurd ((h1 m hm).symm.trans e) this
theorem uG(nodes eN:Int)(l:List Ev)(la:Option Addr)(lc:Nat)(w:World)(hV:Rv w.heap.size w)(hn : -9223372036854775808<=nodes/\nodes<=9223372036854775807)(hc : -9223372036854775808<=eN/\eN<=9223372036854775807)(hl:FR w la l)(Ks:l.length<=Il) :
 Calls AS 4 #[U O nodes,U O eN,J la l.length lc] w λe w'=>e=By (Ia true)/\Below w.heap.size w w':=by
 have LC:Hid (∀W,Below w.heap.size w W->Calls _ _ _ _ _):=λW hW=>vp W (hV.after hW);have HOB:Hid (∀W,Calls _ _ _ _ _):=λW=>vi W;have F7:Hid (∀W,Below w.heap.size w W->Calls _ _ _ _ _):=λW hW=>Cv nodes eN W (hV.after hW) hn hc;have HRU:Hid (∀W t a m c d k q,Below w.heap.size w W->gh W t (J a m c) (J d k q)/\eu t/\Lv t->Calls AS 9 #[Ij #[J a m c,J d k q],J la l.length lc,.func (.func 13) #[] #[]] W λe w'=>Below W.heap.size W w'/\∃a k c b m d,e=By (Ik #[Ij #[J a k c,J b m d],Ia true])):=λW t a m c d k q hW ht=>by
  refine(N5 13 (enters_of Tryz.func13 (by kernel_rfl) rfl) l la lc t _ _ W (hV.after hW) (hl.below hW) ht.1 uc ⟨ht.2.1,Ak ht.2.1 ht.2.2⟩ (λ_ _ h1 h2 h3 h4=>FB h1 h2 h3 h4) Ks (λW2 t t' a1 n1 c1 d1 l1 q1 a2 n2 c2 d2 l2 q2 hb h1 h2 hr hg hi=>K6 t' a1 d1 a2 d2 n1 c1 l1 q1 n2 c2 l2 q2 W2 h2 hg.right hi)).mono ?_;rintro e w' ⟨hb,_,_,_,_,_,_,_,rfl,_⟩;exact⟨hb,_,_,_,_,_,_,rfl⟩
 clear hV hn hc hl Ks;generalize l.length=ll at *;go_enter Tryz.func4,Tryz.ntmps4;go_wp2_with fail;refine(LC.out w (Ib _ _)).mono ?_;rintro e w1 ⟨rfl,aB⟩;have aV:Hid _:=aB;clear aB LC;go_wp2_with fail;refine(HOB.out w1).mono ?_;rintro e w2 ⟨rfl,aJ⟩;have bp:Hid _:=aV.out.trans (aJ.mono aV.out.size);clear aJ HOB aV;go_wp2_with fail;refine(F7.out w2 bp.out).mono ?_;rintro e w3 ⟨bV,t,a,m,c,d,k,q,rfl,HN⟩;have cj:Hid _:=bp.out.trans (bV.mono bp.out.size);obtain⟨W4,nQ⟩:∃W4,W4=w3.alloc (AT #[J a m c,J d k q] 27):=⟨_,rfl⟩;have eO:Below w3.heap.size w3 W4:=by rw[nQ];exact(Ib _ _).alloc (Ic _) _
 have eP:Hid _:=cj.out.trans (eO.mono cj.out.size);have Lm:W4.heap[w3.heap.size]?=AI (AT #[J a m c,J d k q] 27 (0,0)):=by rw[nQ];exact Ih w3 _
 have x0:=ae Lm 0;have x1:=ae Lm 1;have HC:=HRU.out W4 t a m c d k q eP.out ⟨HN.out.1.below eO,HN.out.2⟩;clear bV eO Lm F7 bp cj HN HRU;go_upto_region 4 with fail
 rw[<- nQ];clear nQ;go_wp2_with fail;refine HC.mono ?_;rintro e w5 ⟨jB,a5,k5,c5,b5,m5,d5,rfl⟩;have gE:Hid _:=eP.out.trans (jB.mono eP.out.size);clear jB HC x0 x1;go_wp2_with fail;go_ret;exact⟨rfl,gE.out⟩
end Go.Proofs.YtfidhgjmifendaaGreatDoor
namespace Go.Proofs.YtfidhgjmifendaaGreatDoor
open Go.ChangeShapes Go.WideShapes Go.ChangeAt Go.RowKit
section
variable {H:Type} {enc:TypeId × Value→H} {w:World} {base:Nat} {spare:Nat→Bool} {held:Bool}
theorem Tryz.kcE:Tryz.prog.cellsOf 59=19:=by kernel_rfl
theorem Tryz.afV:Tryz.prog.cellsOf 46=9:=by kernel_rfl
theorem Tryz.N7:Tryz.prog.cellsOf 3=1:=by kernel_rfl
theorem Tryz.afW:Tryz.prog.cellsOf 9=1:=by kernel_rfl
theorem Cw{fuel:Nat}{cs:List Value}{x:DataW H×List MemPlace}(h:DataW.trod enc AS w base spare held fuel 59 cs=AI x) :
 ∃v:Ev,cs=(Cc v).toList/\v.Ok:=by
 obtain⟨xs,n,_,_,hl,hlen,hf⟩:=DataW.trod_struct Tryz.underlying59 h;rw[Tryz.kcE] at hl
 match cs,hl with
 |[c0,c1,c2,c3,c4,c5,c6,c7,c8,c9,c10,c11,c12,c13,c14,c15,c16,c17,c18],_=>
  match xs,hlen with
  |[y0,y1,y2,y3,y4,y5,y6],_=>
   have h0:=hf 0 _ rfl;have h1:=hf 1 _ rfl;have h2:=hf 2 _ rfl;have h3:=hf 3 _ rfl;have h4:=hf 4 _ rfl;have h5:=hf 5 _ rfl;have h6:=hf 6 _ rfl;simp[Tryz.N7] at h0;simp[Tryz.N7] at h1;simp[Tryz.N7] at h2;simp[Tryz.N7] at h3;simp[Tryz.afW] at h4;simp[Wh.kcP] at h5;simp[Tryz.afV] at h6;obtain⟨i0,e0,_,w0⟩:=JZ ID h0;obtain⟨i1,e1,_,_⟩:=JZ ID h1;obtain⟨i2,e2,_,_⟩:=JZ ID h2;obtain⟨i3,e3,_,_⟩:=JZ ID h3;obtain⟨s,e4,_,w4⟩:=DataW.trod_string Tryz.underlying9 h4;obtain⟨a,b,c,d,e,e5⟩:=Wh.yG h5;obtain⟨sv,e6,w6⟩:=Sv.zj h6;simp only[O0,and_true] at e0 e1 e2 e3 e4 e5 e6;obtain⟨r1,r2,r3,r4,r5⟩:=e5;obtain⟨q1,q2,q3,q4,q5,q6,q7,q8,q9⟩:=e6;subst e0 e1 e2 e3 e4 r1 r2 r3 r4 r5 q1 q2 q3 q4 q5 q6 q7 q8 q9;exact⟨⟨i0,i1,i2,i3,s,⟨a,b,c,d,e⟩,sv⟩,rfl,w0,w4,w6⟩
theorem yz{r:Reach}{b0:Nat}{v:Value}{d:DataW H}{p:List MemPlace}(hv:Value.okWide AS w r b0 22 v)(h:DataW.Trod enc AS w base spare held 22 v d p) :
 ∃(l:List Ev) (a:Option Addr) (c:Nat),v=J a l.length c/\FR w a l/\l.length<=Il:=by
 obtain⟨a,len,cap,rfl⟩:=okWide_slice Tryz.underlying22 hv;obtain⟨fuel,hf⟩:=h;rcases Go.Deep.open_slice Tryz.underlying22 hf with⟨b9,_⟩|⟨x,am2,am3,m,n,D,Pl,b9,hb,hl,hm,GA,_,hx⟩
 .simp only[Value.cells,O0,and_true,Value.slice.injEq] at b9
  obtain⟨rfl,rfl,rfl⟩:=b9;exact⟨[],be,0,rfl,⟨λv hv=>(by cases hv),λk hk=>absurd hk (by simp)⟩,by simp⟩
 .simp only[Value.cells,O0,and_true,Value.slice.injEq] at b9
  obtain⟨rfl,rfl,rfl⟩:=b9;have Tn:len<=m:=by rw[GA];split<;>omega
  have ku:∀i,i<len->∃q:Ev,q.Ok/\∀t,t<19->w.cell? (x.add (i*19+t))=(Cc q).toList[t]?:=λi hi=>by
   obtain⟨cs',h1,h2⟩:=hx i (by omega);obtain⟨q,hq,hs⟩:=Cw h2;rw[Tryz.kcE] at h1;obtain⟨_,_,h3⟩:=World.cells?_some h1;refine⟨q,hs,λt ht=>?_⟩;rw[<- Go.Deep.add_add,h3 t ht,hq]
  have aek:Inhabited Ev:=⟨LY⟩;obtain⟨F,hF⟩:=Go.Deep.choose_lt (α:=Ev) (p:=λi q=>q.Ok/\∀t,t<19->w.cell? (x.add (i*19+t))=(Cc q).toList[t]?) ku;have kD:∀j,j<len->((JD len).map F).getD j LY=F j:=λj hj=>by simp[Ip,hj]
  refine⟨(JD len).map F,AI x,cap,by simp,⟨λv hv=>?_,λk hk=>?_⟩,by simp;omega⟩
  .obtain⟨j,hj,rfl⟩:=List.mem_map.1 hv
   exact(hF j (List.mem_range.1 hj)).1
  .have MU:k<len:=by simpa using hk
   obtain⟨b,off,spot⟩:=x;have hc0:=(hF 0 (by omega)).2 0 (by omega);have aaz:spot=be:=by simpa[Addr.add] using World.cell?_spot hc0
   subst aaz;refine⟨b,off,rfl,λi v hi=>?_⟩;rw[kD k MU] at hi;have hi2:=(List.getElem?_eq_some_iff.1 hi).1;have:=(hF k MU).2 i hi2;rw[Go.WideShapes.add_plain,<- Nat.add_assoc,hi] at this;exact this
end
end Go.Proofs.YtfidhgjmifendaaGreatDoor
