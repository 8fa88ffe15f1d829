import Derived.Test.YtfidhgjmifendaaGreatDoorns49
set_option maxHeartbeats 51200000
set_option maxRecDepth 100000
open List renaming range→Jx,length_map→JJ,getD→Ip,mem_map_of_mem→OI,length_append→Ig,mem_singleton→I8,map_append→O3,getElem_of_mem→IX
open Go renaming maxLen→Il,heap_alloc_new→Ih,redrawn→Iz,Regrown→JT,cell_regrown→Iq,wp_region_quiet_below→IG,below_regrown→QU
open Go.Value renaming string→Y,int→U,agg→Ij,slice→J,bool→Ia,tuple→Ik
open Option renaming some→AI,none→be
open Go.IntKind renaming i64→O,wrap_i64→IW
open Go.Ending renaming returned→AT
open Go.Proofs.Tryz renaming prog→AS
open Array renaming getElem?_eq_some_iff→BY,getElem?_toList→Oo
open Go.Obj renaming cells→By
open Nat renaming zero_le→IP,le_refl→Ic,zero_add→IC
open Go.RowKit.Below renaming refl→Ib
open Go.Calls renaming mono→Oi,regrown_of→IZ
open Go.Sort renaming grow→Im
namespace Go.Proofs.YtfidhgjmifendaaGreatDoor
open Go.RowKit
def vN(i:Nat):ByteArray:=[(⟨#[97]⟩:ByteArray),⟨#[98]⟩,⟨#[101]⟩,⟨#[102]⟩,⟨#[103]⟩,⟨#[104]⟩].getD i ⟨#[]⟩
def uI(c i:Nat):ByteArray:=if i%(1+c)=0 then⟨#[99]⟩ else⟨#[100]⟩
def lA(c i:Nat):Nd:=GR (vN i) (uI c i) (i:Int) (decide (i%2=0))
theorem aaP(c i:Nat)(hc:c<=1)(hi:i<6):Ns (vN i) (uI c i) (i:Int)=0:=by
 rcases(by omega:c=0\/c=1) with rfl|rfl<;>rcases(by omega:i=0\/i=1\/i=2\/i=3\/i=4\/i=5) with rfl|rfl|rfl|rfl|rfl|rfl<;>kernel_rfl
theorem RD(c k:Nat)(hc:c<=1)(hk:k<=5):(Nt.mk ((Jx (k+1)).map (lA c)) []).e=0:=by
 rcases(by omega:c=0\/c=1) with rfl|rfl<;>rcases(by omega:k=0\/k=1\/k=2\/k=3\/k=4\/k=5) with rfl|rfl|rfl|rfl|rfl|rfl<;>kernel_rfl
theorem agB(c i:Nat):(uI c i).size<=Il:=by unfold uI;split<;>decide
theorem agC(c i:Nat)(hc:c<=1):(#[Y ⟨#[99]⟩,Y ⟨#[100]⟩]:Array Value)[i%(1+c)]?=AI (Y (uI c i)):=by
 unfold uI;split
 .rename_i h;rw[h];rfl
 .rename_i h
  have:i%(1+c)=1:=by have:=Nat.mod_lt i (by omega:0<1+c);omega
  rw[this];rfl
def AE(c n:Int):Int:=if c<0 then(-(c+1)).tmod n else c.tmod n
theorem uJ(c:Int){n:Int}(hn:0<n):0<=AE c n/\AE c n<n:=by
 unfold AE;split
 .exact⟨Int.tmod_nonneg _ (by omega),Int.tmod_lt_of_pos _ hn⟩
 .exact⟨Int.tmod_nonneg _ (by omega),Int.tmod_lt_of_pos _ hn⟩
theorem nV(c n:Int)(w:World)(hn:0<n)(SL:n<=1000)(hc : -9223372036854775808<=c)(DR:c<=9223372036854775807) :
 Calls AS 17 #[U O c,U O n] w λe w'=>e=AT (U O (AE c n))/\w'=w:=by
 have hb:=uJ c hn;have h0:(n==0)=false:=by
  have h:n≠0:=by omega
  simpa using h
 unfold AE at hb ⊢;by_cases h:c<0
 .rw[if_pos h] at hb ⊢
  have h1:IntKind.i64.wrap (c+1)=c+1:=by rw[IW];omega
  have h2:IntKind.i64.wrap (-(c+1)) = -(c+1):=by rw[IW];omega
  have h5:IntKind.i64.wrap ((-(c+1)).tmod n)=(-(c+1)).tmod n:=by rw[IW];omega
  have h3:=decide_eq_true h;go_enter Tryz.func17,Tryz.ntmps17;go_wp2_with fail;go_ret;exact⟨by rw[Int.neg_tmod];rfl,rfl⟩
 .rw[if_neg h] at hb ⊢
  have h5:IntKind.i64.wrap (c.tmod n)=c.tmod n:=by rw[IW];omega
  have h3:=decide_eq_false h;go_enter Tryz.func17,Tryz.ntmps17;go_wp2_with fail;go_ret;exact⟨by rw[Int.tmod_eq_emod_of_nonneg (by omega)];rfl,rfl⟩
theorem aaQ:∀i,i<6->(vN i).size<=Il
 |0,_=>by decide
 |1,_=>by decide
 |2,_=>by decide
 |3,_=>by decide
 |4,_=>by decide
 |5,_=>by decide
 |i+6,h=>absurd h (by omega)
theorem aaR:∀i,i<6->(#[Y ⟨#[97]⟩,Y ⟨#[98]⟩,Y ⟨#[101]⟩,Y ⟨#[102]⟩,Y ⟨#[103]⟩,Y ⟨#[104]⟩]:Array Value)[i]?=AI (Y (vN i))
 |0,_=>rfl
 |1,_=>rfl
 |2,_=>rfl
 |3,_=>rfl
 |4,_=>rfl
 |5,_=>rfl
 |i+6,h=>absurd h (by omega)
theorem Tryz.TO:(Tryz.prog.info? 42).map (λi=>(i.zero,i.size,i.bytes))=AI (AI (Ij #[Y ⟨#[]⟩,Y ⟨#[]⟩,J be 0 0,J be 0 0,J be 0 0,J be 0 0,U O 0,U O 0,U O 0,U O 0,U O 0,J be 0 0]),12,192):=by kernel_rfl
theorem Pu(c i:Nat)(hc:c<=1)(hi:i<6)(W:World) :
 Calls AS 21 #[Y (vN i),Y (uI c i),U O (i:Int),Ia (decide (i%2=0))] W λe w'=>Below W.heap.size W w'/\∃a2 uR uS a3 uT uU a4 uV uW a5 uX uY a6 uZ vc,e=AT (Ik #[Ij #[Y (vN i),Y (uI c i),J a2 uR uS,J a3 uT uU,J a4 uV uW,J a5 uX uY,U O 0,U O 0,U O 0,U O 0,U O 1000,J a6 uZ vc],U O 0])/\Hid (cP W.heap.size w' (lA c i) (J a2 uR uS) (J a3 uT uU) (J a4 uV uW) (J a5 uX uY) (J a6 uZ vc)/\iw (lA c i)):=by
 refine(sS (vN i) (uI c i) (i:Int) (decide (i%2=0)) W (aaQ i hi) (agB c i)).mono ?_;rintro e w' ⟨hb,⟨aQ,_⟩|⟨_,aQ,_⟩|⟨_,_,um,ur,us,ug,uw,rfl,ho,hk⟩⟩
 .exact absurd (aaP c i hc hi) aQ
 .exact absurd rfl aQ
 .obtain⟨x2,y2,e2⟩:=aL ho.ms
  obtain⟨x3,y3,e3⟩:=aL ho.rs;obtain⟨x4,y4,e4⟩:=aL ho.sv;obtain⟨x5,y5,e5⟩:=aL ho.gw;obtain⟨x6,y6,e6⟩:=aL ho.wh;subst e2 e3 e4 e5 e6;exact⟨hb,_,_,_,_,_,_,_,_,_,_,_,_,_,_,_,rfl,ho,hk⟩
structure TP(C:Nat)(w:World)(v:Value)(L:List Nx):Prop where
 row:w.ownsRow C 42 12 v L.length (ji L)
 own:∀x∈L,cP C w x.n x.vm x.vr x.vs x.vg x.vw/\iw x.n
theorem TP.below{C:Nat}{w w':World}{v:Value}{L:List Nx}(h:TP C w v L)(hb:Below w.heap.size w w'):TP C w' v L:=
 ⟨ev h.row (λb _ _ e=>(hb.block b (BY.1 e).1).trans e),λx hx=>⟨(h.own x hx).1.below hb,(h.own x hx).2⟩⟩
theorem cP.grown{B:Nat}{w w':World}{n:Nd}{vm vr vs vg vw:Value}{row:Option Nat}(h:cP B w n vm vr vs vg vw)(hg:w.grownBy w' row)(hr:∀b,row=AI b->∃cs,w.heap[b]?=AI (By cs 42 (0,0))):cP B w' n vm vr vs vg vw:=by
 have hq:∀(q:Nat) (c:Array Value) (T:TypeId) (f:Nat×Nat),T≠42->w.heap[q]?=AI (By c T f)->w'.heap[q]?=AI (By c T f):=λq c T f hT e=>(hg.block q (BY.1 e).1 (λe2=>by
  obtain⟨cs,h2⟩:=hr q e2.symm;rw[h2] at e;simp at e;exact hT e.2.1.symm)).trans e
 exact⟨ev h.ms (λq c f e=>hq q c _ f (by decide) e),ev h.rs (λq c f e=>hq q c _ f (by decide) e),ev h.sv (λq c f e=>hq q c _ f (by decide) e),ev h.gw (λq c f e=>hq q c _ f (by decide) e),ev h.wh (λq c f e=>hq q c _ f (by decide) e)⟩
theorem TP.nsl{C:Nat}{w:World}{v:Value}{L:List Nx}(h:TP C w v L):xY w v (L.map (·.n)):=by
 rcases h.row.2 with⟨rfl,h0⟩|⟨b,c,cur,rfl,eD,hb,hn,dR,cf,xK⟩
 .have:L=[]:=List.eq_nil_of_length_eq_zero h0
  subst this;exact⟨be,0,rfl,.inl rfl⟩
 .refine⟨AI ⟨b,0,be⟩,c,by rw[JJ],.inr ⟨b,0,rfl,(BY.1 hb).1,λj hj=>?_⟩⟩
  have FJ:j<L.length:=by simpa using hj
  have SL:(L.getD j bZ).n=(L.map (·.n)).getD j bC:=by
   rw[Ip,Ip,List.getElem?_map,List.getElem?_eq_getElem FJ];rfl
  have ho:=h.own _ (gv FJ);rw[<- SL];refine⟨_,_,_,_,_,ho.1.is ho.2,λi hi=>?_⟩;have hg:=mm L j FJ i hi;rw[ae hb,show 0+j*12+i=j*12+i by omega,<- Oo,<- List.getElem?_take_of_lt (show j*12+i<L.length*12 by omega),xK,hg,Nx.cs,Oo]
theorem CM(nodes et:Int)(k z:Nat)(hk:k<=5)(hc:z<=1)(w:World)(hV:Rv w.heap.size w)(jJ:∀W:World,Calls AS 17 #[U O nodes,U O 6] W λe w'=>e=AT (U O (k:Int))/\w'=W)(DR:∀W:World,Calls AS 17 #[U O et,U O 2] W λe w'=>e=AT (U O (z:Int))/\w'=W) :
 Calls AS 8 #[U O nodes,U O et] w λe w'=>Below w.heap.size w w'/\∃a l c2 d m q,e=AT (Ik #[Ij #[J a l c2,J d m q],Ia true])/\Hid (fo w' ⟨(Jx (k+1)).map (lA z),[]⟩ (J a l c2) (J d m q)):=by
 obtain⟨i0,fV,di,il,gT⟩:=info_parts Tryz.TO;have he:=RD z k hc hk;have RB:Hid (∀W v,Below w.heap.size w W->xY W v ((Jx (k+1)).map (lA z))->Calls AS 22 #[v] W λe w'=>Below W.heap.size W w'/\∃a l c d m q,e=AT (Ik #[Ij #[J a l c,J d m q],U O 0])/\Hid (fa W.heap.size w' ⟨(Jx (k+1)).map (lA z),[]⟩ (J a l c) (J d m q))):=λW v hW hv=>by
  refine(uz _ v W (hV.after hW) hv).mono ?_;rintro e w' ⟨hb,⟨_,a,l,c,d,m,q,nb,L,rfl,ho⟩|⟨aQ,_⟩⟩
  .have hns:L.map (·.n)=(Jx (k+1)).map (lA z):=ho.ns
   have hLn:L.length=((Jx (k+1)).map (lA z)).length:=by rw[<- hns,JJ]
   exact⟨hb,_,_,_,_,_,_,rfl,nb,L,by rw[hLn];exact ho.un,ho.ns,⟨ho.le,ho.row,λx hx=>(ho.own x hx).mono (by have:=ho.le;omega),λx hx=>hv.ok _ (by rw[<- hns];exact OI hx)⟩,Lt.Own.mono ho.ls (by have:=ho.le;omega)⟩
  .exact absurd he aQ
 have TQ:Hid _:=jJ;have qw:Hid _:=DR;have hwc:IntKind.i64.wrap (1+(z:Int))=1+(z:Int):=by rw[IW];omega
 have uN:(1+(z:Int)==0)=false:=by
  have h:1+(z:Int)≠0:=by omega
  simpa using h
 have MY:IntKind.i64.wrap (1+(k:Int))=1+(k:Int):=by rw[IW];omega
 clear hV he jJ DR;obtain⟨W0,bN,bO,-,hz⟩:=bY w #[J be 0 0,J be 0 0] 27;have sr:Hid (w.heap.size+1<=W0.heap.size):=by show _<=_;rw[bN];simp
 have db:Hid (Below w.heap.size w W0/\W0.heap[w.heap.size]?=AI (By #[J be 0 0,J be 0 0] 27 (0,0))):=⟨bO,hz⟩;clear bO hz;go_enter Tryz.func8,Tryz.ntmps8;go_wp2_with fail;rw[<- bN];clear bN;go_loopw [6,7] (λv i wr=>∃(j:Nat) (L:List Nx) (a:Option Addr) (c:Nat),j<=k+1/\i=U O j/\v=J a j c/\Hid (L.map (·.n)=(Jx j).map (lA z)/\L.length=j)/\Hid (TP (w.heap.size+1) wr (J a j c) L)/\Hid (Below w.heap.size w wr/\wr.heap[w.heap.size]?=AI (By #[J be 0 0,J be 0 0] 27 (0,0)))) (λ_ i _=>k+1-(intOf i).toNat)
 case atStart=>exact⟨0,[],be,0,IP _,rfl,rfl,⟨rfl,rfl⟩,⟨World.ownsRow_nil _ _ _ _,λx hx=>by cases hx⟩,db⟩
 case round=>
  obtain⟨j,L,a,c,hj,rfl,rfl,HL,HG,HB⟩:=hrel;by_cases aX:j<k+1
  .have hd:=decide_eq_true (by omega)
   have hj6:j<6:=by omega
   obtain⟨r,hr⟩:∃r,r=j%(1+z):=⟨_,rfl⟩;have rJ:r<2:=by have:=Nat.mod_lt j (by omega:0<1+z);omega
   have oP:(j:Int)%(1+(z:Int))=(r:Int):=by rw[hr,Int.natCast_emod];rfl
   have hm2:=(Int.tmod_eq_emod_of_nonneg (by omega)).trans oP;have hmw:IntKind.i64.wrap (r:Int)=(r:Int):=by rw[IW];omega
   have hr3:(r:Int)<2:=by omega
   have FX:(0:Int)<=(r:Int):=by omega
   have hr5:((r:Int)).toNat=r:=by omega
   have SS:=(agC z j hc).trans rfl;rw[<- hr] at SS;clear hr rJ;have hm4:((j:Int)%2==0)=decide (j%2=0):=by
    by_cases h:j%2=0
    .rw[decide_eq_true h]
     have:(j:Int)%2=0:=by omega
     simpa using this
    .rw[decide_eq_false h]
     have:(j:Int)%2≠0:=by omega
     simpa using this
   have HM4:Hid _:=hm4;clear hm4;have HNO:=Pu z j hc hj6;have aaS:Hid _:=HNO;clear HNO;go_wp2_with fail;refine(TQ.out wr).mono ?_;rintro e w' ⟨rfl,KC⟩;have LZ:=KC.symm;subst LZ;go_wp2_with fail;obtain⟨W1,cT⟩:∃W1,W1=wr.alloc (By #[Y ⟨#[99]⟩,Y ⟨#[100]⟩] 9):=⟨_,rfl⟩;rw[<- cT];refine(qw.out W1).mono ?_;rintro e w' ⟨rfl,KC⟩;have LZ:=KC.symm;subst LZ;have hx1:W1.heap[wr.heap.size]?=AI (By #[Y ⟨#[99]⟩,Y ⟨#[100]⟩] 9 (0,0)):=by rw[cT];exact Ih wr _
   have ba:Hid (Below wr.heap.size wr W1):=by show Below _ _ _;rw[cT];exact(Ib _ _).alloc (Ic _) _
   have x0:=(ae hx1 r).trans SS;have y0:(W1.alloc (By #[Y ⟨#[97]⟩,Y ⟨#[98]⟩,Y ⟨#[101]⟩,Y ⟨#[102]⟩,Y ⟨#[103]⟩,Y ⟨#[104]⟩] 9)).cell? ⟨W1.heap.size,j,be⟩=AI (Y (vN j)):=(ae (Ih W1 _) j).trans (aaR j hj6);have hj7:(j:Int)<6:=by omega
   clear cT hx1;go_wp2_with fail;obtain⟨W2,bJ⟩:∃W2,W2=W1.alloc (By #[Y ⟨#[97]⟩,Y ⟨#[98]⟩,Y ⟨#[101]⟩,Y ⟨#[102]⟩,Y ⟨#[103]⟩,Y ⟨#[104]⟩] 9):=⟨_,rfl⟩;rw[<- bJ];have bu:Hid (Below wr.heap.size wr W2):=by show Below _ _ _;rw[bJ];exact ba.out.alloc ba.out.size _
   rw[HM4.out];refine Oi (aaS.out W2) ?_;rintro e w3 ⟨bX,a2,uR,uS,a3,uT,uU,a4,uV,uW,a5,uX,uY,a6,uZ,vc,rfl,HN3⟩;have cJ:Hid _:=bu.out.trans (bX.mono bu.out.size);clear bX bJ x0 y0 aaS;generalize cZ:vN j=nm at *;generalize Hz:uI z j=ct at *;have Nf:Hid (vN j=nm/\uI z j=ct):=⟨cZ,Hz⟩;clear cZ Hz;have cI:=cJ.out.size;obtain⟨W4,nZ,eU,-,GX⟩:=bY w3 #[Y nm,Y ct,J a2 uR uS,J a3 uT uU,J a4 uV uW,J a5 uX uY,U O 0,U O 0,U O 0,U O 0,U O 1000,J a6 uZ vc] 42;have fO:Hid _:=cJ.out.trans (eU.mono cJ.out.size);have qN:Hid _:=HB.out.1.trans (fO.out.mono HB.out.1.size);have Df:=(HG.out.below fO.out);have cR:W4.ownsRow (w.heap.size+1) 42 12 (J a j c) j (ji L):=by have h:=Df.row;rw[HL.out.2] at h;exact h
   have nX:Hid (cP (w.heap.size+1) W4 (lA z j) (J a2 uR uS) (J a3 uT uU) (J a4 uV uW) (J a5 uX uY) (J a6 uZ vc)/\iw (lA z j)):=⟨(HN3.out.1.below eU).mono (by have:=bu.out.size;have:=HB.out.1.size;have:=(BY.1 HB.out.2).1;omega),HN3.out.2⟩;have HOO:Hid _:=Df.own;obtain⟨p0,p1,p2,p3,p4,p5,p6,p7,p8,p9,p10,p11⟩:=bB GX;have PN:Hid _:=(fO.out.block _ (BY.1 HB.out.2).1).trans HB.out.2;have hbs:w.heap.size+1<=W4.heap.size:=by have:=fO.out.size;have:=(BY.1 HB.out.2).1;omega
   clear eU GX Df HN3;go_upto_region 7 with fail
   rw[<- nZ];clear nZ;have GS:Hid (∀b,(J a j c).ownBlock=AI b->∃cs,W4.heap[b]?=AI (By cs 42 (0,0))):=λb e=>(iG cR e).2;have HRL:Hid (∀b,(J a j c).ownBlock=AI b->w.heap.size+1<=b):=λb e=>(iG cR e).1;have h63:j+1<=Il:=by unfold Il;omega
   have Kd:(j+1)*192<=140737488355328:=by omega
   go_wp2_with (at_builtin;refine wpList_append_lies _ rfl _ _ 24 rfl (w.heap.size+1) 42 i0 _ 12 192 Tryz.underlying24 fV di il gT rfl (by omega) (J a j c) j (ji L) rfl (World.ownsRow.alloc cR _) ⟨W4.heap.size,0,be⟩ 1 1 [Y nm,Y ct,J a2 uR uS,J a3 uT uU,J a4 uV uW,J a5 uX uY,U O 0,U O 0,U O 0,U O 0,U O 1000,J a6 uZ vc] rfl rfl (World.news_of_block (cs:=#[Y nm,Y ct,J a2 uR uS,J a3 uT uU,J a4 uV uW,J a5 uX uY,U O 0,U O 0,U O 0,U O 0,U O 1000,J a6 uZ vc]) (t:=42) (fr:=(0,0)) (Ih W4 _)) (by simp[Value.oneCell']) (by omega) h63 Kd (by simp;omega) (W4.heap.size+1) (by simp) ?_;intro gg cap w5 hown fN cH TM);have VH:Below W4.heap.size W4 (W4.alloc (By #[Y nm,Y ct,J a2 uR uS,J a3 uT uU,J a4 uV uW,J a5 uX uY,U O 0,U O 0,U O 0,U O 0,U O 1000,J a6 uZ vc] 42)):=(Ib _ _).alloc (Ic _) _;have HGR:Hid (TP (w.heap.size+1) w5 (J (AI ⟨gg,0,be⟩) (j+1) cap) (L++[⟨lA z j,J a2 uR uS,J a3 uT uU,J a4 uV uW,J a5 uX uY,J a6 uZ vc⟩])):=by
    have hrb:∀b,(J a j c).ownBlock=AI b->∃cs,(W4.alloc (By #[Y nm,Y ct,J a2 uR uS,J a3 uT uU,J a4 uV uW,J a5 uX uY,U O 0,U O 0,U O 0,U O 0,U O 1000,J a6 uZ vc] 42)).heap[b]?=AI (By cs 42 (0,0)):=λb e=>by
     obtain⟨cs,h2⟩:=GS.out b e;exact⟨cs,(VH.block b (BY.1 h2).1).trans h2⟩
    refine⟨?_,λx hx=>?_⟩
    .have hl:(L++[(⟨lA z j,J a2 uR uS,J a3 uT uU,J a4 uV uW,J a5 uX uY,J a6 uZ vc⟩:Nx)]).length=j+1:=by rw[Ig,HL.out.2];rfl
     rw[hl,kJ,sV];have cf:(⟨lA z j,J a2 uR uS,J a3 uT uU,J a4 uV uW,J a5 uX uY,J a6 uZ vc⟩:Nx).cs=[Y nm,Y ct,J a2 uR uS,J a3 uT uU,J a4 uV uW,J a5 uX uY,U O 0,U O 0,U O 0,U O 0,U O 1000,J a6 uZ vc]:=by rw[<- Nf.out.1,<- Nf.out.2];rfl
     rw[cf];exact hown
    .rcases List.mem_append.1 hx with h1|h1
     .exact⟨((HOO.out x h1).1.below VH).grown fN hrb,(HOO.out x h1).2⟩
     .rw[I8] at h1
      subst h1;exact⟨(nX.out.1.below VH).grown fN hrb,nX.out.2⟩
   have Ef:Hid ((L++[(⟨lA z j,J a2 uR uS,J a3 uT uU,J a4 uV uW,J a5 uX uY,J a6 uZ vc⟩:Nx)]).map (·.n)=(Jx (j+1)).map (lA z)/\(L++[(⟨lA z j,J a2 uR uS,J a3 uT uU,J a4 uV uW,J a5 uX uY,J a6 uZ vc⟩:Nx)]).length=j+1):=⟨by rw[O3,HL.out.1,List.range_succ,O3];rfl,by rw[Ig,HL.out.2];rfl⟩;have hlw:=(BY.1 PN.out).1;have HBF:Hid (Below w.heap.size w w5/\w5.heap[w.heap.size]?=AI (By #[J be 0 0,J be 0 0] 27 (0,0))):=⟨(qN.out.trans (VH.mono qN.out.size)).grown fN (by simp;omega) (λb e=>by have:=HRL.out b e;omega),((fN.block _ (by simp;omega) (λe=>by have:=HRL.out _ e.symm;omega)).trans (VH.block _ hlw)).trans PN.out⟩;clear hown fN cH TM VH cR p0 p1 p2 p3 p4 p5 p6 p7 p8 p9 p10 p11 HOO nX PN qN fO cJ bu ba GS HRL HL HG HB hlw hbs;go_wp2_with fail;go_roundw
   case rel=>exact⟨j+1,_,AI ⟨gg,0,be⟩,cap,by omega,by go_num,rfl,Ef,HGR,HBF⟩
   case measure=>simp[intOf];omega
  .have hd:=decide_eq_false (by omega)
   have Ms:j=k+1:=by omega
   have hN:=HG.out.nsl;rw[HL.out.1,Ms] at hN;have HC:=RB.out wr _ HB.out.1 hN;rw[<- Ms] at HC;have HJK:Hid _:=Ms;clear HG HL hN RB qw Ms;go_wp2_with fail;refine(TQ.out wr).mono ?_;rintro e w' ⟨rfl,KC⟩;have LZ:=KC.symm;subst LZ;go_wp2_with fail;refine Oi HC ?_;rintro e w1 ⟨aB,a1,l1,c1,d1,m1,q1,rfl,Mf⟩;have ba:Hid _:=HB.out.1.trans (aB.mono HB.out.1.size);have da:=(aB.block _ (BY.1 HB.out.2).1).trans HB.out.2;have Ca:=(BY.1 HB.out.2).1;clear aB HC HB TQ;obtain⟨W2,bJ,aK,-,dS⟩:=bY w1 #[J a1 l1 c1,J d1 m1 q1] 27;have nW:=(aK.block _ (BY.1 da).1).trans da;obtain⟨W3,eu⟩:∃W3,W3=aC w.heap.size [J a1 l1 c1,J d1 m1 q1] 0 W2:=⟨_,rfl⟩;have jY:W3.heap[w.heap.size]?=AI (By #[J a1 l1 c1,J d1 m1 q1] 27 (0,0)):=by rw[eu];exact bA [J a1 l1 c1,J d1 m1 q1] [] [J be 0 0,J be 0 0] nW rfl
   have gZ:Hid (Below w.heap.size w W3/\fo W3 ⟨(Jx (k+1)).map (lA z),[]⟩ (J a1 l1 c1) (J d1 m1 q1)):=by
    refine⟨by rw[eu];exact aT (Ic _) _ _ (ba.out.trans (aK.mono ba.out.size)),by rw[<- HJK.out];exact((Mf.out.fi (w':=W2) (λq hq hl=>aK.block q hl)).fi (w':=W3) (λq hq _=>by rw[eu];exact aV (by omega) _ _ _)).is (λl hl=>by cases hl)⟩
   have x0:=ae dS 0;have x1:=ae dS 1;have g0:=ae nW 0;have g1:=ae nW 1;have f0:=aj nW 0;have f1:=aj nW 1;have q0:=ae jY 0;have q1':=ae jY 1;clear aK dS nW da jY Mf ba Ca;go_upto_region 11 with fail
   rw[<- bJ];clear bJ;go_wp2_with fail;simp only[aC,IC] at eu;rw[<- eu];clear eu x0 x1 g0 g1 f0 f1;exact bodyPost_ret (v:=Ik #[Ij #[J a1 l1 c1,J d1 m1 q1],Ia true]) (by simp[results,Tryz.results8,go_sem,q0,q1']) rfl ⟨gZ.out.1,_,_,_,_,_,_,rfl,gZ.out.2⟩
theorem Gk.below{w W:World}{a:Option Addr}{l:List Ev}(h:Gk w a l)(hb:Below w.heap.size w W):Gk W a l:=⟨h.ok,λk hk=>by
 obtain⟨G,off,e,hr⟩:=h.row k hk;exact⟨G,off,e,sd hr hb⟩⟩
def aaU(t:Nt):Prop:=t.ls=[]/\∀x∈t.ns,(∀m∈x.ms,m.name=x.name)/\x.sv=[]
theorem AF{t:Nt}(hr:dM t)(h:aaU t):uH t:=by
 obtain⟨_,_,z3,z4,_⟩:=Nt.aN hr.e;refine⟨λo ho x hx=>?_,λo _ l hl=>by rw[h.1] at hl;cases hl⟩;obtain⟨h1,h2⟩:=h.2 x hx;refine⟨λm hm e=>?_,λs hs=>by rw[h2] at hs;cases hs⟩;obtain⟨i,hi,rfl⟩:=IX hx;obtain⟨j,hj,rfl⟩:=IX ho;by_cases iS:i=j
 .subst iS;exact(wV (z3 _ hx)).ms m hm e
 .have:=Av z4 iS hi hj
  rw[RL.lJ bC hi,RL.lJ bC hj] at this;exact absurd ((h1 m hm).symm.trans e) this
theorem CN(a1 d1 a2 d2:Option Addr)(m1 c1 l1 q1 m2 c2 l2 q2:Nat)(w:World):Calls AS 16 #[Ij #[J a1 m1 c1,J d1 l1 q1],Ij #[J a2 m2 c2,J d2 l2 q2]] w λe w'=>e=AT (Ia true)/\Below w.heap.size w w':=by
 go_enter Tryz.func16,Tryz.ntmps16;go_wp2_with fail;go_ret;exact⟨rfl,((Ib _ _).alloc (Ic _) _).alloc (by simp) _⟩
theorem CO(nodes et:Int)(w:World)(hV:Rv w.heap.size w)(hn : -9223372036854775808<=nodes/\nodes<=9223372036854775807)(hc : -9223372036854775808<=et/\et<=9223372036854775807) :
 Calls AS 8 #[U O nodes,U O et] w λe w'=>Below w.heap.size w w'/\∃t a m c d l q,e=AT (Ik #[Ij #[J a m c,J d l q],Ia true])/\Hid (fo w' t (J a m c) (J d l q)/\dM t/\mD 0 t/\0<t.ns.length):=by
 have b1:=uJ nodes (show(0:Int)<6 by omega);have b2:=uJ et (show(0:Int)<2 by omega);have e1:=Int.toNat_of_nonneg b1.1;have e2:=Int.toNat_of_nonneg b2.1;refine(CM nodes et (AE nodes 6).toNat (AE et 2).toNat (by omega) (by omega) w hV (λW=>?_) (λW=>?_)).mono ?_
 .rw[e1];exact nV nodes 6 W (by omega) (by omega) hn.1 hn.2
 .rw[e2];exact nV et 2 W (by omega) (by omega) hc.1 hc.2
 .rintro e w' ⟨hb,a,m,c,d,l,q,rfl,HN⟩
  have hr:dM ⟨(Jx ((AE nodes 6).toNat+1)).map (lA (AE et 2).toNat),[]⟩:=⟨RD _ _ (by omega) (by omega),λl hl=>by cases hl⟩;have one:∀x∈(Jx ((AE nodes 6).toNat+1)).map (lA (AE et 2).toNat),(∀m∈x.ms,m.name=x.name/\m.aJ=1)/\x.sv=[]:=λx hx=>by
   obtain⟨i,_,rfl⟩:=List.mem_map.1 hx;exact⟨λm hm=>by rw[I8.1 hm];exact⟨rfl,rfl⟩,rfl⟩
  refine⟨hb,_,_,_,_,_,_,_,rfl,HN.out,hr,⟨AF hr ⟨rfl,λx hx=>⟨λm hm=>((one x hx).1 m hm).1,(one x hx).2⟩⟩,λx hx m hm=>?_,λl hl=>(by cases hl),λo ho m hm _=>?_⟩,by simp⟩
  .rw[((one x hx).1 m hm).1];exact OI hx
  .rw[((one o ho).1 m hm).2];decide
theorem Gp{q:Nat}{t x:Nt}{i k:Nat}(hr:dM t)(gR:∀n∈t.ns,iw n)(h:mD q t)(hq:q<=40)(hi:i<t.ns.length)(hk:k<t.ns.length)(h20:t.ls.length<20)(hx:Tld t i k x){l:List Mem}{rest:List bE}(hl:fj (t.ns.getD i bC) l rest) :
 vK t x/\x.ls.length=t.ls.length+1/\∃p tx,x.ls.getD t.ls.length Lt.dm=⟨((k:Nat):Int),tx⟩/\uO tx.data.toList=AI p/\ou (x.ns.getD k bC) p=0/\∀m∈l,∃y,cv (og (x.ns.getD k bC) p).ms m.name=AI y/\eb m y=false:=by
 obtain⟨l',oy,ht,rfl⟩:=hx;have hn:LH t ⟨t.ns.set i { t.ns.getD i bC with rs:=oy },t.ls++[⟨((k:Nat):Int),(kx (t.ns.getD i bC).name l').T⟩]⟩:=.inr (.inl ⟨i,k,l',oy,hi,hk,h20,ht,rfl⟩);have hg:=uG hr gR hn;obtain⟨z1,_,z3,_,_⟩:=Nt.aN hr.e;have he:=z3 _ (aF hi bC);have hp:=(nT he ht).2;have hkx:k<(t.ns.set i { t.ns.getD i bC with rs:=oy }).length:=by rw[List.length_set];exact hk
 have hke:=(Nt.aN hg.right.e).2.2.1 _ (aF hkx bC);have tQ:((t.ns.set i { t.ns.getD i bC with rs:=oy }).getD k bC).ms=(t.ns.getD k bC).ms/\((t.ns.set i { t.ns.getD i bC with rs:=oy }).getD k bC).name=(t.ns.getD k bC).name:=by
  rw[nz _ _ _ _ _ hi];split
  .rename_i e;rw[e];exact⟨rfl,rfl⟩
  .exact⟨rfl,rfl⟩
 have Ap:=tV hp;have mI:∀m∈l',m.name∈t.ns.map (·.name):=λm hm=>by
  obtain⟨told,xK,Ap,_⟩:=ht;have h1:=Ap.mem_iff.1 hm;rcases xK with⟨_,rfl,_⟩|⟨_,ord,ho,rfl,_⟩
  .cases h1
  .obtain⟨r,hr,rfl⟩:=jP ho h1
   obtain⟨y,hy,e⟩:=rG he hr;rw[<- e];exact h.ns _ (aF hi bC) y hy
 have hT:=wX he ht (h.yS.ns _ (aF hk bC) _ (aF hi bC));have agG:=z3 _ (aF hk bC);have hown:(eF (t.ns.getD k bC).ms (t.ns.getD k bC).name).aJ<=1+20*(q:Int):=by
  obtain⟨me,Dy,_⟩:=Nd.iW (Nd.aN agG).2;have h1:=iV (t:=(t.ns.getD k bC).name) (by rw[Dy];rfl);exact h.own _ (aF hk bC) _ h1.1 h1.2
 refine⟨hg,by simp,kx (t.ns.getD i bC).name l',(kx (t.ns.getD i bC).name l').T,by simp[Ip],nU hp,?_⟩;show ou ((t.ns.set i { t.ns.getD i bC with rs:=oy }).getD k bC) _=0/\∀m∈l,∃y,cv (og ((t.ns.set i { t.ns.getD i bC with rs:=oy }).getD k bC) _).ms m.name=AI y/\eb m y=false;generalize(t.ns.set i { t.ns.getD i bC with rs:=oy }).getD k bC=n' at *;have TR:=Nd.parts (Nd.aN hke).1;have hs:oe n' l'=0:=by
  refine DV (S:=t.ns.map (·.name)) (by rw[JJ];exact z1) l' n' (1+20*(q:Int)) ⟨hke,by rw[tQ.2];exact OI (aF hk bC),λm hm=>by rw[tQ.1] at hm;exact h.ns _ (aF hk bC) m hm,λm hm e=>by rw[tQ.1] at hm;rw[tQ.2] at e;exact h.own _ (aF hk bC) m hm e⟩ (λm hm=>⟨Ap.1 m hm,mI m hm,λe=>?_⟩) ?_
  .rw[tQ.2] at e
   exact Int.le_trans (hT.ms m hm e) hown
  .have:l'.length<=20:=Ap.2.1
   omega
 have Gy:Sv.aE n'.sv []=0:=by
  have hc:Sv.aP n'.sv []=0:=by unfold Sv.aP;rw[if_pos TR.sv];rfl
  unfold Sv.aE;rw[if_pos hc,if_neg (by have:=(Sv.af TR.sv).1;show ¬ _<n'.sv.length;omega)]
 have vh:Gw.aE n'.gw []=0:=by
  have hc:Gw.aP n'.gw []=0:=by unfold Gw.aP;rw[if_pos TR.gw];rfl
  unfold Gw.aE;rw[if_pos hc,if_neg (by have:=(Gw.af TR.gw).1;show ¬ _<n'.gw.length;omega)]
 refine⟨?_,λm hm=>Ae l' n' ⟨TR.ms,TR.rs,TR.name⟩ Ap.1 hs m (LS hl ht m hm)⟩;unfold ou;rw[if_pos hp,if_pos (show oe n' (kx (t.ns.getD i bC).name l').ms=0 from hs),if_pos (show Sv.aE n'.sv (kx (t.ns.getD i bC).name l').sv=0 from Gy)];exact vh
theorem L0{w:World}{n:Nd}{A:Array Value}(h:gD w n A)(he:n.e=0):Calls AS 18 #[Ij A] w λe w'=>Below w.heap.size w w'/\∃B a k c l rest,e=AT (Ik #[Ij B,Ij #[Y n.name,Ia false,J a k c,J be 0 0,J be 0 0,J be 0 0],U O 0])/\Hid (gD w' { n with rs:=rest } B/\fj n l rest/\Sl w' (J a k c) l):=by
 obtain⟨vm,vr,vs,vg,vw,rfl,hI⟩:=h;have hT:=uA n vm vr vs vg vw w hI;rw[he] at hT;refine Oi hT ?_;rintro e w' ⟨hb,⟨h,_⟩|⟨_,n',um,ur,us,ug,uw,a,k,c,l,rfl,hn',hTI,hO,gR,hOw⟩⟩
 .exact absurd rfl h
 .refine⟨hb,_,a,k,c,l,n'.rs,rfl,by rw[<- hn'];exact⟨um,ur,us,ug,uw,rfl,hO.is gR⟩,hTI,hOw.sl (cy λm hm=>?_)⟩
  obtain⟨told,xK,Ap,_⟩:=hTI;have h1:=Ap.mem_iff.1 hm;rcases xK with⟨_,rfl,_⟩|⟨_,ord,ho,rfl,_⟩
  .cases h1
  .obtain⟨r,hr,rfl⟩:=jP ho h1
   exact hI.ok.rs r hr
theorem sf(nodes et:Int)(l:List Ev)(la:Option Addr)(lc:Nat)(fr tt:Int)(w:World)(hV:Rv w.heap.size w)(hn : -9223372036854775808<=nodes/\nodes<=9223372036854775807)(hc : -9223372036854775808<=et/\et<=9223372036854775807)(hl:Gk w la l)(KV:l.length<=Il)(hf : -9223372036854775808<=fr/\fr<=9223372036854775807)(ht : -9223372036854775808<=tt/\tt<=9223372036854775807) :
 Calls AS 5 #[U O nodes,U O et,J la l.length lc,U O fr,U O tt] w λe w'=>e=AT (Ia true)/\Below w.heap.size w w':=by
 have HV:Hid _:=hV;have Mk:Hid (∀W,Below w.heap.size w W->Calls _ _ _ _ _):=λW hW=>vL W (hV.after hW);have HOB:Hid (∀W,Calls _ _ _ _ _):=λW=>vI W;have GB:Hid (∀W,Below w.heap.size w W->Calls _ _ _ _ _):=λW hW=>CO nodes et W (hV.after hW) hn hc;have HRU:Hid (∀W u t a m c d k q,Below w.heap.size w W->Below u.heap.size u W->fo u t (J a m c) (J d k q)->dM t/\mD 0 t/\0<t.ns.length->Calls AS 9 #[Ij #[J a m c,J d k q],J la l.length lc,.func (.func 16) #[] #[]] W λe w'=>Below W.heap.size W w'/\∃t a k c b m d,e=AT (Ik #[Ij #[J a k c,J b m d],Ia true])/\Hid ((fo u t (J a k c) (J b m d)\/fa (W.heap.size+2) w' t (J a k c) (J b m d))/\dM t/\(∃i,i<=40/\mD i t)/\0<t.ns.length)):=λW u t a m c d k q hW hu h1 h2=>by
  refine(Pm 16 (enters_of Tryz.func16 (by kernel_rfl) rfl) l la lc t _ _ W (hV.after hW) (hl.below hW) u hu h1 mD ⟨h2.1,h2.2.1⟩ (λ_ _ h=>h.more) (λ_ _ _ a b c d=>Gh a b c d) KV (λW2 t t' a1 n1 c1 d1 l1 q1 a2 n2 c2 d2 l2 q2 _ _ _ _ _=>CN a1 d1 a2 d2 n1 c1 l1 q1 n2 c2 l2 q2 W2)).mono ?_;rintro e w' ⟨hb,t2,a2,k2,c2,b2,m2,d2,rfl,HN⟩;exact⟨hb,t2,_,_,_,_,_,_,rfl,HN.out.1,HN.out.2.1.1,HN.out.2.1.2,by rw[HN.out.2.2];exact h2.2.2⟩
 have TQ:Hid (∀(W:World) (n:Nat),0<n->n<=6->(Calls AS 17 #[U O fr,U O n] W λe w'=>e=AT (U O (AE fr n))/\Below W.heap.size W w')/\(Calls AS 17 #[U O tt,U O n] W λe w'=>e=AT (U O (AE tt n))/\Below W.heap.size W w')):=λW n h0 h6=>by
  refine⟨(nV fr n W (by omega) (by omega) hf.1 hf.2).mono ?_,(nV tt n W (by omega) (by omega) ht.1 ht.2).mono ?_⟩
  .rintro e w' ⟨rfl,rfl⟩;exact⟨rfl,Ib _ _⟩
  .rintro e w' ⟨rfl,rfl⟩;exact⟨rfl,Ib _ _⟩
 clear hV hn hc hl KV hf ht;generalize l.length=ll at *;go_enter Tryz.func5,Tryz.ntmps5;go_wp2_with fail;refine(Mk.out w (Ib _ _)).mono ?_;rintro e w1 ⟨rfl,aB⟩;have ba:Hid _:=aB;clear aB Mk;go_wp2_with fail;refine(HOB.out w1).mono ?_;rintro e w2 ⟨rfl,aK⟩;have bu:Hid _:=ba.out.trans (aK.mono ba.out.size);clear aK HOB ba;go_wp2_with fail;refine(GB.out w2 bu.out).mono ?_;rintro e w3 ⟨bX,t0,a,m,c,d,k,q,rfl,HN⟩;have cJ:Hid _:=bu.out.trans (bX.mono bu.out.size);obtain⟨W4,nZ⟩:∃W4,W4=w3.alloc (By #[J a m c,J d k q] 27):=⟨_,rfl⟩;have eU:Below w3.heap.size w3 W4:=by rw[nZ];exact(Ib _ _).alloc (Ic _) _
 have fO:Hid _:=cJ.out.trans (eU.mono cJ.out.size);have GX:W4.heap[w3.heap.size]?=AI (By #[J a m c,J d k q] 27 (0,0)):=by rw[nZ];exact Ih w3 _
 have AZ:W4.heap.size=w3.heap.size+1:=by rw[nZ];simp
 have x0:=ae GX 0;have x1:=ae GX 1;have HC:=HRU.out W4 w3 t0 a m c d k q fO.out eU HN.out.1 HN.out.2;have Df:Hid _:=GX;have GP:Hid _:=AZ;have TS:Hid _:=eU;clear bX eU GX AZ GB bu HN HRU;go_upto_region 4 with fail
 rw[<- nZ];clear nZ;go_wp2_with fail;refine HC.mono ?_;rintro e w5 ⟨jD,t,a5,n5,c5,b5,m5,d5,rfl,Cp⟩;clear HC x0 x1;have kX:=(jD.block _ (BY.1 Df.out).1).trans Df.out;have g0:=ae kX 0;have g1:=ae kX 1;have f0:=aj kX 0;have f1:=aj kX 1;obtain⟨W6,qu⟩:∃W6,W6=aC w3.heap.size [J a5 n5 c5,J b5 m5 d5] 0 w5:=⟨_,rfl⟩;have RC:W6.heap[w3.heap.size]?=AI (By #[J a5 n5 c5,J b5 m5 d5] 27 (0,0)):=by rw[qu];exact bA [J a5 n5 c5,J b5 m5 d5] [] [J a m c,J d k q] kX rfl
 have TT:Below w3.heap.size w3 W6:=by rw[qu];exact aT (Ic _) _ _ (TS.out.trans (jD.mono TS.out.size))
 have LW:Hid (fo W6 t (J a5 n5 c5) (J b5 m5 d5)/\dM t/\(∃i,i<=40/\mD i t)/\0<t.ns.length):=by
  obtain⟨h1,h2⟩:=Cp.out;refine⟨?_,h2⟩;rcases h1 with h1|h1
  .exact h1.below TT
  .exact nB (h1.fi (λb hb _=>by rw[qu];exact aV (by have:=GP.out;omega) _ _ _)) h2.1
 have pD:Hid (Below w.heap.size w W6):=cJ.out.trans (TT.mono cJ.out.size);clear jD kX TT Cp Df GP TS fO cJ;go_upto_region 7 with fail
 simp only[aC,IC] at qu;rw[<- qu];clear qu g0 g1 f0 f1;generalize w3.heap.size=gn at *;have oD:n5=t.ns.length:=LW.out.1.ns.len;have Bg:m5=t.ls.length:=by
  obtain⟨_,⟨pl,cl,kB,_⟩⟩:=LW.out.1;simp only[Value.slice.injEq] at kB;exact kB.2.1
 have xZ:n5<=6:=by rw[oD];exact(Nt.aN LW.out.2.1.e).1
 have uN:0<n5:=by rw[oD];exact LW.out.2.2.2
 have anP:m5<=20:=by rw[Bg];exact(Nt.aN LW.out.2.1.e).2.1
 have iu:Hid _:=oD;have TU:Hid _:=Bg;clear oD Bg;have x0:=ae RC 0;have x1:=ae RC 1;have hd0:((n5:Int)==0)=false:=by simp;omega
 by_cases h20:m5<20
 .have hd1:decide ((20:Int)<=(m5:Int))=false:=decide_eq_false (by omega)
  have MF:Hid _:=RC;go_upto_region 9 with fail
  have bi:=uJ fr (n:=(n5:Int)) (by omega);have bk:=uJ tt (n:=(n5:Int)) (by omega);obtain⟨i,hi⟩:∃i:Nat,AE fr (n5:Int)=(i:Int):=⟨(AE fr n5).toNat,by omega⟩;obtain⟨k,hk⟩:∃k:Nat,AE tt (n5:Int)=(k:Int):=⟨(AE tt n5).toNat,by omega⟩;have C0:∀d os,Calls AS 17 #[U O fr,U O (n5:Int)] (Im (Iz W6 d) os) λe fT=>e=AT (U O (i:Int))/\∃p:JT,fT=Im (Iz W6 p.d) p.os:=λd os=>IZ (by have:=(TQ.out (Im (Iz W6 d) os) n5 uN xZ).1;rw[hi] at this;exact this);have C1:∀d os,Calls AS 17 #[U O tt,U O (n5:Int)] (Im (Iz W6 d) os) λe fT=>e=AT (U O (k:Int))/\∃p:JT,fT=Im (Iz W6 p.d) p.os:=λd os=>IZ (by have:=(TQ.out (Im (Iz W6 d) os) n5 uN xZ).2;rw[hk] at this;exact this);have X0:=Iq x0;refine IG (by kernel_rfl) (by kernel_rfl) ?_;repeat(quiet_step (first|(with_reducible exact C0 _ _)|(with_reducible exact C1 _ _)))
  refine bM λdq jL ee=>?_;have mI:i<n5:=by omega
  have eV:k<n5:=by omega
  clear C0 C1 X0 x0 x1 RC hi hk bi bk TQ;have yN:Hid _:=pD.out.trans (ee.out.mono pD.out.size);have hk7:=(ee.out.block _ (BY.1 MF.out).1).trans MF.out;have VG:Hid (fo _ t (J a5 n5 c5) (J b5 m5 d5)):=LW.out.1.below ee.out;have Mq:Hid _:=LW.out.2;clear ee LW pD MF;generalize Im (Iz W6 dq) jL=W7 at *;have fV:(i:Int)<(n5:Int):=by omega
  have cH:=VG.out.ns.at2.2;obtain⟨b0,o0,e0,HA0⟩:=cH uN;subst e0;obtain⟨A,hA,hC⟩:=HA0 i mI;clear cH HA0;have NZ:Hid (Calls AS 18 _ _ _):=L0 hA ((Nt.aN Mq.out.1.e).2.2.1 _ (aF (by have:=iu.out;omega) bC));obtain⟨Tp,t1a,p2a,k2a,c2a,p3a,k3a,c3a,p4a,k4a,c4a,p5a,k5a,c5a,i6a,i7a,i8a,i9a,N3,N4,N5,N6,rfl⟩:=hA.letters;have cZ:(t.ns.getD i bC).name=Tp:=by
   obtain⟨_,_,_,_,_,e,_⟩:=hA;have:=congrArg (λa:Array Value=>a[0]?) e;simpa[Mu,dv] using this.symm
  simp only[Mu] at hC NZ;rw[cZ] at NZ;have xa0:W7.cell? ⟨b0,o0+i*12,be⟩=AI (Y Tp):=hC W7 (Ib _ _) 0 (by omega);have xa1:W7.cell? ⟨b0,o0+i*12+1,be⟩=AI (Y t1a):=hC W7 (Ib _ _) 1 (by omega);have xa2:W7.cell? ⟨b0,o0+i*12+2,be⟩=AI (J p2a k2a c2a):=hC W7 (Ib _ _) 2 (by omega);have xa3:W7.cell? ⟨b0,o0+i*12+3,be⟩=AI (J p3a k3a c3a):=hC W7 (Ib _ _) 3 (by omega);have xa4:W7.cell? ⟨b0,o0+i*12+4,be⟩=AI (J p4a k4a c4a):=hC W7 (Ib _ _) 4 (by omega);have xa5:W7.cell? ⟨b0,o0+i*12+5,be⟩=AI (J p5a k5a c5a):=hC W7 (Ib _ _) 5 (by omega);have xa6:W7.cell? ⟨b0,o0+i*12+6,be⟩=AI (U O i6a):=hC W7 (Ib _ _) 6 (by omega);have xa7:W7.cell? ⟨b0,o0+i*12+7,be⟩=AI (U O i7a):=hC W7 (Ib _ _) 7 (by omega);have xa8:W7.cell? ⟨b0,o0+i*12+8,be⟩=AI (U O i8a):=hC W7 (Ib _ _) 8 (by omega);have xa9:W7.cell? ⟨b0,o0+i*12+9,be⟩=AI (U O i9a):=hC W7 (Ib _ _) 9 (by omega);have agH:W7.cell? ⟨b0,o0+i*12+10,be⟩=AI (U O N3):=hC W7 (Ib _ _) 10 (by omega);have agI:W7.cell? ⟨b0,o0+i*12+11,be⟩=AI (J N4 N5 N6):=hC W7 (Ib _ _) 11 (by omega);have x0:=ae hk7 0;clear hC hA cZ;go_wp2_with fail;refine NZ.out.mono ?_;rintro e w8 ⟨My,B,ap,kp,cp,pl,rest,rfl,HT8⟩;clear x0 NZ xa0 xa1 xa2 xa3 xa4 xa5 xa6 xa7 xa8 xa9 agH agI;obtain⟨t0b,t1b,p2b,k2b,c2b,p3b,k3b,c3b,p4b,k4b,c4b,p5b,k5b,c5b,i6b,i7b,i8b,i9b,N7,N8,N9,Pa,rfl⟩:=HT8.out.1.letters;simp only[Mu];obtain⟨W9,Rk,uM,Tk,agJ,aaV⟩:=BB w8 #[Y t0b,Y t1b,J p2b k2b c2b,J p3b k3b c3b,J p4b k4b c4b,J p5b k5b c5b,U O i6b,U O i7b,U O i8b,U O i9b,U O N7,J N8 N9 Pa] #[Y Tp,Ia false,J ap kp cp,J be 0 0,J be 0 0,J be 0 0] 42 53;have Mi:Hid _:=(yN.out.trans (My.mono yN.out.size)).trans (uM.mono (Nat.le_trans yN.out.size My.size));have TV:=My.trans (uM.mono My.size);have Vw:=(TV.block _ (BY.1 hk7).1).trans hk7;have Po:Hid (fo W9 t (J (AI ⟨b0,o0,be⟩) n5 c5) (J b5 m5 d5)):=VG.out.below TV;have HT9:Hid (fj (t.ns.getD i bC) pl rest/\Sl W9 (J ap kp cp) pl):=⟨HT8.out.2.1,HT8.out.2.2.below uM⟩;have PS:Hid _:=aaV;have TW:Hid _:=Vw;have rK:Hid (Calls AS 19 #[Ij #[J (AI ⟨b0,o0,be⟩) n5 c5,J b5 m5 d5],Ij #[U O 1,U O (i:Int),U O (k:Int),U O 0,Y ⟨#[]⟩,U O 0,U O 0,U O 0,U O 0,U O 0,Y ⟨#[]⟩,Y ⟨#[]⟩,Y ⟨#[]⟩,Y ⟨#[]⟩,U O 0,U O 0,Ia false,U O 0,Ia false]] W9 (nv W9 False (Tld t i k))):=Gl t _ _ ⟨1,i,k,0,⟨#[]⟩,⟨0,0,0,0,0⟩,⟨⟨#[]⟩,⟨#[]⟩,⟨#[]⟩,⟨#[]⟩,0,0,false,0,false⟩⟩ W9 i k (HV.out.after Mi.out) Po.out Mq.out.1 rfl rfl (by have:=iu.out;omega) rfl (by have:=iu.out;omega) (by have:=TU.out;omega);clear My uM Tk agJ aaV TV hk7 VG yN HT8;go_upto_region 11 with fail
  rw[<- Rk];clear Rk;have x0:=ae Vw 0;have x1:=ae Vw 1;clear Vw;generalize w8.heap.size=gp at *;go_wp2_with fail;refine rK.out.mono ?_;rintro e w10 ⟨FR,⟨er,_,hF,_⟩|⟨t1,a1,n1,c1,b1,m1,d1,hT1,rfl,hN1⟩⟩
  .exact hF.elim
  clear x0 x1 rK;obtain⟨q40,aaW,aaX⟩:=Mq.out.2.1;have tZ:=Gp Mq.out.1 Po.out.ns.ok aaX aaW (by have:=iu.out;omega) (by have:=iu.out;omega) (by have:=TU.out;omega) hT1 HT9.out.1;obtain⟨yJ,agK,pk,tx,MA,An,hhr,aaY⟩:=tZ;have zp:Hid (pl.length<=5):=by
   obtain⟨told,xK,Ap,_⟩:=HT9.out.1;have:=pc xK;rw[<- Ap.length_eq] at this;exact this
  have L1:=nB hN1 yJ.right;have Vg:n1=n5:=by
   have h1:=L1.ns.len;have h2:=yJ.len;have h3:=iu.out;omega
  have oP:m1=m5+1:=by
   obtain⟨_,⟨pl2,cl2,kB,_⟩⟩:=L1;simp only[Value.slice.injEq] at kB;have h3:=TU.out;omega
  subst Vg oP;obtain⟨W11,Pv⟩:∃W11,W11=w10.alloc (By #[J a1 n1 c1,J b1 (m5+1) d1] 27):=⟨_,rfl⟩;have FT:Below w10.heap.size w10 W11:=by rw[Pv];exact(Ib _ _).alloc (Ic _) _
  have TX:W11.heap[w10.heap.size]?=AI (By #[J a1 n1 c1,J b1 (m5+1) d1] 27 (0,0)):=by rw[Pv];exact Ih w10 _
  have AG:Below W9.heap.size W9 W11:=FR.trans (FT.mono FR.size);have Cz:Hid _:=Mi.out.trans (AG.mono Mi.out.size);have aaZ:Hid (fo W11 t1 (J a1 n1 c1) (J b1 (m5+1) d1)):=L1.below FT;have aa0:Hid (Calls AS 19 #[Ij #[J a1 n1 c1,J b1 (m5+1) d1],Ij #[U O 3,U O (m5:Int),U O 0,U O 0,Y ⟨#[]⟩,U O 0,U O 0,U O 0,U O 0,U O 0,Y ⟨#[]⟩,Y ⟨#[]⟩,Y ⟨#[]⟩,Y ⟨#[]⟩,U O 0,U O 0,Ia false,U O 0,Ia false]] W11 (qG W11 ⟨t1.ns.set k (og (t1.ns.getD k bC) pk),t1.ls.eraseIdx m5⟩)):=wY t1 _ _ ⟨3,m5,0,0,⟨#[]⟩,⟨0,0,0,0,0⟩,⟨⟨#[]⟩,⟨#[]⟩,⟨#[]⟩,⟨#[]⟩,0,0,false,0,false⟩⟩ W11 m5 k pk (HV.out.after Cz.out) aaZ.out yJ.right rfl rfl (by have:=TU.out;omega) tx (by rw[TU.out];exact MA) (by have:=yJ.len;have:=iu.out;omega) An hhr;have dS:vK t1 ⟨t1.ns.set k (og (t1.ns.getD k bC) pk),t1.ls.eraseIdx m5⟩:=uG yJ.right L1.ns.ok (.inr (.inr (.inr (.inl ⟨m5,k,pk,by have:=TU.out;omega,by have:=yJ.len;have:=iu.out;omega,by rw[TU.out,MA];exact An,hhr,rfl⟩))));have jn:k<t1.ns.length:=by have:=yJ.len;have:=iu.out;omega
  have rj:(t1.ns.set k (og (t1.ns.getD k bC) pk)).getD k bC=og (t1.ns.getD k bC) pk:=by rw[nz _ _ _ _ _ jn,if_pos rfl]
  have sg:Hid _:=dS;have HKK:Hid _:=rj;have lD:Hid _:=aaY;have HGL:Hid _:=yJ.len;have TY:Hid _:=(AG.block _ (BY.1 PS.out).1).trans PS.out;have aa1:=(AG.block _ (BY.1 TW.out).1).trans TW.out;have aa2:Hid (Sl W11 (J ap kp cp) pl):=HT9.out.2.below AG;have L2:Hid _:=aa1;clear FR FT AG yJ agK MA An hhr aaY L1 hN1 hT1 aaX aaW dS rj jn aa1 PS TW HT9 Po Mi Mq aaZ;generalize t1.ns.set k (og (t1.ns.getD k bC) pk)=ns2 at *;generalize og (t1.ns.getD k bC) pk=nk at *;generalize t1.ls.eraseIdx m5=ls2 at *;go_upto_region 12 with fail
  rw[<- Pv];clear Pv;have x0:=ae TX 0;have x1:=ae TX 1;clear TX;generalize w10.heap.size=gx at *;have hwr:IntKind.i64.wrap ((m5:Int)+1-1)=(m5:Int):=by rw[IW];omega
  have agN:IntKind.i64.wrap (((m5+1:Nat):Int)-1)=(m5:Int):=by rw[IW];omega
  go_wp2_with fail;refine aa0.out.mono ?_;rintro e w12 ⟨FU,a2,n2,c2,b2,m2,d2,rfl,P1⟩;clear x0 x1 aa0 hwr agN;have TZ:=nB P1 sg.out.right;have SL:n2=n1:=by
   have h1:=TZ.ns.len;have h2:=sg.out.len;have h3:=HGL.out;have h4:=iu.out;simp only at h1 h2;omega
  subst SL;obtain⟨W13,Pw⟩:∃W13,W13=w12.alloc (By #[J a2 n2 c2,J b2 m2 d2] 27):=⟨_,rfl⟩;have T0:Below w12.heap.size w12 W13:=by rw[Pw];exact(Ib _ _).alloc (Ic _) _
  have T1:W13.heap[w12.heap.size]?=AI (By #[J a2 n2 c2,J b2 m2 d2] 27 (0,0)):=by rw[Pw];exact Ih w12 _
  have AH:Below W11.heap.size W11 W13:=FU.trans (T0.mono FU.size);have aa3:Hid (Below w.heap.size w W13):=Cz.out.trans (AH.mono Cz.out.size);have T2:Hid (W13.heap[gp+1]?=AI (By #[Y Tp,Ia false,J ap kp cp,J be 0 0,J be 0 0,J be 0 0] 53 (0,0))):=(AH.block _ (BY.1 TY.out).1).trans TY.out;have Lo:Hid (W13.heap[w12.heap.size]?=AI (By #[J a2 n2 c2,J b2 m2 d2] 27 (0,0))):=T1;have aa4:=(AH.block _ (BY.1 L2.out).1).trans L2.out;have RE:Sl W13 (J ap kp cp) pl:=aa2.out.below AH;have hNS:=(TZ.below T0).ns;obtain⟨b3,o3,e3,Rn⟩:=hNS.at2.2 uN;subst e3;obtain⟨C,Ty,hCC⟩:=Rn k eV;clear Rn;have T3:ns2.getD k bC=nk:=HKK.out;have hNe:nk.e=0:=by
   rw[<- T3];exact(Nt.aN sg.out.right.e).2.2.1 _ (aF (by have h2:=sg.out.len;have h3:=HGL.out;have h4:=iu.out;simp only at h2;show k<ns2.length;omega) bC)
  have hC4:gD W13 nk C:=by rw[<- T3];exact Ty
  clear Ty T3;obtain⟨XF,XG,Tq,Mw,Ro,XH,XI,XJ,XK,XL,XM,XN,XO,XP,XQ,XR,XS,XT,Lp,Lq,Lr,Lu,rfl⟩:=hC4.letters;simp only[Mu] at hC4 hCC;obtain⟨hsM,_,_⟩:=hC4.three;obtain⟨hlM,HRM⟩:=rowAt hsM;obtain⟨hlP,Xa⟩:=rowAt RE;have hyk:∀W,Below W13.heap.size W13 W->W.cell? ⟨b3,o3+k*12+2,be⟩=AI (J Tq Mw Ro):=λW hW=>hCC W hW 2 (by omega);have hkc:=(af (Nd.parts (Nd.aN hNe).1).ms).1;have qM:kp<=5:=by have:=zp.out;omega
  have HYK:Hid _:=hyk;have HQM:Hid (∀j,j<kp->∃q,q<Mw/\Hid (∀W,Below W13.heap.size W13 W->Calls AS 15 #[J Tq Mw Ro,Y (pl.getD j dm).name] W λe w'=>e=AT (U O (q:Int))/\Below W.heap.size W w')/\Hid (∀W,Calls AS 20 #[Ij #[Y (pl.getD j dm).name,U O (pl.getD j dm).state,U O (pl.getD j dm).aJ,U O (pl.getD j dm).addr,Ia (pl.getD j dm).server],Ij #[Y (nk.ms.getD q dm).name,U O (nk.ms.getD q dm).state,U O (nk.ms.getD q dm).aJ,U O (nk.ms.getD q dm).addr,Ia (nk.ms.getD q dm).server]] W λe w'=>e=AT (Ia false)/\Below W.heap.size W w')):=λj hj=>by
   obtain⟨y,hy,EE⟩:=lD.out _ (aF (show j<pl.length by omega) dm);obtain⟨q,hq,hqe,hM⟩:=LR (Nd.parts (Nd.aN hNe).1).ms hy;refine⟨q,by omega,λW hW=>hM W _ (hsM.below hW),λW=>?_⟩;rw[hqe];refine(sC _ _ _ _ _ _ _ _ _ _ W).mono ?_;rintro e w' ⟨rfl,rfl⟩;exact⟨by rw[<- EE];rfl,((Ib _ _).alloc (Ic _) _).alloc (by simp) _⟩
  have HRA:Hid _:=Xa;have GS:Hid _:=HRM;clear FU T0 AH TZ P1 hNS hCC hyk hC4 hsM hlM HRM hlP Xa RE hkc hNe TY L2 aa2 Cz sg HKK lD HGL;go_upto_region 13 with fail
  rw[<- Pw];clear Pw;have x0:=ae T1 0;have x1:=ae aa4 0;clear T1 aa4;generalize w12.heap.size=gy at *;have aQ:((n2:Int)!=(n2:Int))=false:=by simp
  go_upto_region 15 with fail
  clear x0 x1 aQ;go_wp2_with fail;go_loopw [22] (λi w'=>∃j:Nat,j<=kp/\i=U O j/\Hid (Below W13.heap.size W13 w')) (λi _=>kp-(intOf i).toNat)
  case atStart=>exact⟨0,IP _,rfl,Ib _ _⟩
  case round=>
   obtain⟨j,hj,rfl,Bt⟩:=hrel;have VY:=(Bt.out.block _ (BY.1 T2.out).1).trans T2.out;have a2:=ae VY 2;by_cases aX:j<kp
   .have hgy:=(Bt.out.block _ (BY.1 Lo.out).1).trans Lo.out
    have y0:=ae hgy 0;have z2:=HYK.out wr Bt.out;have hd:=decide_eq_true (p:=(j:Int)<(kp:Int)) (by omega);obtain⟨q,hq,gj,RB⟩:=HQM.out j aX;obtain⟨ga,oa,RW,kC,hja,hra⟩:=HRA.out (by omega);obtain⟨gb,ob,hpb,kA,VK,hrb⟩:=GS.out (by omega);subst RW hpb;obtain⟨c0,c1,c2',c3,c4⟩:=hra j (hja j aX);obtain⟨e0,e1,e2',e3,e4⟩:=hrb q (VK q hq);clear hra hrb hja VK VY hgy;generalize pl.getD j dm=x at *;generalize nk.ms.getD q dm=y at *;obtain⟨x0,x1,x2,x3,x4⟩:=x;obtain⟨yy0,yy1,yy2,yy3,yy4⟩:=y;simp only at gj RB c0 e0 c1 e1 c2' e2' c3 e3 c4 e4;have Pe:∀o,wr.cell? ⟨ga,o,be⟩=W13.cell? ⟨ga,o,be⟩:=λo=>Bt.out.cell (p:=⟨ga,o,be⟩) kC;have Nj:∀o,wr.cell? ⟨gb,o,be⟩=W13.cell? ⟨gb,o,be⟩:=λo=>Bt.out.cell (p:=⟨gb,o,be⟩) kA;have c0':=(Pe _).trans c0;have e0':=(Nj _).trans e0;have c1':=(Pe _).trans c1;have e1':=(Nj _).trans e1;have aa5:=(Pe _).trans c2';have aa6:=(Nj _).trans e2';have c3':=(Pe _).trans c3;have e3':=(Nj _).trans e3;have VV:=(Pe _).trans c4;have e4':=(Nj _).trans e4;clear Pe Nj c0 e0 c1 e1 c2' e2' c3 e3 c4 e4;have Md:(j:Int)<(kp:Int):=by omega
    have hqi:(q:Int)<(Mw:Int):=by omega
    have aoc:(k:Int)<(n2:Int):=by omega
    have hMA:∀d os,Calls AS 15 #[J (AI ⟨gb,ob,be⟩) Mw Ro,Y x0] (Im (Iz wr d) os) λe fT=>e=AT (U O (q:Int))/\∃p:JT,fT=Im (Iz wr p.d) p.os:=λd os=>IZ (gj.out _ (Bt.out.trans ((QU wr d os).mono Bt.out.size)));have A2:=Iq a2;have Y0:=Iq y0;have Z2:=Iq z2;have F0:=Iq c0';go_upto_region 18 with fail
    refine IG (by kernel_rfl) (by kernel_rfl) ?_;repeat(quiet_step (exact hMA _ _))
    refine bM λdq jL ee=>?_;have Px:Hid _:=Bt.out.trans (ee.out.mono Bt.out.size);clear hMA A2 Y0 Z2 F0;generalize Im (Iz wr dq) jL=W2 at *;have wD:∀g o v,g<W13.heap.size->wr.cell? ⟨g,o,be⟩=AI v->W2.cell? ⟨g,o,be⟩=AI v:=λg o v hg h=>(ee.out.cell (p:=⟨g,o,be⟩) (Nat.lt_of_lt_of_le hg Bt.out.size)).trans h;have lp:=(BY.1 T2.out).1;have lg:=(BY.1 Lo.out).1;have A2:=Iq (wD _ _ _ lp a2);have Y0:=Iq (wD _ _ _ lg y0);have Z2:=Iq (HYK.out W2 Px.out);have F0:=Iq (wD _ _ _ kC c0');have F1:=Iq (wD _ _ _ kC c1');have F2:=Iq (wD _ _ _ kC aa5);have F3:=Iq (wD _ _ _ kC c3');have F4:=Iq (wD _ _ _ kC VV);have G0:=Iq (wD _ _ _ kA e0');have G1:=Iq (wD _ _ _ kA e1');have G2:=Iq (wD _ _ _ kA aa6);have G3:=Iq (wD _ _ _ kA e3');have G4:=Iq (wD _ _ _ kA e4');clear wD a2 y0 z2 lp lg c0' e0' c1' e1' aa5 aa6 c3' e3' VV e4';have hd0:decide ((q:Int)<0)=false:=decide_eq_false (by omega);have hNW:∀d os,Calls AS 20 #[Ij #[Y x0,U O x1,U O x2,U O x3,Ia x4],Ij #[Y yy0,U O yy1,U O yy2,U O yy3,Ia yy4]] (Im (Iz W2 d) os) λe fT=>e=AT (Ia false)/\∃p:JT,fT=Im (Iz W2 p.d) p.os:=λd os=>IZ (RB.out _);go_upto_region 19 with fail
    refine IG (by kernel_rfl) (by kernel_rfl) ?_;repeat(quiet_step (exact hNW _ _))
    refine wpQuiet_nil ?_;intro _ KC;obtain⟨⟨dq,jL⟩,SI⟩:=KC;subst SI;have agU:Hid _:=Px.out.trans ((QU W2 dq jL).mono Px.out.size);clear hNW A2 Y0 Z2 F0 G0 F1 G1 F2 G2 F3 G3 F4 G4 ee Px;have HJ:Hid (j<kp):=aX;go_wp2_with fail;go_roundw
    case rel=>exact⟨j+1,by have:=HJ.out;omega,by go_num,agU⟩
    case measure=>simp[intOf];have:=HJ.out;omega
   .have hd:=decide_eq_false (p:=(j:Int)<(kp:Int)) (by omega)
    have qN:Hid (Below w.heap.size w wr):=aa3.out.trans (Bt.out.mono aa3.out.size);clear VY;go_wp2_with fail;go_ret;exact⟨rfl,qN.out⟩
 .have hd1:decide ((20:Int)<=(m5:Int))=true:=decide_eq_true (by omega)
  have hd2:decide ((0:Int)<(n5:Int))=true:=decide_eq_true (by omega);go_wp2_with fail;go_ret;exact⟨rfl,pD.out⟩
end Go.Proofs.YtfidhgjmifendaaGreatDoor
