import Derived.Test.YtbfghimjdlpicaaGreatDoorna20
set_option maxHeartbeats 6400000
set_option maxRecDepth 100000
open Go.Value renaming agg→Ik,string→Y,int→U,bool→Ia,slice→J
open Go.IntKind renaming i64→O
open Go.Ending renaming returned→AT
open Go.Proofs.Tryz renaming prog→AS,func44→Ul,ntmps44→QY
open Option renaming some→AI,none→be
open Go.Sort renaming grow→Ig
open Go renaming redrawn→Im,cell_regrown→Ih,wp_region_quiet_below→IA,maxLen→Io
namespace Go.Proofs.YtbfghimjdlpicaaGreatDoor
namespace Sv
open Go.RowKit
theorem Br(f:Nat)(hf:f=44)(a_node:ByteArray)(a_idn:ByteArray)(a_name:ByteArray)(a_tag:ByteArray)(a_addr:Int)(a_port:Int)(a_passing:Bool)(a_version:Int)(a_gone:Bool)(b_node:ByteArray)(b_idn:ByteArray)(b_name:ByteArray)(b_tag:ByteArray)(b_addr:Int)(b_port:Int)(b_passing:Bool)(b_version:Int)(b_gone:Bool)(w:World) :
 Calls AS f #[Ik #[Y a_node,Y a_idn,Y a_name,Y a_tag,U O a_addr,U O a_port,Ia a_passing,U O a_version,Ia a_gone],Ik #[Y b_node,Y b_idn,Y b_name,Y b_tag,U O b_addr,U O b_port,Ia b_passing,U O b_version,Ia b_gone]] w λe w'=>e=AT (Ia (bF ⟨a_node,a_idn,a_name,a_tag,a_addr,a_port,a_passing,a_version,a_gone⟩ ⟨b_node,b_idn,b_name,b_tag,b_addr,b_port,b_passing,b_version,b_gone⟩))/\Below w.heap.size w w':=by
 subst hf;have hB:Hid (Below w.heap.size w ((w.alloc (.cells #[Y a_node,Y a_idn,Y a_name,Y a_tag,U O a_addr,U O a_port,Ia a_passing,U O a_version,Ia a_gone] 38)).alloc (.cells #[Y b_node,Y b_idn,Y b_name,Y b_tag,U O b_addr,U O b_port,Ia b_passing,U O b_version,Ia b_gone] 38))):=((Below.refl _ _).alloc (Nat.le_refl _) _).alloc (by simp) _;by_cases h1:a_version=b_version
 .subst h1
  by_cases h2:a_gone=b_gone
  .subst h2
   by_cases h3:a_name=b_name
   .subst h3
    by_cases h4:a_tag=b_tag
    .subst h4
     by_cases h5:a_addr=b_addr
     .subst h5
      by_cases h6:a_port=b_port
      .subst h6
       cases a_passing
       all_goals
        go_enter Ul,QY;go_wp2;go_ret;exact⟨aW (by rw[eC];simp),hB.out⟩
      .have h6':(a_port !=b_port)=true:=by simpa using h6
       go_enter Ul,QY;go_wp2;go_ret;exact⟨aW (by rw[eC];simp[h6]),hB.out⟩
     .have h5':(a_addr !=b_addr)=true:=by simpa using h5
      go_enter Ul,QY;go_wp2;go_ret;exact⟨aW (by rw[eC];simp[h5]),hB.out⟩
    .obtain⟨g1,g2⟩:=fb h4
     have H4:Hid (¬ a_tag=b_tag):=h4;clear h4;go_enter Ul,QY;go_wp2;go_ret;exact⟨aW (by rw[eC];simp[H4.out,less];exact rP H4.out),hB.out⟩
   .obtain⟨g1,g2⟩:=fb h3
    have H3:Hid (¬ a_name=b_name):=h3;clear h3;go_enter Ul,QY;go_wp2;go_ret;exact⟨aW (by rw[eC];simp[H3.out,less];exact rP H3.out),hB.out⟩
  .have hg:b_gone = !a_gone:=by cases a_gone<;>cases b_gone<;>simp at h2 ⊢
   subst hg;clear h2;cases a_gone
   all_goals
    go_enter Ul,QY;go_wp2;go_ret;exact⟨aW (by rw[eC];simp),hB.out⟩
 .have Sm:(a_version !=b_version)=true:=by simpa using h1
  go_enter Ul,QY;go_wp2;go_ret;exact⟨aW (by rw[eC];simp[h1]),hB.out⟩
theorem Dt(a b:aV)(w:World) :
 Calls AS 44 #[Ik #[Y a.node,Y a.bf,Y a.name,Y a.tag,U O a.addr,U O a.port,Ia a.af,U O a.version,Ia a.gone],Ik #[Y b.node,Y b.bf,Y b.name,Y b.tag,U O b.addr,U O b.port,Ia b.af,U O b.version,Ia b.gone]] w λe w'=>e=AT (Ia (bF a b))/\Below w.heap.size w w':=
 Br _ rfl a.node a.bf a.name a.tag a.addr a.port a.af a.version a.gone b.node b.bf b.name b.tag b.addr b.port b.af b.version b.gone w
def AtI(ms:List aV)(node bf:ByteArray)(r:Int):Prop:=
 (∃k:Nat,k<ms.length/\r=k/\(ms.getD k dm).node=node/\(ms.getD k dm).bf=bf)\/(r = -1/\∀j,j<ms.length->¬ ((ms.getD j dm).node=node/\(ms.getD j dm).bf=bf))
theorem Hi(ms:List aV)(v:Value)(node bf:ByteArray)(w:World)(hv:Sl w v ms)(hn:ms.length<=1000000) :
 Calls AS 43 #[v,Y node,Y bf] w λe w'=>∃r:Int,e=AT (U O r)/\Hid (AtI ms node bf r)/\w'=w:=by
 obtain⟨pa,ca,rfl,_,ha⟩:=hv;have HA:Hid _:=ha;clear ha;generalize tu:ms.length=n at *;have HN:Hid _:=tu;clear tu;go_enter Tryz.func43,Tryz.ntmps43;go_wp2_with fail;go_loop [7] (λi=>∃k:Nat,k<=n/\i=U O k/\Hid (∀j,j<k->¬ ((ms.getD j dm).node=node/\(ms.getD j dm).bf=bf))) (λi=>n-(intOf i).toNat)
 case atStart=>exact⟨0,Nat.zero_le _,rfl,λj h=>absurd h (Nat.not_lt_zero _)⟩
 case round=>
  obtain⟨k,hk,rfl,hz⟩:=hrel;by_cases aX:k<n
  .obtain⟨b1,o1,ru,kb,ku⟩:∃b off,pa=AI ⟨b,off,be⟩/\b<w.heap.size/\Row w b off ms:=by
    rcases HA.out with h|h
    .have:=HN.out;rw[h] at this;simp at this;omega
    .exact h
   subst ru;obtain⟨c0,c1,c2,c3,c4,c5,c6,c7,c8⟩:=ku k (by rw[HN.out];exact aX);clear ku;have HF:Hid ((ms.getD k dm).node=node->(ms.getD k dm).bf=bf->AtI ms node bf (k:Int)):=λh h2=>.inl ⟨k,by rw[HN.out];exact aX,rfl,h,h2⟩;have HZ:Hid (¬ ((ms.getD k dm).node=node/\(ms.getD k dm).bf=bf)->∀j,j<k+1->¬ ((ms.getD j dm).node=node/\(ms.getD j dm).bf=bf)):=λh j hj=>by
    rcases Nat.lt_succ_iff_lt_or_eq.1 hj with h2|rfl
    .exact hz.out j h2
    .exact h
   generalize ms.getD k dm=m at *;obtain⟨mn,mi,m2,m3,m4,m5,m6,m7,m8⟩:=m;simp only at c0 c1;by_cases he:mn=node
   .subst he
    by_cases Vk:mi=bf
    .subst Vk
     have wJ:Hid (AtI _ _ _ _):=HF.out rfl rfl;clear HF HZ;go_wp2_with fail;go_ret;exact⟨k,rfl,wJ,rfl⟩
    .obtain⟨h1,h2⟩:=fb Vk
     have HE:Hid _:=Vk;clear Vk;go_wp2_with fail;go_round
     case rel=>exact⟨k+1,by omega,by go_num,HZ.out (λh=>HE.out h.2)⟩
     case measure=>simp[intOf];omega
   .obtain⟨h1,h2⟩:=fb he
    have HE:Hid _:=he;clear he;go_wp2_with fail;go_round
    case rel=>exact⟨k+1,by omega,by go_num,HZ.out (λh=>HE.out h.1)⟩
    case measure=>simp[intOf];omega
  .go_wp2_with fail
   go_ret;exact⟨-1,rfl,.inr ⟨rfl,λj hj=>hz.out j (by have:=HN.out;omega)⟩,rfl⟩
theorem vt{a b:aV}:ord a b=0↔a.node=b.node/\a.bf=b.bf:=by
 constructor
 .intro h
  obtain⟨h1,h2⟩:=RL.fF h;exact⟨(bL _ _).1 h1,(bL _ _).1 h2⟩
 .rintro⟨h1,h2⟩
  show(if bW a.node b.node=0 then bW a.bf b.bf else bW a.node b.node)=0;rw[if_pos ((bL _ _).2 h1)];exact(bL _ _).2 h2
theorem WS{ms:List aV}{t:aV}{r:Int}{p:Nat}{f:Bool}(hi:AtI ms t.node t.bf r)(ha:At ms t p f)(hr:aT ms):(f=true->r=p)/\(f=false->r = -1):=by
 rcases hi with⟨k,hk,rfl,hn⟩|⟨rfl,hn⟩
 .obtain⟨rfl,rfl⟩:=eZ ha (RL.EH ord dm keyed hr hk (vt.2 hn))
  exact⟨λ_=>rfl,λh=>by cases h⟩
 .refine⟨λh=>?_,λ_=>rfl⟩
  have:=ha.is.1 h;exact absurd (vt.1 this.2) (hn p this.1)
def atV(p:Nat)(f:Bool):Int:=if f=true then(p:Int) else -1
theorem WT(ms:List aV)(v:Value)(t:aV)(w:World)(hv:Sl w v ms)(hn:ms.length<=1000000)(hr:aT ms)(p:Nat)(f:Bool)(ha:At ms t p f) :
 Calls AS 43 #[v,Y t.node,Y t.bf] w λe w'=>e=AT (U O (atV p f))/\Below w.heap.size w w':=by
 refine(Hi ms v t.node t.bf w hv hn).mono ?_;rintro e w' ⟨r,rfl,hI,rfl⟩;have h:=WS hI.out ha hr;refine⟨?_,Below.refl _ _⟩;cases f
 .rw[h.2 rfl];rfl
 .rw[h.1 rfl];rfl
theorem vu{ms:List aV}{m:aV}{p:Nat}{f:Bool}(h:At ms m p f)(hn:f=true->bF m (ms.getD p dm)=true):RL.put ms m p f=aN ms m:=(RL.Mg ord bF dm h hn).symm
theorem Hj{ms:List aV}{m:aV}{p:Nat}(h:At ms m p true)(hn:bF m (ms.getD p dm)=false):aN ms m=ms:=by
 rw[dy ms m p true h,if_pos rfl,if_neg (by rw[hn];exact Bool.false_ne_true)]
theorem Bs(a b:List aV)(va vb:Value)(w:World)(ha:Sl w va a)(hb:Sl w vb b)(nc:a.length<=500)(lH:b.length<=100)(hr:aT a) :
 Calls AS 24 #[va,vb] w λe w'=>∃v',e=AT v'/\Hid (Sl w' v' (aB a b))/\Below w.heap.size w w':=by
 obtain⟨pv,cb,rfl,Rc,hb⟩:=hb;have HA:Hid (Sl w va a):=ha;have HB:Hid _:=hb;have NA:Hid (∀m∈a,m.ok):=Vi ha;have NB:Hid (∀m∈b,m.ok):=dI Rc;have RA:Hid (aT a):=hr;clear ha hb Rc hr;generalize hnb:b.length=nb at *;have Du:Hid (b.length=nb):=hnb;clear hnb;go_enter Tryz.func24,Tryz.ntmps24;go_wp2_with fail;go_loopw [0,5] (λkn i w'=>∃k:Nat,k<=nb/\i=U O k/\Below w.heap.size w w'/\Hid (Sl w' kn (aB a (b.take k)))) (λ_ i _=>nb-(intOf i).toNat)
 case atStart=>exact⟨0,Nat.zero_le _,rfl,Below.refl _ _,HA⟩
 case round=>
  obtain⟨k,hk,rfl,aO,HO⟩:=hrel;obtain⟨cK,kj⟩:=cd aO;have cB:=aO.size;by_cases aX:k<nb
  .obtain⟨b2,o2,qW,jE,mI⟩:∃nf off,pv=AI ⟨nf,off,be⟩/\nf<w.heap.size/\Row w nf off b:=by
    rcases HB.out with h|h
    .have:=Du.out;rw[h] at this;simp at this;omega
    .exact h
   subst qW;obtain⟨c0,c1,c2,c3,c4,c5,c6,c7,c8⟩:=mI k (by rw[Du.out];exact aX);clear mI;have HJ:Hid (aB a (b.take (k+1))=aN (aB a (b.take k)) (b.getD k dm)):=gd a b k (by rw[Du.out];exact aX);have HR:Hid (aT (aB a (b.take k))):=dz _ _ RA.out;have HL:Hid ((aB a (b.take k)).length<=1000):=by
    have h1:=dj (b.take k) a;have h2:(b.take k).length<=k:=List.length_take_le _ _;show(aB a (b.take k)).length<=1000;omega
   have HM:Hid ((b.getD k dm).ok):=cD NB.out k;have HNJ:Hid (∀m∈aB a (b.take k),m.ok):=iP _ _ NA.out (λx hx=>NB.out x (List.mem_of_mem_take hx));generalize b.getD k dm=m at *;generalize aB a (b.take k)=known at *;obtain⟨p,f,cA⟩:=jT known HR.out m;have fm:Hid (At known m p f):=cA;have xa:=cA.le;clear cA;have ie:=HL.out;have HP:Hid (∀W v',Sl W v' known->Calls AS 45 #[v',Ik #[Y m.node,Y m.bf,Y m.name,Y m.tag,U O m.addr,U O m.port,Ia m.af,U O m.version,Ia m.gone]] W λe w'=>∃v2,e=AT v2/\Own (W.heap.size+1) w' v2 (RL.put known m p f)/\Below W.heap.size W w'):=λW v' hs=>Dr known v' m W hs HL.out HR.out p f fm.out;have ab3:∀d os,Calls AS 43 #[u0,Y m.node,Y m.bf] (Ig (Im wr d) os) λe fR=>e=AT (U O (atV p f))/\∃p:Regrown,fR=Ig (Im wr p.d) p.os:=λd os=>Calls.regrown_of (WT known u0 m _ (HO.out.below (below_regrown wr d os)) (by omega) HR.out p f fm.out);have E0:∀d os,(Ig (Im wr d) os).cell? ⟨b2,o2+k*9,be⟩=AI (Y m.node):=Ih ((cK _ _ jE).trans c0);have E1:∀d os,(Ig (Im wr d) os).cell? ⟨b2,o2+k*9+1,be⟩=AI (Y m.bf):=Ih ((cK _ _ jE).trans c1);have HCC:Hid (w.cell? ⟨b2,o2+k*9,be⟩=AI (Y m.node)/\w.cell? ⟨b2,o2+k*9+1,be⟩=AI (Y m.bf)/\w.cell? ⟨b2,o2+k*9+2,be⟩=AI (Y m.name)/\w.cell? ⟨b2,o2+k*9+3,be⟩=AI (Y m.tag)/\w.cell? ⟨b2,o2+k*9+4,be⟩=AI (U O m.addr)/\w.cell? ⟨b2,o2+k*9+5,be⟩=AI (U O m.port)/\w.cell? ⟨b2,o2+k*9+6,be⟩=AI (Ia m.af)/\w.cell? ⟨b2,o2+k*9+7,be⟩=AI (U O m.version)/\w.cell? ⟨b2,o2+k*9+8,be⟩=AI (Ia m.gone)):=⟨c0,c1,c2,c3,c4,c5,c6,c7,c8⟩;clear c0 c1 c2 c3 c4 c5 c6 c7 c8 cK kj;go_wp2_with fail;refine IA (by kernel_rfl) (by kernel_rfl) ?_;repeat(quiet_step (exact ab3 _ _))
   refine bu λdq gW dF=>?_;clear ab3 E0 E1;generalize Ig (Im wr dq) gW=wq at *;have mr:Below w.heap.size w wq:=aO.trans (dF.out.mono cB);have Cs:Hid (Sl wq u0 known):=HO.out.below dF.out;obtain⟨qI,_⟩:=cd mr;have xp:=mr.size;clear aO cB HO dF;obtain⟨c0,c1,c2,c3,c4,c5,c6,c7,c8⟩:=HCC.out;cases f
   .have hv:atV p false = -1:=rfl
    rw[hv];have qB:Hid (RL.put known m p false=aN known m):=vu fm.out (λh=>by cases h);clear hv;go_wp2_with fail;go_quiet (fail)
    have HQ:Hid (Below wq.heap.size wq (wq.drewN nq)):=below_drewN (Below.refl _ _) _;have HSQ:Hid (Sl (wq.drewN nq) u0 known):=Cs.out.below HQ.out;go_wp2_with fail;refine(HP.out (wq.drewN nq) u0 HSQ.out).mono ?_;rintro e w2 ⟨v2,rfl,g1,g2⟩;have jF:Hid (Below w.heap.size w w2):=(mr.trans (HQ.out.mono xp)).trans (g2.mono xp);have LL:Hid (Sl w2 v2 (aN known m)):=by rw[<- qB.out];exact bM g1 (by rw[qB.out];exact lJ HNJ.out HM.out)
    clear g1 g2 HQ HSQ;go_wp2_with fail;exact⟨⟨k+1,by omega,by go_num,jF.out,by rw[HJ.out];exact LL.out⟩,by simp[intOf];omega⟩
   .have hv:atV p true=(p:Int):=rfl
    rw[hv];clear hv;have hp:p<known.length:=(fm.out.is.1 rfl).1;obtain⟨pa,ca,hva,_,cL⟩:=Cs.out;subst hva;have b0:decide ((p:Int)<0)=false:=decide_eq_false (by omega);obtain⟨b3,o3,hp3,hl3,hr3⟩:∃nf off,pa=AI ⟨nf,off,be⟩/\nf<wq.heap.size/\Row wq nf off known:=by
     rcases cL with h|h
     .rw[h] at hp;simp at hp
     .exact h
    subst hp3;obtain⟨d0,d1,d2,d3,d4,d5,d6,d7,d8⟩:=hr3 p hp;clear hr3 cL;generalize hx:known.getD p dm=x at *;have HX:Hid (known.getD p dm=x):=hx;clear hx;have F0:∀d os,(Ig (Im wq d) os).cell? ⟨b2,o2+k*9,be⟩=AI (Y m.node):=Ih ((qI _ _ jE).trans c0);have F1:∀d os,(Ig (Im wq d) os).cell? ⟨b2,o2+k*9+1,be⟩=AI (Y m.bf):=Ih ((qI _ _ jE).trans c1);have F2:∀d os,(Ig (Im wq d) os).cell? ⟨b2,o2+k*9+2,be⟩=AI (Y m.name):=Ih ((qI _ _ jE).trans c2);have F3:∀d os,(Ig (Im wq d) os).cell? ⟨b2,o2+k*9+3,be⟩=AI (Y m.tag):=Ih ((qI _ _ jE).trans c3);have F4:∀d os,(Ig (Im wq d) os).cell? ⟨b2,o2+k*9+4,be⟩=AI (U O m.addr):=Ih ((qI _ _ jE).trans c4);have F5:∀d os,(Ig (Im wq d) os).cell? ⟨b2,o2+k*9+5,be⟩=AI (U O m.port):=Ih ((qI _ _ jE).trans c5);have F6:∀d os,(Ig (Im wq d) os).cell? ⟨b2,o2+k*9+6,be⟩=AI (Ia m.af):=Ih ((qI _ _ jE).trans c6);have F7:∀d os,(Ig (Im wq d) os).cell? ⟨b2,o2+k*9+7,be⟩=AI (U O m.version):=Ih ((qI _ _ jE).trans c7);have F8:∀d os,(Ig (Im wq d) os).cell? ⟨b2,o2+k*9+8,be⟩=AI (Ia m.gone):=Ih ((qI _ _ jE).trans c8);have G0:∀d os,(Ig (Im wq d) os).cell? ⟨b3,o3+p*9,be⟩=AI (Y x.node):=Ih d0;have G1:∀d os,(Ig (Im wq d) os).cell? ⟨b3,o3+p*9+1,be⟩=AI (Y x.bf):=Ih d1;have G2:∀d os,(Ig (Im wq d) os).cell? ⟨b3,o3+p*9+2,be⟩=AI (Y x.name):=Ih d2;have G3:∀d os,(Ig (Im wq d) os).cell? ⟨b3,o3+p*9+3,be⟩=AI (Y x.tag):=Ih d3;have G4:∀d os,(Ig (Im wq d) os).cell? ⟨b3,o3+p*9+4,be⟩=AI (U O x.addr):=Ih d4;have G5:∀d os,(Ig (Im wq d) os).cell? ⟨b3,o3+p*9+5,be⟩=AI (U O x.port):=Ih d5;have G6:∀d os,(Ig (Im wq d) os).cell? ⟨b3,o3+p*9+6,be⟩=AI (Ia x.af):=Ih d6;have G7:∀d os,(Ig (Im wq d) os).cell? ⟨b3,o3+p*9+7,be⟩=AI (U O x.version):=Ih d7;have G8:∀d os,(Ig (Im wq d) os).cell? ⟨b3,o3+p*9+8,be⟩=AI (Ia x.gone):=Ih d8;have hN:∀d os,Calls AS 44 #[Ik #[Y m.node,Y m.bf,Y m.name,Y m.tag,U O m.addr,U O m.port,Ia m.af,U O m.version,Ia m.gone],Ik #[Y x.node,Y x.bf,Y x.name,Y x.tag,U O x.addr,U O x.port,Ia x.af,U O x.version,Ia x.gone]] (Ig (Im wq d) os) λe fR=>e=AT (Ia (bF m x))/\∃p:Regrown,fR=Ig (Im wq p.d) p.os:=λd os=>Calls.regrown_of (Dt m x _);clear c0 c1 c2 c3 c4 c5 c6 c7 c8 d0 d1 d2 d3 d4 d5 d6 d7 d8;rcases Az:bF m x with _|_
    .have qB:Hid (aN known m=known):=Hj fm.out (by rw[HX.out];exact Az)
     rw[Az] at hN;clear Az;go_wp2_with fail;refine IA (by kernel_rfl) (by kernel_rfl) ?_;repeat(quiet_step (exact hN _ _))
     refine bu λdq gW dF=>?_;clear hN F0 F1 F2 F3 F4 F5 F6 F7 F8 G0 G1 G2 G3 G4 G5 G6 G7 G8;go_wp2_with fail;exact⟨⟨k+1,by omega,by go_num,mr.trans (dF.out.mono xp),by rw[HJ.out,qB.out];exact Cs.out.below dF.out⟩,by simp[intOf];omega⟩
    .have qB:Hid (RL.put known m p true=aN known m):=vu fm.out (λ_=>by rw[HX.out];exact Az)
     rw[Az] at hN;clear Az;go_wp2_with fail;refine IA (by kernel_rfl) (by kernel_rfl) ?_;repeat(quiet_step (exact hN _ _))
     refine bu λdq gW dF=>?_;clear hN F0 F1 F2 F3 F4 F5 F6 F7 F8 G0 G1 G2 G3 G4 G5 G6 G7 G8;generalize Ig (Im wq dq) gW=wz at *;have HSQ:Hid (Sl wz (J (AI ⟨b3,o3,be⟩) known.length ca) known):=Cs.out.below dF.out;have WU:Below w.heap.size w wz:=mr.trans (dF.out.mono xp);obtain⟨aoL,_⟩:=cd WU;have ahA:=WU.size;obtain⟨c0,c1,c2,c3,c4,c5,c6,c7,c8⟩:=HCC.out;clear mr qI xp Cs dF;go_wp2_with fail;refine(HP.out wz (J (AI ⟨b3,o3,be⟩) known.length ca) HSQ.out).mono ?_;rintro e w2 ⟨v2,rfl,g1,g2⟩;have jF:Hid (Below w.heap.size w w2):=WU.trans (g2.mono ahA);have LL:Hid (Sl w2 v2 (aN known m)):=by rw[<- qB.out];exact bM g1 (by rw[qB.out];exact lJ HNJ.out HM.out)
     clear g1 g2 HSQ;go_wp2_with fail;exact⟨⟨k+1,by omega,by go_num,jF.out,by rw[HJ.out];exact LL.out⟩,by simp[intOf];omega⟩
  .have HF:Hid (Sl wr u0 (aB a b)):=by
    have h:=HO.out;rw[List.take_of_length_le (by rw[Du.out];omega)] at h;exact h
   go_wp2_with fail;go_ret;exact⟨u0,rfl,HF,aO⟩
end Sv
namespace Sv
open Go.RowKit
theorem WV{ms:List aV}{m:aV}{p:Nat}{f:Bool}(h:∀x∈ms,x.ok)(hm:m.ok):∀x∈RL.put ms m p f,x.ok:=λx hx=>by
 unfold RL.put at hx;rcases List.mem_append.1 hx with hx|hx
 .exact h x (List.mem_of_mem_take hx)
 .rcases List.mem_cons.1 hx with rfl|hx
  .exact hm
  .exact h x (List.mem_of_mem_drop hx)
def ab5(ms:List aV)(p:Nat)(f:Bool)(s:aV):aV:={ s with version:=(eW ms p f).version+1 }
def zt(ms:List aV)(p:Nat)(f:Bool)(s:aV):Int:=
 if(eW ms p f).version+1<=1000000 then(if 40<(RL.put ms (ab5 ms p f s) p f).length then 2 else 0) else 3
end Sv
namespace Sv
open Go.RowKit
def Bt(s:aV):aV:={ s with version:=1,gone:=false }
theorem ab6(ms:List aV)(p:Nat)(f:Bool)(s:aV)(hv:0<=(eW ms p f).version):(Cq ms p f s).e=if(Bt s).e=0 then(if(eW ms p f).version+1<=1000000 then 0 else 3) else(Bt s).e:=by
 have h:(within ((eW ms p f).version+1) 1 1000000=true)↔(eW ms p f).version+1<=1000000:=by simp[within];omega
 have h1:within (1:Int) 1 1000000=true:=by decide
 rw[WN,WN];show(if bl s.node=true then(if bl s.bf=true then(if bl s.name=true then(if nu s.tag=true then(if within s.addr 0 4294967295=true then(if within s.port 0 65535=true then(if within ((eW ms p f).version+1) 1 1000000=true then(0:Int) else 3) else 3) else 3) else 1) else 1) else 1) else 1)=(if(if bl s.node=true then(if bl s.bf=true then(if bl s.name=true then(if nu s.tag=true then(if within s.addr 0 4294967295=true then(if within s.port 0 65535=true then(if within (1:Int) 1 1000000=true then(0:Int) else 3) else 3) else 3) else 1) else 1) else 1) else 1)=0 then(if(eW ms p f).version+1<=1000000 then 0 else 3) else(if bl s.node=true then(if bl s.bf=true then(if bl s.name=true then(if nu s.tag=true then(if within s.addr 0 4294967295=true then(if within s.port 0 65535=true then(if within (1:Int) 1 1000000=true then(0:Int) else 3) else 3) else 3) else 1) else 1) else 1) else 1));rw[h1];by_cases h3:(eW ms p f).version+1<=1000000
 .rw[h.2 h3]
  cases bl s.node<;>cases bl s.bf<;>cases bl s.name<;>cases nu s.tag<;>cases within s.addr 0 4294967295<;>cases within s.port 0 65535<;>simp[h3]
 .have h4:within ((eW ms p f).version+1) 1 1000000=false:=by
   cases hw:within ((eW ms p f).version+1) 1 1000000
   .rfl
   .exact absurd (h.1 hw) h3
  rw[h4];cases bl s.node<;>cases bl s.bf<;>cases bl s.name<;>cases nu s.tag<;>cases within s.addr 0 4294967295<;>cases within s.port 0 65535<;>simp[h3]
theorem WW{ms:List aV}{p:Nat}{f:Bool}{m:aV}(hf:f=true)(hm:m.version=(eW ms p f).version+1):bF m (ms.getD p dm)=true:=by
 rw[eC];have hv:m.version=(ms.getD p dm).version+1:=by rw[hm,eW,if_pos hf]
 rw[if_neg (by omega)];exact decide_eq_true (by omega)
end Sv
namespace Sv
open Go.RowKit
theorem tA(a b:ByteArray)(ha:a.size<=Io)(hb:b.size<=Io)(W:World) :
 Calls AS 28 #[J (AI ⟨W.heap.size,0,be⟩) 2 2] (W.alloc (.cells #[Y a,Y b] 9)) λe w'=>e=AT (Ia (bl a&&bl b))/\w'=W.alloc (.cells #[Y a,Y b] 9):=by
 have hg:=heap_alloc_new W (.cells #[Y a,Y b] 9);refine(pZ [a,b] W.heap.size 2 _ (λj hj=>?_) (λj=>?_) (by simp)).mono ?_
 .rw[ae hg]
  have:j=0\/j=1:=by simp at hj;omega
  rcases this with rfl|rfl<;>rfl
 .match j with
  |0=>exact ha
  |1=>exact hb
  |_+2=>simp[List.getD]
 .rintro e w' ⟨rfl,rfl⟩
  exact⟨aW (by simp),rfl⟩
def rQ(x:aV):aV:={ x with gone:=true }
def pP(ms:List aV)(p:Nat)(f:Bool)(node bf:ByteArray):Int:=
 if(bl node&&bl bf)=true then(if(f&&!(eW ms p f).gone)=true then zt ms p f (rQ (eW ms p f)) else 5) else 1
def sP(ms:List aV)(p:Nat)(f:Bool):aV:=ab5 ms p f (rQ (eW ms p f))
theorem vv{ms:List aV}(h0:bp ms=0){p:Nat}{t:aV}(cA:At ms t p true) :
 aJ ms [sP ms p true]=zt ms p true (rQ (eW ms p true))/\aB ms [sP ms p true]=RL.put ms (sP ms p true) p true:=by
 have hz:=aj h0;have hp:=(cA.is.1 rfl).1;have hf:eW ms p true=ms.getD p dm:=if_pos rfl;have h1:At ms (sP ms p true) p true:=RL.EH ord dm keyed hz.2.1 hp (vt.2 (by rw[<- hf];exact⟨rfl,rfl⟩));have h2:aB ms [sP ms p true]=RL.put ms (sP ms p true) p true:=(vu h1 (λhf=>WW hf rfl)).symm;refine⟨?_,h2⟩;have hv:=rN hz.2.2 cA;have he:(sP ms p true).e=if(Bt (eW ms p true)).e=0 then(if(eW ms p true).version+1<=1000000 then 0 else 3) else(Bt (eW ms p true)).e:=ab6 ms p true (eW ms p true) hv.1;have hx:(eW ms p true).e=0:=by rw[hf];exact Sk hz.2.2 p hp
 have ahB:(Bt (eW ms p true)).e=0:=by
  rw[WN] at hx ⊢
  revert hx
  show _->(if bl (eW ms p true).node=true then(if bl (eW ms p true).bf=true then(if bl (eW ms p true).name=true then(if nu (eW ms p true).tag=true then(if within (eW ms p true).addr 0 4294967295=true then(if within (eW ms p true).port 0 65535=true then(if within (1:Int) 1 1000000=true then(0:Int) else 3) else 3) else 3) else 1) else 1) else 1) else 1)=0;rw[show within (1:Int) 1 1000000=true by decide];cases bl (eW ms p true).node<;>cases bl (eW ms p true).bf<;>cases bl (eW ms p true).name<;>cases nu (eW ms p true).tag<;>cases within (eW ms p true).addr 0 4294967295<;>cases within (eW ms p true).port 0 65535<;>simp
 rw[if_pos ahB] at he;unfold zt;by_cases h4:(eW ms p true).version+1<=1000000
 .rw[if_pos h4] at he ⊢
  rw[gj h0 (by rw[zu];exact he),h2];rfl
 .rw[if_neg h4] at he ⊢
  rw[ni h0 (by rw[zu,he];decide),zu,he]
theorem Hk(ms:List aV)(v:Value)(node bf:ByteArray)(w:World)(hv:Sl w v ms)(h0:bp ms=0)(hs:node.size<=Io)(ht:bf.size<=Io)(p:Nat)(f:Bool)(cA:At ms ⟨node,bf,⟨#[]⟩,⟨#[]⟩,0,0,false,0,false⟩ p f) :
 Calls AS 188 #[v,Y node,Y bf] w λe w'=>∃v',e=AT (.tuple #[v',U O (pP ms p f node bf)])/\Below w.heap.size w w'/\Hid ((pP ms p f node bf≠0->v'=J be 0 0)/\(pP ms p f node bf=0->Own w.heap.size w' v' (RL.put ms (sP ms p f) p f))):=by
 have he:(bp ms !=0)=false:=by simpa using h0
 have hz:=aj h0;have HV:Hid (Sl w v ms):=hv;have HR:Hid (aT ms):=hz.2.1;have hlen:=hz.1;have Bq:=rN hz.2.2 cA;have fm:Hid _:=cA;have HRP:Hid (f=true->∀W,Sl W v ms->Calls AS 232 #[v,Ik #[Y (sP ms p f).node,Y (sP ms p f).bf,Y (sP ms p f).name,Y (sP ms p f).tag,U O (sP ms p f).addr,U O (sP ms p f).port,Ia (sP ms p f).af,U O (sP ms p f).version,Ia (sP ms p f).gone]] W λe w'=>∃v',e=AT (.tuple #[v',U O (zt ms p f (rQ (eW ms p f)))])/\Below W.heap.size W w' /\
  (zt ms p f (rQ (eW ms p f))≠0->v'=J be 0 0)/\(zt ms p f (rQ (eW ms p f))=0->Own W.heap.size w' v' (RL.put ms (sP ms p f) p f))):=λhf W hW=>by
  subst hf;have hp:=(cA.is.1 rfl).1;have gP:(sP ms p true).ok:=by
   have h:(eW ms p true).ok:=by rw[eW,if_pos rfl];exact cD (Vi hv) p
   exact h
  have h:=tz ms v (sP ms p true) W hW gP;rw[(vv h0 cA).1,(vv h0 cA).2] at h;exact h
 have HD:Hid (pP ms p f node bf=if(bl node&&bl bf)=true then(if(f&&!(eW ms p f).gone)=true then zt ms p f (rQ (eW ms p f)) else 5) else 1):=rfl;have HG:Hid (sP ms p f={ eW ms p f with version:=(eW ms p f).version+1,gone:=true }):=rfl;generalize pP ms p f node bf=de at *;generalize zt ms p f (rQ (eW ms p f))=se at *;generalize RL.put ms (sP ms p f) p f=pl at *;clear hv h0 hz cA;rcases hl:(bl node&&bl bf) with _|_
 .have HN:Hid (de=1):=(show de=1 by rw[HD.out,hl];rfl)
  go_enter Tryz.func188,Tryz.ntmps188;go_wp2_with (first|(go_at_call 98;refine(bD ms _ _ HV.out).mono ?_;rintro e w1 ⟨rfl,aC⟩)|(go_at_call 28;refine(tA _ _ hs ht _).mono ?_;rintro e w' ⟨rfl,rfl⟩;rw[hl]));go_ret2;exact⟨_,by rw[HN.out];rfl,aC.alloc aC.size _,⟨λ_=>rfl,λh=>by rw[HN.out] at h;cases h⟩⟩
 .have HN:Hid (de=if(f&&!(eW ms p f).gone)=true then se else 5):=(show de=_ by rw[HD.out,hl,if_pos rfl])
  clear HD;go_enter Tryz.func188,Tryz.ntmps188;go_wp2_with (first|(go_at_call 98;refine(bD ms _ _ HV.out).mono ?_;rintro e w1 ⟨rfl,aC⟩)|(go_at_call 28;refine(tA _ _ hs ht _).mono ?_;rintro e w' ⟨rfl,rfl⟩;rw[hl]));have pQ:=aC.alloc aC.size (.cells #[Y node,Y bf] 9);refine(o6 ms _ node bf _ (HV.out.below pQ) hlen HR.out).mono ?_;rintro e w2 ⟨p',f',rfl,aL,sN⟩;obtain⟨rfl,rfl⟩:=eZ fm.out sN;have bA:Hid _:=pQ.trans (aL.mono (by simp;have:=aC.size;omega));clear sN aC aL pQ;have jb:=bA.out.size;generalize hdr:sP ms p f=dr at *;generalize eW ms p f=kn at *;obtain⟨k_node,k_idn,k_name,k_tag,k_addr,k_port,k_passing,k_version,k_gone⟩:=kn;simp only at Bq;obtain⟨Cr,Co⟩:=Bq;cases f
  .have Dv:Hid (de=5):=(show de=5 by rw[HN.out];rfl)
   go_wp2_with fail;go_ret2;exact⟨_,by rw[Dv.out];rfl,bA.out.alloc jb _,⟨λ_=>rfl,λh=>by rw[Dv.out] at h;cases h⟩⟩
  .cases k_gone
   .have HNS:Hid (de=se):=(show de=se by rw[HN.out];rfl)
    have HRQ:=HRP.out rfl;rw[HG.out] at HRQ;have ahE:Hid _:=HRQ;clear HRQ HRP HG;have HBY:Hid (Below w.heap.size w (w2.alloc (.cells #[Y k_node,Y k_idn,Y k_name,Y k_tag,U O k_addr,U O k_port,Ia k_passing,U O (k_version+1),Ia true] 38))):=bA.out.alloc jb _;go_wp2_with fail;refine(ahE.out _ (HV.out.below HBY.out)).mono ?_;rintro e w3 ⟨v3,rfl,bY,rO,oz⟩;have Dp:Hid _:=rO;have cF:Hid _:=HBY.out.trans (bY.mono (by simp;omega));have vq:Hid (se=0->Own w.heap.size w3 v3 pl):=λh=>(oz h).mono (by simp;omega);clear rO oz bY;go_wp2_with fail;go_ret2;exact⟨v3,by rw[HNS.out];rfl,cF.out,⟨λh=>Dp.out (by rw[<- HNS.out];exact h),λh=>vq.out (by rw[<- HNS.out];exact h)⟩⟩
   .have Dv:Hid (de=5):=(show de=5 by rw[HN.out];rfl)
    go_wp2_with fail;go_ret2;exact⟨_,by rw[Dv.out];rfl,bA.out.alloc jb _,⟨λ_=>rfl,λh=>by rw[Dv.out] at h;cases h⟩⟩
end Sv
namespace Sv
open Go.RowKit
end Sv
namespace Gw
open Go.RowKit
end Gw
namespace Gw
open Go.RowKit
end Gw
end Go.Proofs.YtbfghimjdlpicaaGreatDoor
namespace Go.Proofs.YtbfghimjdlpicaaGreatDoor
open Go.RowKit
namespace Sv
end Sv
namespace Gw
end Gw
abbrev svA(s:Sv.aV):Value:=Ik #[Y s.node,Y s.bf,Y s.name,Y s.tag,U O s.addr,U O s.port,Ia s.af,U O s.version,Ia s.gone]
theorem WX{ms:List Sv.aV}(h:∀x∈ms,x.ok)(p:Nat)(f:Bool):(Sv.sP ms p f).ok:=by
 have hd:(Sv.dm).ok:=by simp[Sv.dm,Sv.aV.ok]
 have hg:(Sv.eW ms p f).ok:=by
  unfold Sv.eW;split
  .exact Sv.cD h p
  .exact hd
 exact hg
end Go.Proofs.YtbfghimjdlpicaaGreatDoor
