import Derived.Test.YtclpbaokadfhhaaGreatDoorUj
import Derived.Test.YtclpbaokadfhhaaGreatDoorYh
set_option maxRecDepth 100000
set_option maxHeartbeats 4000000
open Go.Value renaming string->Qa,int->Qc,tuple->Qd,oneCell'->Qe,agg->Qf,slice->Qg
open Go renaming wpList_store_row->Qi,below_setRow->Qj,bodyPost_ret->Qk,World->Qm,Value->Qn
open Go.Proofs.Tryz renaming underlying34->Qo,ntmps103->Qp,func103->Qq,prog->Qt
open ByteArray renaming size_extract->Qx,size_append->Qy,append_assoc->Qz
open Go.Proofs.YtclpbaokadfhhaaGreatDoor.Tryz renaming info34->QA
open Go.IntKind renaming i64->QB,wrap_i64->QC
open Go.Proofs.YtclpbaokadfhhaaGreatDoor renaming Le_mark->QD,none34->QE
open Go.Op renaming stringOp->QF
open Nat renaming shiftLeft_eq->QG,mod_lt->QH
open Go.RowKit renaming Below->QI,intOf->QJ
open BitVec renaming ofNat->QL
open Go.RowKit.Below renaming refl->QM
open List renaming getD_eq_getElem?_getD->QN
open Go.Obj renaming cells->QO
namespace Go.Proofs.YtclpbaokadfhhaaGreatDoor
open Go.RowKit
theorem aal(K:Nat->BitVec 64)(c a data:Qb)(R:List ByteArray)(sp:Option Addr)(n cp:Nat)(w:Qm)(ag:a.size=64)(a2:data.size<=10000)(hs:c.size=32)(hn:n=R.length)(bk:1<=n)(bq:n<=8)
  (X:∀k,k<n-> ∃b off,sp=some ⟨b,off,none⟩/\b<w.heap.size/\w.cell? ⟨b,off+k,none⟩=some (Qa (aM R k)))
  (HP:Hid (Rv 35 #[Qa (a.extract 0 32)] (Qa (aS (a.extract 0 32)))))
  (ao:Hid (Rv 75 #[Qc QB 0,Qc QB 12] (Qa aT)))
  (ap:Hid (Rv 75 #[Qc QB (n:Int),Qc QB 1] (Qa (ya n))))
  (ab:Hid (Rv 75 #[Qc QB (data.size:Int),Qc QB 4] (Qa (lx data))))
  (HA:Hid (∀(e:Qm) (r:ByteArray),Rw 98 #[Qa (a.extract 0 32),Qa r] e (Qd #[Qa (cP (a.extract 0 32) r).1,Qc QB (cP (a.extract 0 32) r).2])))
  (HK:Hid (∀(e:Qm) (r:ByteArray),r.size=32->Rw 155 #[Qa (cf (a.extract 0 32) r),Qa (aS (a.extract 0 32)),Qa r] e (Qa (eJ K (cf (a.extract 0 32) r) (aS (a.extract 0 32)) r))))
  (HC:Hid (∀(e:Qm) (k ti d:ByteArray),k.size=32->ti.size<=1000->d.size<=10000->Rw 95 #[Qa k,Qa aT,Qa ti,Qa d] e (Qd #[Qa (du k aT ti d),Qc QB 0])))
  (HI:Hid (Rv 21 #[Qa c] (Qd #[Qa (ja K c),Qc QB 0])))
  (HD:Hid (Rv 148 #[Qa (a.extract 32 64),Qa ⟨#[]⟩,Qa pB,Qc QB 32] (Qa (cn K (a.extract 32 64)))))
  (HG:Hid (∀(e:Qm) (d:ByteArray),d.size<=100000->Rw 151 #[Qa c,Qa d] e (Qa (vU K c d)))):
  Rw 103 #[Qa c,Qg sp n cp,Qa a,Qa data] w (Qd #[Qa (fU K c R a data).1,Qc QB (fU K c R a data).2]):=by
 have x1:(a.extract 0 32).size=32:=by rw[Qx,ag];rfl
 have x2:(a.extract 32 64).size=32:=by rw[Qx,ag];rfl
 have z1:=nN (a.extract 0 32);have z:Hid (dB K (a.extract 0 32) (aS (a.extract 0 32)) (a.extract 32 64) R R.length=0->fU K c R a data=(pA K c R a data,0)):=λh=>by unfold fU;rw[if_pos h]
 have H:Hid (¬dB K (a.extract 0 32) (aS (a.extract 0 32)) (a.extract 32 64) R R.length=0->fU K c R a data=(⟨#[]⟩,dB K (a.extract 0 32) (aS (a.extract 0 32)) (a.extract 32 64) R R.length)):=λh=>by unfold fU;rw[if_neg h]
 have A1:QF .add ⟨#[77,86,49]⟩ (aS (a.extract 0 32))=pure (Qa (QD++aS (a.extract 0 32))):=bB QD _ (by rw[z1];decide);have zm:(QD++aS (a.extract 0 32)).size=35:=by rw[Qy,z1];rfl
 have A2:QF .add (QD++aS (a.extract 0 32)) (ya n)=pure (Qa (gq K a R 0)):=by
  rw[EG,hn];exact bB _ _ (by rw[zm];show 35+1<=_;omega)
 have ay:a.extract 32 a.size=a.extract 32 64:=by rw[ag]
 have Q:∀k,k<=8->(gq K a R k).size<=420:=λk hk=>by have:=zD K a R k x2;omega
 have HM:=EH K a R
 -- one reader: what Agree says, and what the share is
 have F:Hid (∀k,k<R.length->dB K (a.extract 0 32) (aS (a.extract 0 32)) (a.extract 32 64) R k=0->dB K (a.extract 0 32) (aS (a.extract 0 32)) (a.extract 32 64) R (k+1)=(cP (a.extract 0 32) (aM R k)).2/\
   ((cP (a.extract 0 32) (aM R k)).2=0->(aM R k).size=32/\(cP (a.extract 0 32) (aM R k)).1=cf (a.extract 0 32) (aM R k)/\QF .add (gq K a R k) (du (eJ K (cf (a.extract 0 32) (aM R k)) (aS (a.extract 0 32)) (aM R k)) aT ⟨#[]⟩ (a.extract 32 64))=pure (Qa (gq K a R (k+1))))/\
   (¬(cP (a.extract 0 32) (aM R k)).2=0->dB K (a.extract 0 32) (aS (a.extract 0 32)) (a.extract 32 64) R R.length=(cP (a.extract 0 32) (aM R k)).2)):=λk hk h0=>by
  have e1:dB K (a.extract 0 32) (aS (a.extract 0 32)) (a.extract 32 64) R (k+1)=(cV K (aM R k) (a.extract 0 32) (aS (a.extract 0 32)) (a.extract 32 64)).2:=by rw[dB,if_pos h0]
  have W:(cV K (aM R k) (a.extract 0 32) (aS (a.extract 0 32)) (a.extract 32 64)).2=(cP (a.extract 0 32) (aM R k)).2/\((cP (a.extract 0 32) (aM R k)).2=0->(aM R k).size=32/\(cP (a.extract 0 32) (aM R k)).1=cf (a.extract 0 32) (aM R k)/\(cV K (aM R k) (a.extract 0 32) (aS (a.extract 0 32)) (a.extract 32 64)).1=rk K (aM R k) (a.extract 0 32) (aS (a.extract 0 32)) (a.extract 32 64)):=by
   exact Lb K _ _ _ _ x1
  refine⟨e1.trans W.1,λh=>?_,λh=>?_⟩
  .obtain⟨J,q,L⟩:=W.2 h;refine⟨J,q,?_⟩;rw[HM,L];exact bB _ _ (by have:=Q k oo;have:=Dy K (aM R k) (a.extract 0 32) (aS (a.extract 0 32)) (a.extract 32 64);show _+(rk K (aM R k) (a.extract 0 32) (aS (a.extract 0 32)) (a.extract 32 64)).size<=_;omega)
  .have a9:¬dB K (a.extract 0 32) (aS (a.extract 0 32)) (a.extract 32 64) R (k+1)=0:=by rw[e1,W.1];exact h
   have:=yr K (a.extract 0 32) (aS (a.extract 0 32)) (a.extract 32 64) R (k+1) a9 (R.length-(k+1));rw[show k+1+(R.length-(k+1))=R.length by omega]at this;rw[this,e1,W.1]
 have M:=yp K c;have y2:=A5 data;have y4:=Q R.length oo;have y5:(fu K c R a data).size<=456:=by
  show(gq K a R R.length++(ja K c++lx data)).size<=456
  rw[Qy,Qy,M,y2];omega
 have N:=qJ (cn K (a.extract 32 64)) aT (fu K c R a data) data;have y7:(fN K c R a data).size<=10472:=by
  show(fu K c R a data++du (cn K (a.extract 32 64)) aT (fu K c R a data) data).size<=10472
  rw[Qy,N];omega
 have y8:=AZ K c (fN K c R a data);have yb:=tc K (a.extract 32 64);have y9:(gq K a R R.length++ja K c).size<=452:=by rw[Qy,M];omega
 have B:Hid (QF .add (gq K a R R.length) (ja K c)=pure (Qa (gq K a R R.length++ja K c))):=bB _ _ (by rw[M];omega);have C:Hid (QF .add (gq K a R R.length++ja K c) (lx data)=pure (Qa (fu K c R a data))):=by
  show _=_
  rw[bB _ _ (by rw[y2];omega),Qz];rfl
 have D:Hid (QF .add (fu K c R a data) (du (cn K (a.extract 32 64)) aT (fu K c R a data) data)=pure (Qa (fN K c R a data))):=bB _ _ (by rw[N];omega);have E:Hid (QF .add (fN K c R a data) (vU K c (fN K c R a data))=pure (Qa (pA K c R a data))):=bB _ _ (by rw[y8];omega);have P:Hid (Rv 151 #[Qa c,Qa (fN K c R a data)] (Qa (vU K c (fN K c R a data)))):=λe=>HG.out e _ oo
 have G:Hid (Rv 95 #[Qa (cn K (a.extract 32 64)),Qa aT,Qa (fu K c R a data),Qa data] (Qd #[Qa (du (cn K (a.extract 32 64)) aT (fu K c R a data) data),Qc QB 0])):=λe=>HC.out e _ _ _ yb oo a2
 have ad:Hid (∀(e:Qm) (r:ByteArray),Rw 95 #[Qa (eJ K (cf (a.extract 0 32) r) (aS (a.extract 0 32)) r),Qa aT,Qa ⟨#[]⟩,Qa (a.extract 32 64)] e (Qd #[Qa (du (eJ K (cf (a.extract 0 32) r) (aS (a.extract 0 32)) r) aT ⟨#[]⟩ (a.extract 32 64)),Qc QB 0])):=λe r=>HC.out e _ _ _ (rU K _ _ _) dd oo
 clear HC HG;have E0:Hid (dB K (a.extract 0 32) (aS (a.extract 0 32)) (a.extract 32 64) R 0=0):=rfl;generalize pA K c R a data=bh at z E;generalize vU K c (fN K c R a data)=SI at P E y8;generalize du (cn K (a.extract 32 64)) aT (fu K c R a data) data=CB at G D N;generalize fN K c R a data=SD at P D E y7;generalize fu K c R a data=TI at G C D y5 N;generalize cn K (a.extract 32 64)=BO at HD G yb;generalize gq K a R R.length++ja K c=bd at B C y9;generalize ja K c=ID at HI B M;generalize lx data=CN at ab C y2;generalize dB K (a.extract 0 32) (aS (a.extract 0 32)) (a.extract 32 64) R=ER at z H F E0;generalize gq K a R=a5 at Q HM A2 B F y4 y9;generalize fU K c R a data=bi at z H|-;have o:Hid (QI w.heap.size w w):=QM _ _;replace X:=Qh X;subst hn;have d0:(c.size:Int)=32:=oo
 have d1:(a.size:Int)=64:=oo
 have d2:¬(10000:Int)<(data.size:Int):=oo
 have d3:¬(R.length:Int)<1:=oo
 have d4:¬(8:Int)<(R.length:Int):=oo
 have d5:(32:Int)<=(a.size:Int):=oo
 clear HM Q M y2 y4 y5 N y7 y8 y9 yb a2 hs;go_enter Qq,Qp;go_wp2_with fail;try rw[ay]
 refine gv HP λw1 t=>?_
 replace o:=Qh t;clear t;go_wp2_with fail;refine gv ao λw2 t=>?_
 replace o:=Qh (o.out.trans (t.mono o.out.size));clear t;go_wp2_with fail;refine gv ap λw3 t=>?_
 replace o:=Qh (o.out.trans (t.mono o.out.size));clear t;go_wp2_with fail;clear HP ao ap A1 A2 ay;go_loopw [13,14] (λl i wr=> ∃k:Nat,i=Qc QB k/\l=Qa (a5 k)/\k<=R.length/\Hid (ER k=0)/\Hid (QI w.heap.size w wr)) (λ_ i _=>R.length-(QJ i).toNat)
 case atStart=>exact⟨0,rfl,rfl,oo,E0,o⟩
 case round=>
  clear o E0;obtain⟨k,rfl,rfl,hk,hE,f⟩:=hrel;by_cases a3:k<R.length
  .have f1:(k:Int)<(R.length:Int):=oo
   have f0:(0:Int)<=(k:Int):=oo
   obtain⟨b,off,ba,a1,hc⟩:=X.out k a3;subst ba;obtain⟨J,q,L⟩:=F.out k a3 hE.out;have u:Hid (Rv 98 #[Qa (a.extract 0 32),Qa (aM R k)] (Qd #[Qa (cP (a.extract 0 32) (aM R k)).1,Qc QB (cP (a.extract 0 32) (aM R k)).2])):=λe=>HA.out e _
   have x:Hid ((aM R k).size=32->Rv 155 #[Qa (cf (a.extract 0 32) (aM R k)),Qa (aS (a.extract 0 32)),Qa (aM R k)] (Qa (eJ K (cf (a.extract 0 32) (aM R k)) (aS (a.extract 0 32)) (aM R k)))):=λh e=>HK.out e _ h
   have O:Hid (Rv 95 #[Qa (eJ K (cf (a.extract 0 32) (aM R k)) (aS (a.extract 0 32)) (aM R k)),Qa aT,Qa ⟨#[]⟩,Qa (a.extract 32 64)] (Qd #[Qa (du (eJ K (cf (a.extract 0 32) (aM R k)) (aS (a.extract 0 32)) (aM R k)) aT ⟨#[]⟩ (a.extract 32 64)),Qc QB 0])):=λe=>ad.out e _
   clear F HA HK ad G HI HD P ab B C D E;generalize du (eJ K (cf (a.extract 0 32) (aM R k)) (aS (a.extract 0 32)) (aM R k)) aT ⟨#[]⟩ (a.extract 32 64)=SH at q O;generalize eJ K (cf (a.extract 0 32) (aM R k)) (aS (a.extract 0 32)) (aM R k)=KY at x O;generalize (cP (a.extract 0 32) (aM R k)).1=AX at q u;generalize (cP (a.extract 0 32) (aM R k)).2=A at J q L u;generalize cf (a.extract 0 32) (aM R k)=AG at q x;generalize aM R k=T at q u x hc;have ah:=Qh q;have an:=Qh L;have a4:=Qh J;clear J q L;go_wp2_with fail;refine bu (S:=(λy:Qm=>y.cell? ⟨b,off+k,none⟩=some (Qa T)/\QI w.heap.size w y)) (ls:=[]) kr ?_;have j:(λy:Qm=>y.cell? ⟨b,off+k,none⟩=some (Qa T)/\QI w.heap.size w y) wr.drew:=⟨(f.out.drew.cell (p:=⟨b,off+k,none⟩) a1).trans hc,f.out.drew⟩;clear f;generalize wr.drew=wd at j|-;refine ac 0 63 (v:=Qa a) j ?_ ?_
   .exact λe _=>rfl
   refine ac 2 65 (v:=Qg (some ⟨b,off,none⟩) R.length cp) j ?_ ?_
   .exact λe _=>rfl
   refine ac 3 66 (v:=Qc QB (k:Int)) j ?_ ?_
   .exact λe _=>rfl
   simp only[qQ];refine ae 1 64 (v:=Qa (a.extract 0 32)) j ?_;refine ae 4 67 j ?_;simp only[qQ];refine ac 5 68 (v:=Qa T) j ?_ ?_
   ·(intro e ax;have cx:=ax.1;clear ax;go_simp)
   simp only[qQ];refine ip (i:=6) kr rfl (λK' a0=>?_);go_simp;go_wp2_with (go_at_call 98;refine gv u λw4 kk=>?_);have m:(λy:Qm=>y.cell? ⟨b,off+k,none⟩=some (Qa T)/\QI w.heap.size w y) w4:=⟨((j.2.trans (kk.mono j.2.size)).cell (p:=⟨b,off+k,none⟩) a1).trans hc,j.2.trans (kk.mono j.2.size)⟩;refine a0.out _ _ m ?_;try simp only[qQ]
   clear a0 K' kk j;refine ac 7 62 (v:=Qd #[Qa AX,Qc QB A]) m ?_ ?_
   .exact λe _=>rfl
   refine ac 8 70 (v:=Qa AX) m ?_ ?_
   .exact λe _=>rfl
   refine ac 9 71 (v:=Qc QB A) m ?_ ?_
   .exact λe _=>rfl
   try simp only[qQ]
   refine ac 10 15 (v:=Qa AX) m ?_ ?_
   .exact λe _=>rfl
   refine ac 11 16 (v:=Qc QB A) m ?_ ?_
   .exact λe _=>rfl
   try simp only[qQ]
   refine aC ?_;by_cases I:A=0
   .obtain⟨bb,rfl,ha⟩:=ah.out I;subst I;have cc:=m.1;have s:=m.2;have a6:=Qr (x.out bb);clear m x u ah an;go_wp2_with fail;refine gv a6 λw5 k5=>?_
    replace s:=s.trans (k5.mono s.size);clear cc k5;go_wp2_with fail;refine gv O λw6 k6=>?_
    have a7:=Qh (s.trans (k6.mono s.size));clear k6 s;go_wp2_with fail;go_roundw
    case rel=>exact⟨k+1,gn,rfl,oo,a4,a7⟩
    case measure=>simp[QJ];omega
   .have d9:(A !=0)=true:=by rw[bne_iff_ne];exact I
    have az:=an.out I;have Z:=H.out (by rw[az];exact I);rw[az]at Z;have s:=m.2;clear m x u ah an a4 H z O;go_wp2;go_ret2;try rw[Z]
    exact⟨rfl,s⟩
  .have a8:k=R.length:=oo
   subst a8;have f1:¬(R.length:Int)<(R.length:Int):=oo
   have Z:=z.out hE.out;have g1:=B.out;have g2:=C.out;have g3:=D.out;have g4:=E.out;clear F HA HK ad H z X;go_wp2_with fail;refine gv HI λw4 g=>?_
   replace f:=Qh (f.out.trans (g.mono f.out.size));clear g;go_wp2_with fail;refine gv ab λw5 g=>?_
   replace f:=Qh (f.out.trans (g.mono f.out.size));clear g;go_wp2_with fail;refine gv HD λw6 g=>?_
   replace f:=Qh (f.out.trans (g.mono f.out.size));clear g;go_wp2_with fail;refine gv G λw7 g=>?_
   replace f:=Qh (f.out.trans (g.mono f.out.size));clear g;go_wp2_with fail;refine gv P λw8 g=>?_
   replace f:=Qh (f.out.trans (g.mono f.out.size));clear g;go_wp2;go_ret2;try rw[Z]
   exact⟨rfl,f.out⟩
def TL(w:Qm)(Z:Array Qn)(y:Qm):Prop:=Blk y w.heap.size Z 34/\Blk y (w.heap.size+1) Z 34/\QI w.heap.size w y
theorem TL.keep{w:Qm}{Z:Array Qn}{y z:Qm}(h:TL w Z y)(k:QI y.heap.size y z):TL w Z z:=⟨h.1.keep k,h.2.1.keep k,h.2.2.trans (k.mono h.2.2.size)⟩
theorem TL.drew{w:Qm}{Z:Array Qn}{y:Qm}(h:TL w Z y):TL w Z y.drew:=h.keep bR.drew
theorem aam(r L:Qb)(n m:Nat)(w:Qm)(P a7 a8 PT a9 a0 AX PB KY:Qb)(SH IX az a6:Nat->ByteArray)(T:Int)(u QX:Nat->Int)(RG:Bool)(RV:Qn)(cb:n<256)(ca:m<4294967296)
  (hy:36<=L.size-> ∃y:UInt8,y.toNat=n/\ ∀h:35<L.size,L[35]=y)
  (hX:Hid ((L.size<=12000/\L.extract 0 3=QD/\1<=n/\n<=8/\72+48*n<=L.size/\m<=10000/\L.size=152+48*n+m)->L.extract (36+48*n) (68+48*n)=P/\L.extract 0 (88+48*n+m)=a7/\L.extract (88+48*n+m) L.size=a8/\L.extract 3 35=PT/\L.extract 0 (72+48*n)=a9/\L.extract (72+48*n) (88+48*n+m)=a0/\ ∀i,i<n->L.extract (36+48*i) (84+48*i)=SH i))
  (HN:Hid (∀c:Qm,72+48*n<=L.size->Rw 156 #[Qa (L.extract (68+48*n) (72+48*n))] c (Qc QB (m:Int))))
  (HV:Hid ((L.size<=12000/\L.extract 0 3=QD/\1<=n/\n<=8/\72+48*n<=L.size/\m<=10000/\L.size=152+48*n+m)->Rv 102 #[Qa P,Qa a7,Qa a8] (.bool RG)))
  (W:Hid (r.size=32->(L.size<=12000/\L.extract 0 3=QD/\1<=n/\n<=8/\72+48*n<=L.size/\m<=10000/\L.size=152+48*n+m)->Rv 98 #[Qa r,Qa PT] (Qd #[Qa AX,Qc QB T])))
  (O:Hid (r.size=32->Rv 35 #[Qa r] (Qa PB)))
  (N:Hid ((L.size<=12000/\L.extract 0 3=QD/\1<=n/\n<=8/\72+48*n<=L.size/\m<=10000/\L.size=152+48*n+m)->T=0->Rv 155 #[Qa AX,Qa PT,Qa PB] (Qa KY)))
  (M:Hid (Rv 75 #[Qc QB 0,Qc QB 12] (Qa aT)))
  (H:Hid ((L.size<=12000/\L.extract 0 3=QD/\1<=n/\n<=8/\72+48*n<=L.size/\m<=10000/\L.size=152+48*n+m)-> ∀(c:Qm) (i:Nat),i<n->Rw 97 #[Qa KY,Qa aT,Qa ⟨#[]⟩,Qa (SH i)] c (Qd #[Qa (IX i),Qc QB (u i)])))
  (G:Hid ((L.size<=12000/\L.extract 0 3=QD/\1<=n/\n<=8/\72+48*n<=L.size/\m<=10000/\L.size=152+48*n+m)-> ∀(c:Qm) (i:Nat),i<n->u i=0->Rw 148 #[Qa (IX i),Qa ⟨#[]⟩,Qa pB,Qc QB 32] c (Qa (az i))))
  (I:Hid ((L.size<=12000/\L.extract 0 3=QD/\1<=n/\n<=8/\72+48*n<=L.size/\m<=10000/\L.size=152+48*n+m)-> ∀(c:Qm) (i:Nat),i<n->Rw 97 #[Qa (az i),Qa aT,Qa a9,Qa a0] c (Qd #[Qa (a6 i),Qc QB (QX i)])))
  (X:Hid (¬r.size=32->RV=kh 1)) (B:Hid (r.size=32-> ¬(L.size<=12000/\L.extract 0 3=QD/\1<=n/\n<=8/\72+48*n<=L.size/\m<=10000/\L.size=152+48*n+m)->RV=kh 5)) (R:Hid (r.size=32->(L.size<=12000/\L.extract 0 3=QD/\1<=n/\n<=8/\72+48*n<=L.size/\m<=10000/\L.size=152+48*n+m)->RG=false->RV=kh 6))
  (K:Hid (r.size=32->(L.size<=12000/\L.extract 0 3=QD/\1<=n/\n<=8/\72+48*n<=L.size/\m<=10000/\L.size=152+48*n+m)->RG=true-> ¬T=0->RV=kh T)) (F:Hid (r.size=32->(L.size<=12000/\L.extract 0 3=QD/\1<=n/\n<=8/\72+48*n<=L.size/\m<=10000/\L.size=152+48*n+m)->RG=true->T=0->(∀i,i<n-> ¬u i=0)->RV=kh 7))
  (E:Hid (r.size=32->(L.size<=12000/\L.extract 0 3=QD/\1<=n/\n<=8/\72+48*n<=L.size/\m<=10000/\L.size=152+48*n+m)->RG=true->T=0-> ∀j,j<n->u j=0->(∀i,i<j-> ¬u i=0)-> ¬QX j=0->RV=kh 3))
  (D:Hid (r.size=32->(L.size<=12000/\L.extract 0 3=QD/\1<=n/\n<=8/\72+48*n<=L.size/\m<=10000/\L.size=152+48*n+m)->RG=true->T=0-> ∀j,j<n->u j=0->(∀i,i<j-> ¬u i=0)->QX j=0->RV=Qd #[Qf #[Qa (a6 j),Qa P,Qc QB (j:Int)],Qc QB 0])):
  Calls Qt 104 #[Qa r,Qa L] w λe w'=>e=.returned RV/\QI w.heap.size w w':=by
 have hz:=DR;have bi:Hid ((#[Qa ⟨#[]⟩,Qa ⟨#[]⟩,Qc QB 0]:Array Qn)=QE):=rfl;have b:none34.size=3:=rfl;have s:none34.all (·.oneCell')=true:=by simp[QE,Qe]
 have bh:∀c:Qm,(Instr.build 34 #[]).run Qt c=.ok (Qf QE) c:=λc=>run_build c _ _ _ kr
 generalize QE=Z at hz bi b s bh;have A:Hid (∀x:Int,kh x=Qd #[Qf Z,Qc QB x]):=λx=>by show _=_;unfold kh;rw[bi.out]
 have ay:Blk ((w.alloc (QO Z 34)).alloc (QO Z 34)) (w.heap.size+1) Z 34:=by
  have:=Blk.new (w.alloc (QO Z 34)) Z 34;rw[show (w.alloc (QO Z 34)).heap.size=w.heap.size+1 by simp]at this;exact this
 have f:Hid (TL w Z (((w.alloc (QO Z 34)).alloc (QO Z 34)).setRow (w.heap.size+1) Z)):=
  ⟨((Blk.new w Z 34).alloc _).other oo _,ay.row _,Qj ((bR.alloc nR _).alloc ss _) oo _⟩
 unfold Blk at ay;go_enter Tryz.func104,Tryz.ntmps104;go_upto_region 2 with (first
  |(refine nG rfl 34 _ rfl [] rfl Z (bh _) ?_)
  |(refine Qi rfl 34 _ _ rfl (w.heap.size+1) _ rfl rfl 34 _ ay (by rw[b];exact QA) rfl s ?_))
 clear ay hz bh bi;generalize ((w.alloc (QO Z 34)).alloc (QO Z 34)).setRow (w.heap.size+1) Z=wa at f|-;try simp only[Act.put]
 by_cases z:r.size=32
 .have d0:(r.size:Int)=32:=oo
  by_cases c1:L.size<=12000
  .have d1:¬(12000:Int)<(L.size:Int):=oo
   by_cases c2:36<=L.size
   .have d2:¬(L.size:Int)<36:=oo
    have d3:(3:Int)<=(L.size:Int):=oo
    by_cases c3:L.extract 0 3=QD
    .have b3:(L.extract 0 3).toList=[77,86,49]:=by rw[c3,ByteArray.toList_eq];rfl
     replace c3:=Qh c3;obtain⟨y,bz,bx⟩:=hy c2;have b1:=bx oo;have d4:(35:Int)<(L.size:Int):=oo
     have b5:(y.toNat:Int)=(n:Int):=oo
     have wn:QB.wrap (48*(n:Int))=48*(n:Int):=by rw[QC];omega
     replace bz:=Qh bz;clear hy bx;by_cases c4:1<=n/\n<=8/\72+48*n<=L.size
     .obtain⟨c5,c6,c7⟩:=c4;have d5:¬(n:Int)<1:=oo
      have d6:¬(8:Int)<(n:Int):=oo
      have d7:¬(L.size:Int)<36+48*(n:Int)+36:=oo
      have t1:(36+48*(n:Int)+32).toNat=68+48*n:=oo
      have t2:(36+48*(n:Int)+36).toNat=72+48*n:=oo
      have t3:(0:Int)<=36+48*(n:Int)+32:=oo
      have t4:36+48*(n:Int)+32<=36+48*(n:Int)+36:=oo
      have t5:36+48*(n:Int)+36<=(L.size:Int):=oo
      go_wp2_with fail;refine mo (HN.out _ c7) λw1 k1=>?_;replace f:=Qh (f.out.keep k1);clear k1 b3 b1;by_cases c8:m<=10000/\L.size=152+48*n+m
      .obtain⟨c9,ba⟩:=c8;have C:Hid ((L.size<=12000/\L.extract 0 3=QD/\1<=n/\n<=8/\72+48*n<=L.size/\m<=10000/\L.size=152+48*n+m)):=⟨c1,c3.out,c5,c6,c7,c9,ba⟩;have d8:¬(10000:Int)<(m:Int):=oo
       have d9:((L.size:Int) !=36+48*(n:Int)+36+(m:Int)+16+64)=false:=by rw[bne_eq_false_iff_eq];omega
       obtain⟨x1,x2,x3,x4,x5,x6,x7⟩:=hX.out C.out;replace x7:=Qh x7;have bX:(L.size:Int)-64=((88+48*n+m:Nat):Int):=oo
       have a1:72+48*n<=88+48*n+m:=oo
       have a2:88+48*n+m<=L.size:=oo
       replace ba:=Qh ba;generalize 88+48*n+m=AL at bX x2 x3 x6 a1 a2;have t6:(36+48*(n:Int)).toNat=36+48*n:=oo
       have t7:(0:Int)<=36+48*(n:Int):=oo
       have t8:36+48*(n:Int)<=36+48*(n:Int)+32:=oo
       have t9:36+48*(n:Int)+32<=(L.size:Int):=oo
       have a3:(AL:Int)<=(L.size:Int):=oo
       have a4:(0:Int)<=(AL:Int):=oo
       have a5:36+48*(n:Int)+36<=(AL:Int):=oo
       clear HN B X hX b5 wn;go_wp2_with fail;have ax:=HV.out C.out;replace ax:=Qr ax;clear HV;refine bu (S:=(TL w Z)) (ls:=[]) kr ?_;have p:=f.out.drew;clear f;generalize w1.drew=wd at p|-;refine ac 0 90 (v:=Qa P) p ?_ ?_
       .exact λc _=>rfl
       refine ac 1 91 (v:=Qa L) p ?_ ?_
       .exact λc _=>rfl
       refine ac 2 92 (v:=Qc QB (AL:Int)) p ?_ ?_
       .exact λc _=>rfl
       simp only[qQ];refine ac 4 94 (v:=Qa L) p ?_ ?_
       .exact λc _=>rfl
       refine ac 5 95 (v:=Qc QB (AL:Int)) p ?_ ?_
       .exact λc _=>rfl
       simp only[qQ];refine ae 3 93 (v:=Qa a7) p ?_;refine ae 6 96 (v:=Qa a8) p ?_;simp only[qQ];refine ip (i:=7) kr rfl (λK' ab=>?_);go_simp;go_wp2_with (go_at_call 102;refine mo (ax.out _) λw2 kk=>?_);have q:=TL.keep p kk;refine ab.out _ _ q ?_;try simp only[qQ]
       clear ab K' kk p ax;refine ac 8 12 (v:=.bool RG) q ?_ ?_
       .exact λc _=>rfl
       try simp only[qQ]
       refine aC ?_;cases RG with
       |false=>
        have o:=Qh (R.out z C.out (by first|rfl|trivial));clear W O N M H G I R K F E D;have a:=q.1;have d:=q.2.1;have g:=a.row Z;have l:=q.2.2;unfold Blk at a d;go_wp2_with (first|(refine ld t34 rfl rfl (w.heap.size+1) rfl d b ?_)|(refine Qi rfl 34 _ _ rfl w.heap.size _ rfl rfl 34 _ a (by rw[b];exact QA) rfl s ?_));refine Qk (bj rfl _ _ w.heap.size 34 _ (0,0) _ _ rfl rfl g Qo rfl (by rw[b];exact QA)) rfl ⟨by rw[o.out,A.out];rfl,Qj l nR _⟩
       |true=>
        have b9:(35:Int)<=(L.size:Int):=oo
        have ap:=W.out z C.out;replace ap:=Qr ap;clear W R x1 x2 x3;go_wp2_with fail;refine mo (ap.out _) λw3 t=>?_;replace q:=q.keep t;clear t ap;by_cases bb:T=0
        .subst bb;have bq:=Qr (O.out z);have bk:=Qr (N.out C.out (by first|rfl|trivial));clear O N K;go_wp2_with fail;refine gv bq λw4 t=>?_
         replace q:=q.keep t;clear t bq;go_wp2_with fail;refine gv bk λw5 t=>?_
         replace q:=q.keep t;clear t bk x4;go_wp2_with fail;refine gv M λw6 t=>?_
         replace q:=Qh (q.keep t);clear t M;have I0:Hid (∀i,i<0-> ¬u i=0):=λi hi=>absurd hi (Nat.not_lt_zero i)
         go_wp2_with fail;go_loopw [18] (λi wr=> ∃k:Nat,i=Qc QB (k:Int)/\k<=n/\Hid (∀i,i<k-> ¬u i=0)/\Hid (TL w Z wr)) (λi _=>n-(QJ i).toNat)
         case atStart=>exact⟨0,rfl,oo,I0,q⟩
         case round=>
          clear I0 q;obtain⟨k,rfl,hk,hI,hT⟩:=hrel;by_cases ah:k<n
          .have f1:(k:Int)<(n:Int):=oo
           have xk:=x7.out k ah;have b6:QB.wrap (48*(k:Int))=48*(k:Int):=by rw[QC];omega
           have u1:(36+48*(k:Int)).toNat=36+48*k:=oo
           have u2:(84+48*(k:Int)).toNat=84+48*k:=oo
           have u3:(0:Int)<=36+48*(k:Int):=oo
           have u4:36+48*(k:Int)<=84+48*(k:Int):=oo
           have u5:84+48*(k:Int)<=(L.size:Int):=oo
           have bs:=Qr λc=>H.out C.out c k ah
           go_wp2_with fail;refine gv bs λw7 t=>?_
           have ao:=hT.out.keep t;clear t bs hT xk b6 u1 u2 u3 u4 u5;by_cases ad:u k=0
           .have an:=Qr λc=>G.out C.out c k ah ad
            have ag:=Qr λc=>I.out C.out c k ah
            have e3:=E.out z C.out (by first|rfl|trivial) (by first|rfl|trivial) k ah ad hI.out;have e0:=D.out z C.out (by first|rfl|trivial) (by first|rfl|trivial) k ah ad hI.out;replace e3:=Qh e3;replace e0:=Qh e0;have z0:(u k==0)=true:=by rw[beq_iff_eq];exact ad
            rw[ad];clear H G I E D F hI ad z0;have cd:QB.wrap (36+48*(n:Int)+36)=36+48*(n:Int)+36:=by rw[QC];omega
            have cc:¬36+48*(n:Int)+36<0:=oo
            generalize a6 k=Q at ag e0;generalize QX k=QK at ag e0 e3;generalize IX k=IK at an|-;generalize az k=BK at an ag;go_wp2_with fail;refine bu (S:=(TL w Z)) (ls:=[]) kr ?_;have p:=ao.drew;clear ao;generalize w7.drew=wd at p|-;refine ac 0 141 (v:=Qa IK) p ?_ ?_
            .exact λc _=>rfl
            refine ac 2 143 (v:=Qa aT) p ?_ ?_
            .exact λc _=>rfl
            refine ac 3 144 (v:=Qa L) p ?_ ?_
            .exact λc _=>rfl
            simp only[qQ];refine ac 4 145 (v:=Qc QB (36+48*(n:Int))) p ?_ ?_
            .exact λc _=>rfl
            refine ac 7 148 (v:=Qa L) p ?_ ?_
            .exact λc _=>rfl
            refine ac 8 149 (v:=Qc QB (36+48*(n:Int))) p ?_ ?_
            .exact λc _=>rfl
            simp only[qQ];refine ac 10 151 (v:=Qc QB (AL:Int)) p ?_ ?_
            .exact λc _=>rfl
            refine ae 5 146 (v:=Qc QB (36+48*(n:Int)+36)) p ?_;refine ae 9 150 (v:=Qc QB (36+48*(n:Int)+36)) p ?_;simp only[qQ];refine ae 6 147 (v:=Qa a9) p ?_;refine ae 11 152 (v:=Qa a0) p ?_;simp only[qQ];refine ip (i:=1) kr rfl (λK' ab=>?_);go_simp;go_wp2_with (go_at_call 148;refine gv an λw8 kk=>?_);have bd:=TL.keep p kk;refine ab.out _ _ bd ?_;try simp only[qQ]
            clear ab K' kk p;refine ip (i:=12) kr rfl (λK' ab=>?_);go_simp;go_wp2_with (go_at_call 97;refine gv ag λw9 kk=>?_);have J:=TL.keep bd kk;refine ab.out _ _ J ?_;try simp only[qQ]
            clear ab K' kk bd;refine ac 13 140 (v:=Qd #[Qa Q,Qc QB QK]) J ?_ ?_
            .exact λc _=>rfl
            refine ac 14 154 (v:=Qa Q) J ?_ ?_
            .exact λc _=>rfl
            refine ac 15 155 (v:=Qc QB QK) J ?_ ?_
            .exact λc _=>rfl
            try simp only[qQ]
            refine ac 16 21 (v:=Qa Q) J ?_ ?_
            .exact λc _=>rfl
            refine ac 17 20 (v:=Qc QB QK) J ?_ ?_
            .exact λc _=>rfl
            try simp only[qQ]
            refine aC ?_;by_cases hQ:QK=0
            .subst hQ;have o:=e0.out rfl;replace o:=Qh o;clear e0 e3 an ag;have bt:∀c:Qm,(Instr.build 34 #[(0,Qa Q),(1,Qa P),(2,Qc QB (k:Int))]).run Qt c=.ok (Qf #[Qa Q,Qa P,Qc QB (k:Int)]) c:=λc=>run_build c _ _ _ kr
             have sR:(#[Qa Q,Qa P,Qc QB (k:Int)]:Array Qn).size=3:=rfl;have oR:(#[Qa Q,Qa P,Qc QB (k:Int)]:Array Qn).all (·.oneCell')=true:=by simp[Qe]
             generalize b0:(#[Qa Q,Qa P,Qc QB (k:Int)]:Array Qn)=RR at bt sR oR;have a:=J.1;have g:=a.row RR;have l:=J.2.2;unfold Blk at a;go_wp2_with (first
              |(refine nG rfl 34 _ rfl [(0,Qa Q),(1,Qa P),(2,Qc QB (k:Int))] rfl RR (bt _) ?_)
              |(refine st t34 rfl rfl w.heap.size rfl rfl a sR b oR ?_))
             refine Qk (bj rfl _ _ w.heap.size 34 _ (0,0) _ _ rfl rfl g Qo rfl (by rw[sR];exact QA)) rfl ⟨by rw[o.out,<-b0];rfl,Qj l nR _⟩
            .have dQ:(QK !=0)=true:=by rw[bne_iff_ne];exact hQ
             have o:=Qh (e3.out hQ);clear e0 e3 an ag;have a:=J.1;have d:=J.2.1;have g:=a.row Z;have l:=J.2.2;unfold Blk at a d;go_wp2_with (first|(refine ld t34 rfl rfl (w.heap.size+1) rfl d b ?_)|(refine Qi rfl 34 _ _ rfl w.heap.size _ rfl rfl 34 _ a (by rw[b];exact QA) rfl s ?_));refine Qk (bj rfl _ _ w.heap.size 34 _ (0,0) _ _ rfl rfl g Qo rfl (by rw[b];exact QA)) rfl ⟨by rw[o.out,A.out];rfl,Qj l nR _⟩
           .have dU:(u k !=0)=true:=by rw[bne_iff_ne];exact ad
            have bY:Hid (∀i,i<k+1-> ¬u i=0):=λi hi=>by
             by_cases h:i<k
             .exact hI.out i h
             .rw[show i=k by omega];exact ad
            replace ao:=Qh ao;clear hI;go_wp2_with fail;go_roundw
            case rel=>exact⟨k+1,gn,oo,bY,ao⟩
            case measure=>simp[QJ];omega
          .have b2:k=n:=oo
           have f1:¬(k:Int)<(n:Int):=oo
           have o:=Qh (F.out z C.out (by first|rfl|trivial) (by first|rfl|trivial) (λi hi=>hI.out i oo));clear H G I E D F hI b2;have a:=hT.out.1;have d:=hT.out.2.1;have g:=a.row Z;have l:=hT.out.2.2;unfold Blk at a d;go_wp2_with (first|(refine ld t34 rfl rfl (w.heap.size+1) rfl d b ?_)|(refine Qi rfl 34 _ _ rfl w.heap.size _ rfl rfl 34 _ a (by rw[b];exact QA) rfl s ?_));refine Qk (bj rfl _ _ w.heap.size 34 _ (0,0) _ _ rfl rfl g Qo rfl (by rw[b];exact QA)) rfl ⟨by rw[o.out,A.out];rfl,Qj l nR _⟩
        .have dE:(T !=0)=true:=by rw[bne_iff_ne];exact bb
         have o:=Qh (K.out z C.out (by first|rfl|trivial) bb);clear O N M H G I K F E D;have a:=q.1;have d:=q.2.1;have g:=a.row Z;have l:=q.2.2;unfold Blk at a d;go_wp2_with (first|(refine ld t34 rfl rfl (w.heap.size+1) rfl d b ?_)|(refine Qi rfl 34 _ _ rfl w.heap.size _ rfl rfl 34 _ a (by rw[b];exact QA) rfl s ?_));refine Qk (bj rfl _ _ w.heap.size 34 _ (0,0) _ _ rfl rfl g Qo rfl (by rw[b];exact QA)) rfl ⟨by rw[o.out,A.out];rfl,Qj l nR _⟩
      .have o:=Qh (B.out z (λh=>c8 ⟨h.2.2.2.2.2.1,h.2.2.2.2.2.2⟩));clear HN HV W O N M H G I hX X B R K F E D;by_cases c9:m<=10000
       .have d8:¬(10000:Int)<(m:Int):=oo
        have d9:¬(L.size:Int)=36+48*(n:Int)+36+(m:Int)+16+64:=oo
        have b8:((L.size:Int) !=36+48*(n:Int)+36+(m:Int)+16+64)=true:=by rw[bne_iff_ne];exact d9
        have a:=f.out.1;have d:=f.out.2.1;have g:=a.row Z;have l:=f.out.2.2;unfold Blk at a d;go_wp2_with (first|(refine ld t34 rfl rfl (w.heap.size+1) rfl d b ?_)|(refine Qi rfl 34 _ _ rfl w.heap.size _ rfl rfl 34 _ a (by rw[b];exact QA) rfl s ?_));refine Qk (bj rfl _ _ w.heap.size 34 _ (0,0) _ _ rfl rfl g Qo rfl (by rw[b];exact QA)) rfl ⟨by rw[o.out,A.out];rfl,Qj l nR _⟩
       .have d8:(10000:Int)<(m:Int):=oo
        have a:=f.out.1;have d:=f.out.2.1;have g:=a.row Z;have l:=f.out.2.2;unfold Blk at a d;go_wp2_with (first|(refine ld t34 rfl rfl (w.heap.size+1) rfl d b ?_)|(refine Qi rfl 34 _ _ rfl w.heap.size _ rfl rfl 34 _ a (by rw[b];exact QA) rfl s ?_));refine Qk (bj rfl _ _ w.heap.size 34 _ (0,0) _ _ rfl rfl g Qo rfl (by rw[b];exact QA)) rfl ⟨by rw[o.out,A.out];rfl,Qj l nR _⟩
     .have o:=Qh (B.out z (λh=>c4 ⟨h.2.2.1,h.2.2.2.1,h.2.2.2.2.1⟩));clear HN HV W O N M H G I hX X B R K F E D;by_cases c5:1<=n
      .have d5:¬(n:Int)<1:=oo
       by_cases c6:n<=8
       .have d6:¬(8:Int)<(n:Int):=oo
        have d7:(L.size:Int)<36+48*(n:Int)+36:=oo
        have a:=f.out.1;have d:=f.out.2.1;have g:=a.row Z;have l:=f.out.2.2;unfold Blk at a d;go_wp2_with (first|(refine ld t34 rfl rfl (w.heap.size+1) rfl d b ?_)|(refine Qi rfl 34 _ _ rfl w.heap.size _ rfl rfl 34 _ a (by rw[b];exact QA) rfl s ?_));refine Qk (bj rfl _ _ w.heap.size 34 _ (0,0) _ _ rfl rfl g Qo rfl (by rw[b];exact QA)) rfl ⟨by rw[o.out,A.out];rfl,Qj l nR _⟩
       .have d6:(8:Int)<(n:Int):=oo
        have a:=f.out.1;have d:=f.out.2.1;have g:=a.row Z;have l:=f.out.2.2;unfold Blk at a d;go_wp2_with (first|(refine ld t34 rfl rfl (w.heap.size+1) rfl d b ?_)|(refine Qi rfl 34 _ _ rfl w.heap.size _ rfl rfl 34 _ a (by rw[b];exact QA) rfl s ?_));refine Qk (bj rfl _ _ w.heap.size 34 _ (0,0) _ _ rfl rfl g Qo rfl (by rw[b];exact QA)) rfl ⟨by rw[o.out,A.out];rfl,Qj l nR _⟩
      .have d5:(n:Int)<1:=oo
       have a:=f.out.1;have d:=f.out.2.1;have g:=a.row Z;have l:=f.out.2.2;unfold Blk at a d;go_wp2_with (first|(refine ld t34 rfl rfl (w.heap.size+1) rfl d b ?_)|(refine Qi rfl 34 _ _ rfl w.heap.size _ rfl rfl 34 _ a (by rw[b];exact QA) rfl s ?_));refine Qk (bj rfl _ _ w.heap.size 34 _ (0,0) _ _ rfl rfl g Qo rfl (by rw[b];exact QA)) rfl ⟨by rw[o.out,A.out];rfl,Qj l nR _⟩
    .have b4:=Ht c3;rw[show QD.toList=[77,86,49] by rw[ByteArray.toList_eq];rfl]at b4;have o:=Qh (B.out z (λh=>c3 h.2.1));clear c3;clear HN HV W O N M H G I hX X B R K F E D;have a:=f.out.1;have d:=f.out.2.1;have g:=a.row Z;have l:=f.out.2.2;unfold Blk at a d;go_wp2_with (first|(refine ld t34 rfl rfl (w.heap.size+1) rfl d b ?_)|(refine Qi rfl 34 _ _ rfl w.heap.size _ rfl rfl 34 _ a (by rw[b];exact QA) rfl s ?_));refine Qk (bj rfl _ _ w.heap.size 34 _ (0,0) _ _ rfl rfl g Qo rfl (by rw[b];exact QA)) rfl ⟨by rw[o.out,A.out];rfl,Qj l nR _⟩
   .have d2:(L.size:Int)<36:=oo
    have o:=Qh (B.out z (λh=>c2 oo));clear HN HV W O N M H G I hX X B R K F E D;have a:=f.out.1;have d:=f.out.2.1;have g:=a.row Z;have l:=f.out.2.2;unfold Blk at a d;go_wp2_with (first|(refine ld t34 rfl rfl (w.heap.size+1) rfl d b ?_)|(refine Qi rfl 34 _ _ rfl w.heap.size _ rfl rfl 34 _ a (by rw[b];exact QA) rfl s ?_));refine Qk (bj rfl _ _ w.heap.size 34 _ (0,0) _ _ rfl rfl g Qo rfl (by rw[b];exact QA)) rfl ⟨by rw[o.out,A.out];rfl,Qj l nR _⟩
  .have d1:(12000:Int)<(L.size:Int):=oo
   have o:=Qh (B.out z (λh=>c1 h.1));clear HN HV W O N M H G I hX X B R K F E D;have a:=f.out.1;have d:=f.out.2.1;have g:=a.row Z;have l:=f.out.2.2;unfold Blk at a d;go_wp2_with (first|(refine ld t34 rfl rfl (w.heap.size+1) rfl d b ?_)|(refine Qi rfl 34 _ _ rfl w.heap.size _ rfl rfl 34 _ a (by rw[b];exact QA) rfl s ?_));refine Qk (bj rfl _ _ w.heap.size 34 _ (0,0) _ _ rfl rfl g Qo rfl (by rw[b];exact QA)) rfl ⟨by rw[o.out,A.out];rfl,Qj l nR _⟩
 .have d0:((r.size:Int) !=32)=true:=by rw[bne_iff_ne];omega
  have b7:¬(r.size:Int)=32:=oo
  have o:=Qh (X.out z);clear HN HV W O N M H G I hX X B R K F E D;have a:=f.out.1;have d:=f.out.2.1;have g:=a.row Z;have l:=f.out.2.2;unfold Blk at a d;go_wp2_with (first|(refine ld t34 rfl rfl (w.heap.size+1) rfl d b ?_)|(refine Qi rfl 34 _ _ rfl w.heap.size _ rfl rfl 34 _ a (by rw[b];exact QA) rfl s ?_));refine Qk (bj rfl _ _ w.heap.size 34 _ (0,0) _ _ rfl rfl g Qo rfl (by rw[b];exact QA)) rfl ⟨by rw[o.out,A.out];rfl,Qj l nR _⟩
theorem Wm(s:Qb)(w:Qm)(p:s.size=4):
  Rw 156 #[Qa s] w (Qc QB (((s.data.toList.getD 0 0).toNat+256*(s.data.toList.getD 1 0).toNat+65536*(s.data.toList.getD 2 0).toNat+16777216*(s.data.toList.getD 3 0).toNat:Nat):Int)):=by
 have g:=gh s 0 oo;have h:=gh s 1 oo;have i:=gh s 2 oo;have j:=gh s 3 oo;generalize s.data.toList.getD 0 0=a at g|-;generalize s.data.toList.getD 1 0=b at h|-;generalize s.data.toList.getD 2 0=c at i|-;generalize s.data.toList.getD 3 0=d at j|-;have q:=a.toNat_lt;have r:=b.toNat_lt;have t:=c.toNat_lt;have u:=d.toNat_lt;have l:(0:Int)<(s.size:Int):=oo
 have m:(1:Int)<(s.size:Int):=oo
 have n:(2:Int)<(s.size:Int):=oo
 have o:(3:Int)<(s.size:Int):=oo
 have e:Hid ((a.toNat:Int)+256*(b.toNat:Int)+65536*(c.toNat:Int)+16777216*(d.toNat:Int)=((a.toNat+256*b.toNat+65536*c.toNat+16777216*d.toNat:Nat):Int)):=by show _=_;omega
 generalize ((a.toNat+256*b.toNat+65536*c.toNat+16777216*d.toNat:Nat):Int)=k at e|-;go_enter Tryz.func156,Tryz.ntmps156;go_wp2_with fail;go_quiet (fail)
 have f:QI w.heap.size w (w.drewN nq):=below_drewN bR nq;generalize w.drewN nq=v at f|-;go_wp2;go_ret;exact⟨by rw[<-e.out];rfl,f⟩
theorem LZ(K:Nat->BitVec 64)(a p r:Qb)(w:Qm)(d:p.size=32)(e:r.size=32)
  (b:Hid (Rv 148 #[Qa a,Qa (p++r),Qa uS,Qc QB 32] (Qa (eJ K a p r)))):
  Rw 155 #[Qa a,Qa p,Qa r] w (Qa (eJ K a p r)):=by
 have c:QF .add p r=pure (Qa (p++r)):=bB _ _ (by rw[d,e];omega);generalize eJ K a p r=R at b|-;generalize p++r=g at c b;go_enter Tryz.func155,Tryz.ntmps155;go_wp2_with fail;refine gv b λh f=>?_
 go_wp2;go_ret;exact⟨rfl,f⟩
theorem Wp(f:Nat->UInt8):(V (iu f 4)).toNat=(f 0).toNat+256*(f 1).toNat+65536*(f 2).toNat+16777216*(f 3).toNat:=by
 have l:∀a b c d:Nat,a<256->b<256->c<256->d<256->(((((0:BitVec 32)|||QL 32 a<<<(8*0))|||QL 32 b<<<(8*1))|||QL 32 c<<<(8*2))|||QL 32 d<<<(8*3)).toNat=a+256*b+65536*c+16777216*d:=by
  intro a b c d m n o p;simp only[BitVec.toNat_or,BitVec.toNat_shiftLeft,BitVec.toNat_ofNat];have st:∀x c k:Nat,x<2^k->x|||c*2^k=x+2^k*c:=λx c k h=>by rw[Nat.or_comm,Nat.mul_comm,<-Nat.two_pow_add_eq_or_of_lt h,Nat.add_comm]
  have e:(a%2^32)<<<(8*0)%2^32=a:=by rw[QG];omega
  have g:(b%2^32)<<<(8*1)%2^32=b*2^8:=by rw[QG];omega
  have i:(c%2^32)<<<(8*2)%2^32=c*2^16:=by rw[QG];omega
  have j:(d%2^32)<<<(8*3)%2^32=d*2^24:=by rw[QG];omega
  rw[e,g,i,j,show BitVec.toNat (0:BitVec 32)=0 from rfl,Nat.zero_or,st a b 8 oo,st _ c 16 oo,st _ d 24 oo]
 exact l _ _ _ _ (f 0).toNat_lt (f 1).toNat_lt (f 2).toNat_lt (f 3).toNat_lt
theorem YF(L:Qb)(h:35<L.size):L[35]=(L.extract 35 36).data.toList.getD 0 0:=by
 rw[gh L 35 h,QN,QN];congr 1
 rw[show (L.extract 35 36).data.toList=(L.data.toList.take 36).drop 35 by simp[List.drop_take]];rw[List.getElem?_drop,List.getElem?_take_of_lt dd]
theorem YG(L:Qb):iq L<4294967296:=by
 unfold iq;have:(V (iu (yP L) 4)).toNat=(iu (yP L) 4).toNat:=rfl;rw[this];exact(iu (yP L) 4).isLt
theorem S9(k n t c:Qb)(d:k.size=32)(e:n.size=12)(ht:t.size<=12000)(a:16<=c.size)(b:c.size<=12016):bI k n t c=if cG k n t c then(bQ k n (ev c),0)else (⟨#[]⟩,3):=by
 unfold bI;rw[if_pos ⟨d,e,ht,a,b⟩]
theorem ML(s p:Qb)(h:(cP s p).2=0):(cP s p).1=cf s p:=by
 unfold cP at h|-;unfold cf;by_cases c:s.size=32/\p.size=32
 .rw[if_pos c]at h|-;by_cases d:ix s.data.toList p.data.toList=aq 32
  .rw[if_pos d]at h;exact absurd h dd
  .rw[if_neg d]
 .rw[if_neg c]at h;exact absurd h dd
theorem aay(b L:Qb)(w:Qm)(K:L.size<=140737488351232):
  Rw 104 #[Qa b,Qa L] w (BM (mv ai b L)):=by
 have o:mI L->(L.extract 3 35).size=32/\(oS L).size=32/\(ox L).size<=12000/\(mZ L).size=iq L+16/\iq L<=10000/\(qD L).size<=12000/\(qz L).size=64/\ ∀i,i<bA L->(lv L i).size=48:=λh=>by
  obtain⟨a,_,c,d,e,f,g⟩:=h;unfold oS ox mZ qD qz lv;simp only[Qx];refine⟨?_,?_,?_,?_,f,?_,?_,λi l=>?_⟩<;>omega
 have D:mI L-> ∀i,i<bA L->(kn ai b L i).size<=1000:=λh i l=>by
  unfold kn;rw[rK];have:=(o h).2.2.2.2.2.2.2 i l;unfold ev;rw[Qx];omega
 have B:mI L-> ∀i,i<bA L->bI (rl ai b L) aT ⟨#[]⟩ (lv L i)=if cG (rl ai b L) aT ⟨#[]⟩ (lv L i)then (kn ai b L i,0)else (⟨#[]⟩,3):=λh i l=>by
  have:=(o h).2.2.2.2.2.2.2 i l;exact S9 _ _ _ _ (rU ai _ _ _) rfl dd oo oo
 have A:mI L-> ∀i,bI (cn ai (kn ai b L i)) aT (ox L) (mZ L)=if cG (cn ai (kn ai b L i)) aT (ox L) (mZ L)then (bQ (cn ai (kn ai b L i)) aT (ev (mZ L)),0)else (⟨#[]⟩,3):=λh i=>by
  obtain⟨M,N,J,O,P,_⟩:=o h;exact S9 _ _ _ _ (tc ai _) rfl J oo oo
 have v:∀(h:mI L) i,i<bA L->((bI (rl ai b L) aT ⟨#[]⟩ (lv L i)).2=0↔cG (rl ai b L) aT ⟨#[]⟩ (lv L i)=true):=λh i l=>by
  rw[B h i l];cases cG (rl ai b L) aT ⟨#[]⟩ (lv L i)<;>simp
 have C:∀(h:mI L) j,j<bA L->(bI (rl ai b L) aT ⟨#[]⟩ (lv L j)).2=0->(∀i,i<j-> ¬(bI (rl ai b L) aT ⟨#[]⟩ (lv L i)).2=0)->EI ai b L=some j:=λh j s k h2=>by
  refine List.find?_range_eq_some.2 ⟨(v h j s).1 k,List.mem_range.2 s,λi l=>?_⟩;have:=h2 i l;rw[v h i oo]at this;simpa using this
 have u:b.size=32->mI L->cP b (L.extract 3 35)=if nV b (L.extract 3 35)=true then(cf b (L.extract 3 35),0)else (⟨#[]⟩,2):=λk h2=>DB b _ k (o h2).1
 refine aam b L (bA L) (iq L) w (oS L) (qD L) (qz L) (L.extract 3 35) (ox L) (mZ L) (cP b (L.extract 3 35)).1 (aS b) (rl ai b L) (lv L)
  (λi=>(bI (rl ai b L) aT ⟨#[]⟩ (lv L i)).1) (λi=>cn ai (kn ai b L i)) (λi=>(bI (cn ai (kn ai b L i)) aT (ox L) (mZ L)).1)
  (cP b (L.extract 3 35)).2 (λi=>(bI (rl ai b L) aT ⟨#[]⟩ (lv L i)).2) (λi=>(bI (cn ai (kn ai b L i)) aT (ox L) (mZ L)).2)
  (jM (aj ai) (oS L).data.toList (qD L).data.toList (qz L).data.toList) (BM (mv ai b L)) (UInt8.toNat_lt _) (YG L) ?_ ?_ ?_ ?_ ?_ ?_ ?_ ?_ ?_ ?_ ?_ ?_ ?_ ?_ ?_ ?_ ?_ ?_
 .exact λh=>⟨_,rfl,λh2=>YF L h2⟩
 .intro h;unfold oS ox mZ qD qz lv;refine⟨by rw[show 36+48*bA L+32=68+48*bA L by omega],rfl,by rw[show 88+48*bA L+iq L+64=L.size by have:=h.2.2.2.2.2.2;omega],rfl,rfl,by rw[show 72+48*bA L+(iq L+16)=88+48*bA L+iq L by omega],λi _=>by rw[show 36+48*i+48=84+48*i by omega]⟩
 .intro m h;have:=Wm (L.extract (68+48*bA L) (72+48*bA L)) m (by rw[Qx];omega);rw[show (L.extract (68+48*bA L) (72+48*bA L)).data.toList.getD=(L.extract (68+48*bA L) (68+48*bA L+4)).data.toList.getD by rw[show 68+48*bA L+4=72+48*bA L by omega]]at this;have H:=Wp (yP L);unfold iq;rw[H];exact this
 .intro h m;have:=OH (oS L) (qD L) (qz L) m (o h).2.1 (o h).2.2.2.2.2.1 (o h).2.2.2.2.2.2.1;rw[Dq _ _ _ (o h).2.1 (o h).2.2.2.2.2.2.1]at this;exact this
 .exact λ_ _ m=>K6 b _ m
 .exact λh m=>Hg b m h
 .intro h z m;rw[ML b _ z];exact LZ ai (cf b (L.extract 3 35)) (L.extract 3 35) (aS b) m (o h).1 (nN b) (λI=>tR (cf b (L.extract 3 35)) (L.extract 3 35++aS b) uS 32 I (by rw[ub];omega) (by rw[Qy,(o h).1,nN];omega) dd oo)
 .exact λm=>mN 0 12 0 12 rfl rfl oo oo m
 .exact λh m i l=>Ey Fo _ _ _ _ m (by have:=(o h).2.2.2.2.2.2.2 i l;omega)
 .intro h m i l z;have G:=(v h i l).1 z;show Calls _ _ #[Qa (bI (rl ai b L) aT ⟨#[]⟩ (lv L i)).1,_,_,_] _ _
  rw[B h i l,if_pos G];exact tR (kn ai b L i) ⟨#[]⟩ pB 32 m (by have:=D h i l;omega) dd dd oo
 .exact λh m i l=>Ey Fo _ _ _ _ m (by have:=(o h).2.2.2.1;have:=(o h).2.2.2.2.1;omega)
 .intro h;unfold mv;rw[if_neg h];rfl
 .intro k h2;unfold mv kU;rw[if_pos k,if_neg h2];rfl
 .intro k h2 q;unfold mv kU;rw[if_pos k,if_pos h2,if_neg (by rw[q];decide)];rfl
 .intro k h2 q n;rw[u k h2]at n|-;by_cases p:nV b (L.extract 3 35)=true
  .rw[if_pos p]at n;exact absurd rfl n
  .unfold mv kU;rw[if_pos k,if_pos h2,if_pos q,if_neg p,if_neg p];rfl
 .intro k h2 q n t;rw[u k h2]at n;by_cases p:nV b (L.extract 3 35)=true
  .have F:EI ai b L=none:=List.find?_range_eq_none.2 (λi l=>by
    have:=t i l;rw[v h2 i l]at this;simpa using this)
   unfold mv kU;rw[if_pos k,if_pos h2,if_pos q,if_pos p,F];rfl
  .rw[if_neg p]at n;exact absurd n dd
 .intro k h2 q n j s t x r;rw[u k h2]at n;by_cases p:nV b (L.extract 3 35)=true
  .rw[A h2 j]at r;have y:¬cG (cn ai (kn ai b L j)) aT (ox L) (mZ L)=true:=λh=>by rw[if_pos h]at r;exact absurd rfl r
   unfold mv kU;rw[if_pos k,if_pos h2,if_pos q,if_pos p,C h2 j s t x];simp only[y];rfl
  .rw[if_neg p]at n;exact absurd n dd
 .intro k h2 q n j s t x r;rw[u k h2]at n;by_cases p:nV b (L.extract 3 35)=true
  .rw[A h2 j]at r|-;have y:cG (cn ai (kn ai b L j)) aT (ox L) (mZ L)=true:=by
    cases E:cG (cn ai (kn ai b L j)) aT (ox L) (mZ L)with
    |true=>rfl
    |false=>rw[E,if_neg dd]at r;exact absurd r dd
   unfold mv kU;rw[if_pos k,if_pos h2,if_pos q,if_pos p,C h2 j s t x];simp only[y];rfl
  .rw[if_neg p]at n;exact absurd n dd
theorem Wr:∀n:Fin 9,(⟨(dj n.val 1).toArray⟩:ByteArray)=ya n.val:=dk
theorem Wt:∀a:Fin 101,∀b:Fin 100,dj (100*a.val+b.val) 4=eg (aq 4) 0 (QL 64 (100*a.val+b.val)) 4:=dk
theorem Wu(s:Qb)(h:s.size<=10000):(⟨(dj s.size 4).toArray⟩:ByteArray)=lx s:=by
 have:=Wt ⟨s.size/100,oo⟩ ⟨s.size%100,QH _ dd⟩;rw[show 100*(⟨s.size/100,oo⟩:Fin 101).val+(⟨s.size%100,QH _ dd⟩:Fin 100).val=s.size from Nat.div_add_mod s.size 100]at this;unfold lx;rw[this]
theorem aax(e a data:Qb)(R:List ByteArray)(p:Option Addr)(n cp:Nat)(w:Qm)(j:n=R.length)
  (l:∀k,k<n-> ∃b off,p=some ⟨b,off,none⟩/\b<w.heap.size/\w.cell? ⟨b,off+k,none⟩=some (Qa (aM R k))):
  Rw 103 #[Qa e,Qg p n cp,Qa a,Qa data] w (Qd #[Qa (fK ai e R a data).1,Qc QB (fK ai e R a data).2]):=by
 by_cases m:e.size=32/\a.size=64/\data.size<=10000
 .obtain⟨f,h,i⟩:=m;by_cases o:1<=R.length/\R.length<=8
  .have g:fK ai e R a data=fU ai e R a data:=by
    unfold fK;rw[if_pos ⟨f,h,i⟩,if_pos o]
   rw[g];have B:(a.extract 0 32).size=32:=by rw[Qx,h];rfl
   have F:(a.extract 32 64).size=32:=by rw[Qx,h];rfl
   refine aal ai e a data R p n cp w h i f j oo oo l ?_ ?_ ?_ ?_ ?_ ?_ ?_ ?_ ?_ ?_
   .exact λc=>Hg _ c B
   .exact λc=>mN 0 12 0 12 rfl rfl oo oo c
   .intro c;have:=mN (n:Int) 1 n 1 rfl rfl oo oo c;rw[Wr ⟨n,oo⟩]at this;exact this
   .intro c;have:=mN (data.size:Int) 4 data.size 4 rfl rfl oo oo c;rw[Wu data i]at this;exact this
   .exact λc r=>K6 _ r c
   .exact λc r v=>LZ ai (cf (a.extract 0 32) r) (aS (a.extract 0 32)) r c (nN _) v (λA=>tR (cf (a.extract 0 32) r) (aS (a.extract 0 32)++r) uS 32 A (by rw[ub];omega) (by rw[Qy,v,nN];omega) dd oo)
   .intro c k q d z ht u;have:=S6 Fo k aT q d c;rw[show ep k aT q d=(du k aT q d,0) by unfold ep;rw[if_pos ⟨z,rfl,oo,oo⟩]]at this;exact this
   .intro c;have:=uo e c;rw[show iP e=(ja ai e,0) by unfold iP;rw[if_pos f,F9];rfl]at this;exact this
   .exact λc=>tR (a.extract 32 64) ⟨#[]⟩ pB 32 c oo dd dd oo
   .intro c d u;have:=Wi e d f u c;rw[Iz]at this;exact this
  .have g:fK ai e R a data=(⟨#[]⟩,4):=by
    unfold fK;rw[if_pos ⟨f,h,i⟩,if_neg o]
   rw[g];have s:(e.size:Int)=32:=oo
   have t:(a.size:Int)=64:=oo
   have x:¬(10000:Int)<(data.size:Int):=oo
   by_cases h0:n<1
   .have y:(n:Int)<1:=oo
    clear l f h i o g j;go_enter Qq,Qp;go_wp2;go_ret2;exact⟨rfl,QM _ _⟩
   .have y:¬(n:Int)<1:=oo
    have E:(8:Int)<(n:Int):=oo
    clear l f h i o g j;go_enter Qq,Qp;go_wp2;go_ret2;exact⟨rfl,QM _ _⟩
 .have g:fK ai e R a data=(⟨#[]⟩,1):=by
   unfold fK;rw[if_neg m]
  rw[g];by_cases f:e.size=32
  .have s:(e.size:Int)=32:=oo
   by_cases h:a.size=64
   .have t:(a.size:Int)=64:=oo
    have x:(10000:Int)<(data.size:Int):=oo
    clear l m g j f h;go_enter Qq,Qp;go_wp2;go_ret2;exact⟨rfl,QM _ _⟩
   .have t:((a.size:Int) !=64)=true:=by rw[bne_iff_ne];omega
    have D:¬(a.size:Int)=64:=oo
    clear l m g j f h;go_enter Qq,Qp;go_wp2;go_ret2;exact⟨rfl,QM _ _⟩
  .have s:((e.size:Int) !=32)=true:=by rw[bne_iff_ne];omega
   have C:¬(e.size:Int)=32:=oo
   clear l m g j f;go_enter Qq,Qp;go_wp2;go_ret2;exact⟨rfl,QM _ _⟩
end Go.Proofs.YtclpbaokadfhhaaGreatDoor
