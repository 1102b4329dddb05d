import Derived.Test.YtclpbaokadfhhaaGreatDoorZi
set_option maxRecDepth 100000
set_option maxHeartbeats 40000000
open Go.Value renaming agg->Qa,string->Qc,int->Qd
open Go.Proofs.YtclpbaokadfhhaaGreatDoor renaming Fd_Good->Qe,Fd_none16->Qf
open List.Sublist renaming refl->Qg,cons->Qi
namespace Go.Proofs.YtclpbaokadfhhaaGreatDoor
open Go.RowKit
def mr(s:ByteArray):ByteArray:=⟨(oO s.data.toList).toArray⟩
theorem Rn(s:ByteArray)(h:s.size=32):(mr s).size=32:=by
 show(oO s.data.toList).toArray.size=32
 rw[List.size_toArray,vS];simpa using h
structure Rl_Ld where
 a:List Int
 b:List Int
 c:List Int
 d:List Int
def qt(l:Rl_Ld):Prop:=Qe l.a/\Qe l.b/\Qe l.c/\Qe l.d
def BF(l:Rl_Ld):Rl_Ld:=⟨l.c,l.d,l.a,l.b⟩
def nM(u:List Int)(l:Rl_Ld):Rl_Ld:=⟨(af (af (aJ l.a l.b) (aJ l.a l.b)) (af (au l.a l.b) (au l.a l.b))),(af (au (af (aJ l.a l.b) (aJ l.a l.b)) (af (au l.a l.b) (au l.a l.b))) (aJ (af (aJ l.a l.b) (aJ l.a l.b)) (af (au (af (aJ l.a l.b) (aJ l.a l.b)) (af (au l.a l.b) (au l.a l.b))) (iR 56129 1)))),(af (aJ (af (au l.c l.d) (aJ l.a l.b)) (af (aJ l.c l.d) (au l.a l.b))) (aJ (af (au l.c l.d) (aJ l.a l.b)) (af (aJ l.c l.d) (au l.a l.b)))),(af u (af (au (af (au l.c l.d) (aJ l.a l.b)) (af (aJ l.c l.d) (au l.a l.b))) (au (af (au l.c l.d) (aJ l.a l.b)) (af (aJ l.c l.d) (au l.a l.b)))))⟩
theorem Dv(U:List Int)(la lb lc ld:List Int):nM U ⟨la,lb,lc,ld⟩=⟨(af (af (aJ la lb) (aJ la lb)) (af (au la lb) (au la lb))),(af (au (af (aJ la lb) (aJ la lb)) (af (au la lb) (au la lb))) (aJ (af (aJ la lb) (aJ la lb)) (af (au (af (aJ la lb) (aJ la lb)) (af (au la lb) (au la lb))) (iR 56129 1)))),(af (aJ (af (au lc ld) (aJ la lb)) (af (aJ lc ld) (au la lb))) (aJ (af (au lc ld) (aJ la lb)) (af (aJ lc ld) (au la lb)))),(af U (af (au (af (au lc ld) (aJ la lb)) (af (aJ lc ld) (au la lb))) (au (af (au lc ld) (aJ la lb)) (af (aJ lc ld) (au la lb)))))⟩:=by unfold nM;dsimp only
def wW(t:Bool)(u:List Int)(l:Rl_Ld):Rl_Ld:=if t then BF (nM u (BF l))else nM u l
def fF(s:ByteArray)(i:Nat):Bool:=byt s (i/8)/2^(i%8)%2==1
def fq(f:Nat->Bool)(u:List Int):Nat->Rl_Ld
 |0=>⟨am 1,am 0,u,am 1⟩
 |k+1=>wW (f (255-1-k)) u (fq f u k)
def KX(s p:ByteArray):Rl_Ld:=fq (fF (mr s)) (aG p) 255
def sJ(s p:ByteArray):List Int:=af (KX s p).a (fh (KX s p).b)
theorem zw{l:Rl_Ld}(h:qt l):qt (BF l):=⟨h.2.2.1,h.2.2.2,h.1,h.2.1⟩
theorem LY:Qe (iR 56129 1):=sy 56129 1 (by omega) (by omega)
theorem Ak{u:List Int}{l:Rl_Ld}(hu:Qe u)(h:qt l):qt (nM u l):=by
 have e:=cD _ _ h.1 h.2.1;have f:=bl _ _ h.1 h.2.1;have g:=cD _ _ h.2.2.1 h.2.2.2;have hh:=bl _ _ h.2.2.1 h.2.2.2;have he:=aA _ _ hh e;have gf:=aA _ _ g f;have x:=cD _ _ he gf;have y:=bl _ _ he gf;have ee:=aA _ _ e e;have ff:=aA _ _ f f;have m:=bl _ _ ee ff;unfold qt nM;dsimp only;exact⟨aA _ _ ee ff,aA _ _ m (cD _ _ ee (aA _ _ m LY)),aA _ _ x x,aA _ _ hu (aA _ _ y y)⟩
theorem OA{t:Bool}{u:List Int}{l:Rl_Ld}(hu:Qe u)(h:qt l):qt (wW t u l):=by
 unfold wW;split
 .exact zw (Ak hu (zw h))
 .exact Ak hu h
theorem AV:Qe (am 0)/\Qe (am 1):=⟨oa 0 (by omega) (by omega),oa 1 (by omega) (by omega)⟩
theorem un(f:Nat->Bool){u:List Int}(hu:Qe u):∀k,qt (fq f u k)
 |0=>⟨AV.2,AV.1,hu,AV.2⟩
 |k+1=>OA hu (un f hu k)
theorem Gg(p:ByteArray):Qe (aG p):=Fd_Norm.good (A8 p)
theorem OG(s p:ByteArray)(hs:s.size=32)(hp:p.size=32)(w:World):
  Rw 74 #[Qc s,Qc p] w (Qc ⟨(bF (sJ s p)).toArray⟩):=by
 have hz:=oe;have hu:=Gg p;have H0:Hid (Rv 38 #[Qc s] (Qc (mr s))):=λwx=>Ew s wx hs
 have H1:Hid (Rv 139 #[Qc p] (Qa (Ns (aG p)))):=λwx=>Hx p wx hp
 have HA:Hid (∀k,fq (fF (mr s)) (aG p) (k+1)=wW (fF (mr s) (255-1-k)) (aG p) (fq (fF (mr s)) (aG p) k)):=λ_=>rfl
 have HF:Hid (∀k,qt (fq (fF (mr s)) (aG p) k)):=un _ hu;have HE:Hid (bF (sJ s p)=bF (af (fq (fF (mr s)) (aG p) 255).a (fh (fq (fF (mr s)) (aG p) 255).b))):=rfl;have H00:Hid (fq (fF (mr s)) (aG p) 0=⟨am 1,am 0,aG p,am 1⟩):=rfl;have hks:(mr s).size=32:=Rn s hs;generalize bF (sJ s p)=RR at HE|-;generalize mr s=KY at H0 HA HF HE H00 hks;generalize aG p=U at H1 HA HF HE H00 hu;have sU:=Nz hu.1;have H3:Hid (Rv 81 #[Qd .i64 0] (Qa (Ns (am 0)))):=λwx=>mL 0 wx
 have H4:Hid (Rv 81 #[Qd .i64 1] (Qa (Ns (am 1)))):=λwx=>mL 1 wx
 have sO0:(Ns (am 0)).size=16:=rfl;have sO1:(Ns (am 1)).size=16:=rfl;generalize am 0=O0 at H3 H00 sO0;generalize am 1=O1 at H4 H00 sO1;have BN:Hid (∀wx:World,(Instr.build 59 #[(0,Qd .i64 56129),(1,Qd .i64 1)]).run Tryz.prog wx=.ok (Qa (Ns (iR 56129 1))) wx):=yo _ _;have gN:=LY;have HST:Hid (∀la lb lc ld,nM U ⟨la,lb,lc,ld⟩=⟨(af (af (aJ la lb) (aJ la lb)) (af (au la lb) (au la lb))),(af (au (af (aJ la lb) (aJ la lb)) (af (au la lb) (au la lb))) (aJ (af (aJ la lb) (aJ la lb)) (af (au (af (aJ la lb) (aJ la lb)) (af (au la lb) (au la lb))) (iR 56129 1)))),(af (aJ (af (au lc ld) (aJ la lb)) (af (aJ lc ld) (au la lb))) (aJ (af (au lc ld) (aJ la lb)) (af (aJ lc ld) (au la lb)))),(af U (af (au (af (au lc ld) (aJ la lb)) (af (aJ lc ld) (au la lb))) (au (af (au lc ld) (aJ la lb)) (af (aJ lc ld) (au la lb)))))⟩):=Dv U;generalize iR 56129 1=NN at BN gN HST;replace gN:Hid (Qe NN):=gN;have hX:WD w w.heap.size [] w:=WD.start;replace hu:Hid (Qe U):=hu;replace hs:Hid (s.size=32):=hs;replace hp:Hid (p.size=32):=hp;go_enter Tryz.func74,Tryz.ntmps74;go_wp2_with fail;refine gvW hX H0 (λx1 hX=>?_);go_wp2_with fail;refine gvW hX H1 (λx2 hX=>?_);go_wp2_with (first
  |(refine asW hX twN sU rfl (aK _) (λv3 hX=>?_);generalize x2.heap.size=qu at hX|-))
 refine gvW hX H4 (λx4 hX=>?_);go_wp2_with (first
  |(refine asW hX twN sO1 rfl (aK _) (λv5 hX=>?_);generalize x4.heap.size=qa at hX|-))
 refine gvW hX H3 (λx6 hX=>?_);have hN:=hX.new (Ns Qf) 59;have y1:=hN.gt 0 rfl;replace hX:WD w (w.heap.size) [(x6.heap.size,Ns O0,59),(qa,Ns O1,59),(qu,Ns U,59)] ((x6.alloc (.cells (Ns Qf) 59)).setRow x6.heap.size (Ns O0)):=hN.over 0 rfl (Ns O0);clear hN;have y2:=hX.gt 2 rfl;have hN:=hX.new (Ns Qf) 59;rw[show ((x6.alloc (.cells (Ns Qf) 59)).setRow x6.heap.size (Ns O0)).heap.size=x6.heap.size+1 by rw[size_setRow,kK]]at hN;have y3:=hN.gt 0 rfl;replace hX:WD w (w.heap.size) [(x6.heap.size+1,Ns U,59),(x6.heap.size,Ns O0,59),(qa,Ns O1,59),(qu,Ns U,59)] ((((x6.alloc (.cells (Ns Qf) 59)).setRow x6.heap.size (Ns O0)).alloc (.cells (Ns Qf) 59)).setRow (x6.heap.size+1) (Ns U)):=hN.over 0 rfl (Ns U);clear hN;go_wp2_with (first
  |(refine stN rfl rfl (x6.heap.size) rfl rfl y1 sO0 rfl ?_)
  |(refine ldN rfl rfl (qu) rfl y2 sU ?_)
  |(refine stN rfl rfl (x6.heap.size+1) rfl rfl y3 sU rfl ?_))
 clear y1 y2 y3;generalize (((x6.alloc (.cells (Ns Qf) 59)).setRow x6.heap.size (Ns O0)).alloc (.cells (Ns Qf) 59)).setRow (x6.heap.size+1) (Ns U)=vv at hX|-;generalize hqb:x6.heap.size=qb at hX|-;clear hqb;generalize hqc:qb+1=qc at hX|-;clear hqc;refine gvW hX H4 (λx7 hX=>?_);go_wp2_with (first
  |(refine asW hX twN sO1 rfl (aK _) (λv8 hX=>?_);generalize x7.heap.size=qd at hX|-))
 clear H0 H1 H3 H4 sO0 sO1;go_loopw [11] (λq wr=> ∃k:Nat,k<=255/\q=Qd .i64 (254-(k:Int))/\WD w (w.heap.size) [(qd,Ns (fq (fF KY) U k).d,59),(qc,Ns (fq (fF KY) U k).c,59),(qb,Ns (fq (fF KY) U k).b,59),(qa,Ns (fq (fF KY) U k).a,59),(qu,Ns U,59)] wr) (λq _=>(intOf q+1).toNat)
 case atStart=>exact⟨0,by omega,rfl,by rw[H00.out];exact hX⟩
 case round=>
  clear hX H00;obtain⟨k,hk,rfl,hX⟩:=hrel;by_cases hlt:k<255
  .have HS:=HA.out k;have gL:=HF.out k;clear HE HF;have hj:(254:Int)-(k:Int)=((255-1-k:Nat):Int):=by omega
   rw[hj];have adG:Hid (∀wx:World,Calls Tryz.prog 83 #[Qc KY,Qd .i64 ((255-1-k:Nat):Int)] wx λe w'=>e=.returned (Qd .i64 (byt KY ((255-1-k)/8)/2^((255-1-k)%8)%2))/\w'=wx):=λwx=>Fx KY (255-1-k) wx (by omega) (by omega)
   have hbf:fF KY (255-1-k)=(byt KY ((255-1-k)/8)/2^((255-1-k)%8)%2==1):=rfl;rw[hbf]at HS;clear hbf;generalize byt KY ((255-1-k)/8)/2^((255-1-k)%8)%2=bt at adG HS;have hjk:Hid (255-1-k+k=254):=(by omega:255-1-k+k=254);generalize 255-1-k=j at hj adG hjk|-;have i0:(0:Int)<=(j:Int):=by omega
   have j1:(j:Int)<=254:=by omega
   replace HS:Hid (fq (fF KY) U (k+1)=wW (bt==1) U (fq (fF KY) U k)):=HS;generalize fq (fF KY) U k=LL at HS gL hX;obtain⟨la,lb,lc,ld⟩:=LL;obtain⟨gla,glb,glc,gld⟩:=gL;dsimp only at gla glb glc gld hX;have sla:=Nz gla.1;have slb:=Nz glb.1;have slc:=Nz glc.1;have sld:=Nz gld.1;skip;by_cases hb1:bt=1
   .have db:(bt==1)=true:=by rw[beq_iff_eq];exact hb1
    have HT:=HST.out lc ld la lb;replace HS:=HS.out;rw[db]at HS;replace HS:fq (fF KY) U (k+1)=BF (nM U ⟨lc,ld,la,lb⟩):=HS;rw[HT]at HS;clear HT HST;replace hb1:Hid (bt=1):=hb1;have gvE:=cD lc ld glc gld;have JvE:Hid (Rv 80 #[Qa (Ns lc),Qa (Ns ld)] (Qa (Ns (aJ lc ld)))):=λwx=>oq lc ld glc gld wx
    have svE:=Nz gvE.1;generalize aJ lc ld=vE at gvE JvE svE HS;have gvF:=bl lc ld glc gld;have JvF:Hid (Rv 140 #[Qa (Ns lc),Qa (Ns ld)] (Qa (Ns (au lc ld)))):=λwx=>kB lc ld glc gld wx
    have svF:=Nz gvF.1;generalize au lc ld=vF at gvF JvF svF HS;have gvG:=cD la lb gla glb;have JvG:Hid (Rv 80 #[Qa (Ns la),Qa (Ns lb)] (Qa (Ns (aJ la lb)))):=λwx=>oq la lb gla glb wx
    have svG:=Nz gvG.1;generalize aJ la lb=vG at gvG JvG svG HS;have gvH:=bl la lb gla glb;have JvH:Hid (Rv 140 #[Qa (Ns la),Qa (Ns lb)] (Qa (Ns (au la lb)))):=λwx=>kB la lb gla glb wx
    have svH:=Nz gvH.1;generalize au la lb=vH at gvH JvH svH HS;have aec:=aA vH vE gvH gvE;have JvHE:Hid (Rv 84 #[Qa (Ns vH),Qa (Ns vE)] (Qa (Ns (af vH vE)))):=λwx=>gP vH vE gvH gvE wx
    have svHE:=Nz aec.1;generalize af vH vE=vHE at aec JvHE svHE HS;have aeb:=aA vG vF gvG gvF;have JvGF:Hid (Rv 84 #[Qa (Ns vG),Qa (Ns vF)] (Qa (Ns (af vG vF)))):=λwx=>gP vG vF gvG gvF wx
    have svGF:=Nz aeb.1;generalize af vG vF=vGF at aeb JvGF svGF HS;have gvX:=cD vHE vGF aec aeb;have JvX:Hid (Rv 80 #[Qa (Ns vHE),Qa (Ns vGF)] (Qa (Ns (aJ vHE vGF)))):=λwx=>oq vHE vGF aec aeb wx
    have svX:=Nz gvX.1;generalize aJ vHE vGF=vX at gvX JvX svX HS;have gvY:=bl vHE vGF aec aeb;have JvY:Hid (Rv 140 #[Qa (Ns vHE),Qa (Ns vGF)] (Qa (Ns (au vHE vGF)))):=λwx=>kB vHE vGF aec aeb wx
    have svY:=Nz gvY.1;generalize au vHE vGF=vY at gvY JvY svY HS;have gvC:=aA vX vX gvX gvX;have JvC:Hid (Rv 84 #[Qa (Ns vX),Qa (Ns vX)] (Qa (Ns (af vX vX)))):=λwx=>gP vX vX gvX gvX wx
    have svC:=Nz gvC.1;generalize af vX vX=vC at gvC JvC svC HS;have ael:=aA vY vY gvY gvY;have JvYY:Hid (Rv 84 #[Qa (Ns vY),Qa (Ns vY)] (Qa (Ns (af vY vY)))):=λwx=>gP vY vY gvY gvY wx
    have svYY:=Nz ael.1;generalize af vY vY=vYY at ael JvYY svYY HS;have gvD:=aA U vYY hu.out ael;have JvD:Hid (Rv 84 #[Qa (Ns U),Qa (Ns vYY)] (Qa (Ns (af U vYY)))):=λwx=>gP U vYY hu.out ael wx
    have svD:=Nz gvD.1;generalize af U vYY=vD at gvD JvD svD HS;have adQ:=aA vE vE gvE gvE;have JvEE:Hid (Rv 84 #[Qa (Ns vE),Qa (Ns vE)] (Qa (Ns (af vE vE)))):=λwx=>gP vE vE gvE gvE wx
    have aen:=Nz adQ.1;generalize af vE vE=vEE at adQ JvEE aen HS;have aea:=aA vF vF gvF gvF;have JvFF:Hid (Rv 84 #[Qa (Ns vF),Qa (Ns vF)] (Qa (Ns (af vF vF)))):=λwx=>gP vF vF gvF gvF wx
    have svFF:=Nz aea.1;generalize af vF vF=vFF at aea JvFF svFF HS;have gvM:=bl vEE vFF adQ aea;have JvM:Hid (Rv 140 #[Qa (Ns vEE),Qa (Ns vFF)] (Qa (Ns (au vEE vFF)))):=λwx=>kB vEE vFF adQ aea wx
    have svM:=Nz gvM.1;generalize au vEE vFF=vM at gvM JvM svM HS;have gvN:=aA vM NN gvM gN.out;have JvN:Hid (Rv 84 #[Qa (Ns vM),Qa (Ns NN)] (Qa (Ns (af vM NN)))):=λwx=>gP vM NN gvM gN.out wx
    have svN:=Nz gvN.1;generalize af vM NN=vN at gvN JvN svN HS;have aek:=cD vEE vN adQ gvN;have JvNN:Hid (Rv 80 #[Qa (Ns vEE),Qa (Ns vN)] (Qa (Ns (aJ vEE vN)))):=λwx=>oq vEE vN adQ gvN wx
    have svNN:=Nz aek.1;generalize aJ vEE vN=vNN at aek JvNN svNN HS;have gvA:=aA vEE vFF adQ aea;have JvA:Hid (Rv 84 #[Qa (Ns vEE),Qa (Ns vFF)] (Qa (Ns (af vEE vFF)))):=λwx=>gP vEE vFF adQ aea wx
    have svA:=Nz gvA.1;generalize af vEE vFF=vA at gvA JvA svA HS;have gvB:=aA vM vNN gvM aek;have JvB:Hid (Rv 84 #[Qa (Ns vM),Qa (Ns vNN)] (Qa (Ns (af vM vNN)))):=λwx=>gP vM vNN gvM aek wx
    have svB:=Nz gvB.1;generalize af vM vNN=vB at gvB JvB svB HS;clear gla glb glc gld gvE gvF gvG gvH aec aeb gvX gvY gvC ael gvD adQ aea gvM gvN aek gvA gvB;replace HS:Hid (fq (fF KY) U (k+1)=⟨vC,vD,vA,vB⟩):=HS;go_wp2_with fail;refine(adG.out _).mono ?_;rintro e xb ⟨rfl,hxb⟩;rw[hxb];clear hxb xb;go_wp2_with (first
     |(refine ldW 1 hX twN slc ?_)
     |(refine ldW 3 hX twN sla ?_)
     |(refine stW 3 hX twN slc sla (aK _) (λv9 hX=>?_))
     |(refine stW 1 hX twN sla slc (aK _) (λv10 hX=>?_))
     |(refine ldW 0 hX twN sld ?_)
     |(refine ldW 2 hX twN slb ?_)
     |(refine stW 2 hX twN sld slb (aK _) (λv11 hX=>?_))
     |(refine stW 0 hX twN slb sld (aK _) (λv12 hX=>?_))
     |(refine ldW 3 hX twN slc ?_)
     |(refine ldW 2 hX twN sld ?_))
    refine gvW hX JvE (λx13 hX=>?_);go_wp2_with (first
     |(refine asW hX twN svE rfl (aK _) (λv14 hX=>?_);generalize x13.heap.size=qe at hX|-)
     |(refine ldW 4 hX twN slc ?_)
     |(refine ldW 3 hX twN sld ?_))
    refine gvW hX JvF (λx15 hX=>?_);go_wp2_with (first
     |(refine asW hX twN svF rfl (aK _) (λv16 hX=>?_);generalize x15.heap.size=qf at hX|-)
     |(refine ldW 3 hX twN sla ?_)
     |(refine ldW 2 hX twN slb ?_))
    refine gvW hX JvG (λx17 hX=>?_);go_wp2_with (first
     |(refine asW hX twN svG rfl (aK _) (λv18 hX=>?_);generalize x17.heap.size=qg at hX|-)
     |(refine ldW 4 hX twN sla ?_)
     |(refine ldW 3 hX twN slb ?_))
    refine gvW hX JvH (λx19 hX=>?_);go_wp2_with (first
     |(refine asW hX twN svH rfl (aK _) (λv20 hX=>?_);generalize x19.heap.size=qh at hX|-)
     |(refine ldW 0 hX twN svH ?_)
     |(refine ldW 3 hX twN svE ?_))
    refine gvW hX JvHE (λx21 hX=>?_);go_wp2_with (first
     |(refine asW hX twN svHE rfl (aK _) (λv22 hX=>?_);generalize x21.heap.size=qhe at hX|-)
     |(refine ldW 2 hX twN svG ?_)
     |(refine ldW 3 hX twN svF ?_))
    refine gvW hX JvGF (λx23 hX=>?_);go_wp2_with (first
     |(refine asW hX twN svGF rfl (aK _) (λv24 hX=>?_);generalize x23.heap.size=qgf at hX|-)
     |(refine ldW 1 hX twN svHE ?_)
     |(refine ldW 0 hX twN svGF ?_))
    refine gvW hX JvX (λx25 hX=>?_);go_wp2_with (first
     |(refine asW hX twN svX rfl (aK _) (λv26 hX=>?_);generalize x25.heap.size=qx at hX|-)
     |(refine ldW 2 hX twN svHE ?_)
     |(refine ldW 1 hX twN svGF ?_))
    refine gvW hX JvY (λx27 hX=>?_);go_wp2_with (first
     |(refine asW hX twN svY rfl (aK _) (λv28 hX=>?_);generalize x27.heap.size=qy at hX|-)
     |(refine ldW 1 hX twN svX ?_))
    refine gvW hX JvC (λx29 hX=>?_);go_wp2_with (first
     |(refine stW 9 hX twN svC sla (aK _) (λv30 hX=>?_))
     |(refine ldW 0 hX twN svY ?_))
    refine gvW hX JvYY (λx31 hX=>?_);go_wp2_with (first
     |(refine stW 0 hX twN svYY svY (aK _) (λv32 hX=>?_))
     |(refine ldW 12 hX twN sU ?_)
     |(refine ldW 0 hX twN svYY ?_))
    refine gvW hX JvD (λx33 hX=>?_);go_wp2_with (first
     |(refine stW 8 hX twN svD slb (aK _) (λv34 hX=>?_))
     |(refine ldW 7 hX twN svE ?_))
    refine gvW hX JvEE (λx35 hX=>?_);go_wp2_with (first
     |(refine asW hX twN aen rfl (aK _) (λv36 hX=>?_);generalize x35.heap.size=qee at hX|-)
     |(refine ldW 7 hX twN svF ?_))
    refine gvW hX JvFF (λx37 hX=>?_);go_wp2_with (first
     |(refine asW hX twN svFF rfl (aK _) (λv38 hX=>?_);generalize x37.heap.size=qff at hX|-)
     |(refine ldW 1 hX twN aen ?_)
     |(refine ldW 0 hX twN svFF ?_))
    refine gvW hX JvM (λx39 hX=>?_);go_wp2_with (first
     |(refine asW hX twN svM rfl (aK _) (λv40 hX=>?_);generalize x39.heap.size=qm at hX|-)
     |(refine ldW 0 hX twN svM ?_)
     |(refine iA rfl 59 _ rfl [(0,Qd .i64 56129),(1,Qd .i64 1)] rfl _ (BN.out _) ?_))
    refine gvW hX JvN (λx41 hX=>?_);go_wp2_with (first
     |(refine asW hX twN svN rfl (aK _) (λv42 hX=>?_);generalize x41.heap.size=qn at hX|-)
     |(refine ldW 3 hX twN aen ?_)
     |(refine ldW 0 hX twN svN ?_))
    refine gvW hX JvNN (λx43 hX=>?_);go_wp2_with (first
     |(refine stW 0 hX twN svNN svN (aK _) (λv44 hX=>?_))
     |(refine ldW 3 hX twN aen ?_)
     |(refine ldW 2 hX twN svFF ?_))
    refine gvW hX JvA (λx45 hX=>?_);go_wp2_with (first
     |(refine stW 15 hX twN svA slc (aK _) (λv46 hX=>?_))
     |(refine ldW 1 hX twN svM ?_)
     |(refine ldW 0 hX twN svNN ?_))
    refine gvW hX JvB (λx47 hX=>?_);go_wp2_with (first
     |(refine stW 14 hX twN svB sld (aK _) (λv48 hX=>?_))
     |(refine ldW 13 hX twN svC ?_)
     |(refine ldW 15 hX twN svA ?_)
     |(refine stW 15 hX twN svC svA (aK _) (λv49 hX=>?_))
     |(refine stW 13 hX twN svA svC (aK _) (λv50 hX=>?_))
     |(refine ldW 12 hX twN svD ?_)
     |(refine ldW 14 hX twN svB ?_)
     |(refine stW 14 hX twN svD svB (aK _) (λv51 hX=>?_))
     |(refine stW 12 hX twN svB svD (aK _) (λv52 hX=>?_)))
    go_roundw
    case rel=>
     refine⟨k+1,by omega,by go_num,?_⟩;rw[HS.out];exact WD.sub hX (by repeat (first|exact Qg _|apply Qi))
    case measure=>simp[intOf]
   .have db:(bt==1)=false:=by rw[beq_eq_false_iff_ne];exact hb1
    have HT:=HST.out la lb lc ld;replace HS:=HS.out;rw[db]at HS;replace HS:fq (fF KY) U (k+1)=nM U ⟨la,lb,lc,ld⟩:=HS;rw[HT]at HS;clear HT HST;replace hb1:Hid (¬bt=1):=hb1;have gvE:=cD la lb gla glb;have JvE:Hid (Rv 80 #[Qa (Ns la),Qa (Ns lb)] (Qa (Ns (aJ la lb)))):=λwx=>oq la lb gla glb wx
    have svE:=Nz gvE.1;generalize aJ la lb=vE at gvE JvE svE HS;have gvF:=bl la lb gla glb;have JvF:Hid (Rv 140 #[Qa (Ns la),Qa (Ns lb)] (Qa (Ns (au la lb)))):=λwx=>kB la lb gla glb wx
    have svF:=Nz gvF.1;generalize au la lb=vF at gvF JvF svF HS;have gvG:=cD lc ld glc gld;have JvG:Hid (Rv 80 #[Qa (Ns lc),Qa (Ns ld)] (Qa (Ns (aJ lc ld)))):=λwx=>oq lc ld glc gld wx
    have svG:=Nz gvG.1;generalize aJ lc ld=vG at gvG JvG svG HS;have gvH:=bl lc ld glc gld;have JvH:Hid (Rv 140 #[Qa (Ns lc),Qa (Ns ld)] (Qa (Ns (au lc ld)))):=λwx=>kB lc ld glc gld wx
    have svH:=Nz gvH.1;generalize au lc ld=vH at gvH JvH svH HS;have aec:=aA vH vE gvH gvE;have JvHE:Hid (Rv 84 #[Qa (Ns vH),Qa (Ns vE)] (Qa (Ns (af vH vE)))):=λwx=>gP vH vE gvH gvE wx
    have svHE:=Nz aec.1;generalize af vH vE=vHE at aec JvHE svHE HS;have aeb:=aA vG vF gvG gvF;have JvGF:Hid (Rv 84 #[Qa (Ns vG),Qa (Ns vF)] (Qa (Ns (af vG vF)))):=λwx=>gP vG vF gvG gvF wx
    have svGF:=Nz aeb.1;generalize af vG vF=vGF at aeb JvGF svGF HS;have gvX:=cD vHE vGF aec aeb;have JvX:Hid (Rv 80 #[Qa (Ns vHE),Qa (Ns vGF)] (Qa (Ns (aJ vHE vGF)))):=λwx=>oq vHE vGF aec aeb wx
    have svX:=Nz gvX.1;generalize aJ vHE vGF=vX at gvX JvX svX HS;have gvY:=bl vHE vGF aec aeb;have JvY:Hid (Rv 140 #[Qa (Ns vHE),Qa (Ns vGF)] (Qa (Ns (au vHE vGF)))):=λwx=>kB vHE vGF aec aeb wx
    have svY:=Nz gvY.1;generalize au vHE vGF=vY at gvY JvY svY HS;have gvC:=aA vX vX gvX gvX;have JvC:Hid (Rv 84 #[Qa (Ns vX),Qa (Ns vX)] (Qa (Ns (af vX vX)))):=λwx=>gP vX vX gvX gvX wx
    have svC:=Nz gvC.1;generalize af vX vX=vC at gvC JvC svC HS;have ael:=aA vY vY gvY gvY;have JvYY:Hid (Rv 84 #[Qa (Ns vY),Qa (Ns vY)] (Qa (Ns (af vY vY)))):=λwx=>gP vY vY gvY gvY wx
    have svYY:=Nz ael.1;generalize af vY vY=vYY at ael JvYY svYY HS;have gvD:=aA U vYY hu.out ael;have JvD:Hid (Rv 84 #[Qa (Ns U),Qa (Ns vYY)] (Qa (Ns (af U vYY)))):=λwx=>gP U vYY hu.out ael wx
    have svD:=Nz gvD.1;generalize af U vYY=vD at gvD JvD svD HS;have adQ:=aA vE vE gvE gvE;have JvEE:Hid (Rv 84 #[Qa (Ns vE),Qa (Ns vE)] (Qa (Ns (af vE vE)))):=λwx=>gP vE vE gvE gvE wx
    have aen:=Nz adQ.1;generalize af vE vE=vEE at adQ JvEE aen HS;have aea:=aA vF vF gvF gvF;have JvFF:Hid (Rv 84 #[Qa (Ns vF),Qa (Ns vF)] (Qa (Ns (af vF vF)))):=λwx=>gP vF vF gvF gvF wx
    have svFF:=Nz aea.1;generalize af vF vF=vFF at aea JvFF svFF HS;have gvM:=bl vEE vFF adQ aea;have JvM:Hid (Rv 140 #[Qa (Ns vEE),Qa (Ns vFF)] (Qa (Ns (au vEE vFF)))):=λwx=>kB vEE vFF adQ aea wx
    have svM:=Nz gvM.1;generalize au vEE vFF=vM at gvM JvM svM HS;have gvN:=aA vM NN gvM gN.out;have JvN:Hid (Rv 84 #[Qa (Ns vM),Qa (Ns NN)] (Qa (Ns (af vM NN)))):=λwx=>gP vM NN gvM gN.out wx
    have svN:=Nz gvN.1;generalize af vM NN=vN at gvN JvN svN HS;have aek:=cD vEE vN adQ gvN;have JvNN:Hid (Rv 80 #[Qa (Ns vEE),Qa (Ns vN)] (Qa (Ns (aJ vEE vN)))):=λwx=>oq vEE vN adQ gvN wx
    have svNN:=Nz aek.1;generalize aJ vEE vN=vNN at aek JvNN svNN HS;have gvA:=aA vEE vFF adQ aea;have JvA:Hid (Rv 84 #[Qa (Ns vEE),Qa (Ns vFF)] (Qa (Ns (af vEE vFF)))):=λwx=>gP vEE vFF adQ aea wx
    have svA:=Nz gvA.1;generalize af vEE vFF=vA at gvA JvA svA HS;have gvB:=aA vM vNN gvM aek;have JvB:Hid (Rv 84 #[Qa (Ns vM),Qa (Ns vNN)] (Qa (Ns (af vM vNN)))):=λwx=>gP vM vNN gvM aek wx
    have svB:=Nz gvB.1;generalize af vM vNN=vB at gvB JvB svB HS;clear gla glb glc gld gvE gvF gvG gvH aec aeb gvX gvY gvC ael gvD adQ aea gvM gvN aek gvA gvB;replace HS:Hid (fq (fF KY) U (k+1)=⟨vA,vB,vC,vD⟩):=HS;go_wp2_with fail;refine(adG.out _).mono ?_;rintro e xb ⟨rfl,hxb⟩;rw[hxb];clear hxb xb;go_wp2_with (first
     |(refine ldW 3 hX twN sla ?_)
     |(refine ldW 2 hX twN slb ?_))
    refine gvW hX JvE (λx53 hX=>?_);go_wp2_with (first
     |(refine asW hX twN svE rfl (aK _) (λv54 hX=>?_);generalize x53.heap.size=qe at hX|-)
     |(refine ldW 4 hX twN sla ?_)
     |(refine ldW 3 hX twN slb ?_))
    refine gvW hX JvF (λx55 hX=>?_);go_wp2_with (first
     |(refine asW hX twN svF rfl (aK _) (λv56 hX=>?_);generalize x55.heap.size=qf at hX|-)
     |(refine ldW 3 hX twN slc ?_)
     |(refine ldW 2 hX twN sld ?_))
    refine gvW hX JvG (λx57 hX=>?_);go_wp2_with (first
     |(refine asW hX twN svG rfl (aK _) (λv58 hX=>?_);generalize x57.heap.size=qg at hX|-)
     |(refine ldW 4 hX twN slc ?_)
     |(refine ldW 3 hX twN sld ?_))
    refine gvW hX JvH (λx59 hX=>?_);go_wp2_with (first
     |(refine asW hX twN svH rfl (aK _) (λv60 hX=>?_);generalize x59.heap.size=qh at hX|-)
     |(refine ldW 0 hX twN svH ?_)
     |(refine ldW 3 hX twN svE ?_))
    refine gvW hX JvHE (λx61 hX=>?_);go_wp2_with (first
     |(refine asW hX twN svHE rfl (aK _) (λv62 hX=>?_);generalize x61.heap.size=qhe at hX|-)
     |(refine ldW 2 hX twN svG ?_)
     |(refine ldW 3 hX twN svF ?_))
    refine gvW hX JvGF (λx63 hX=>?_);go_wp2_with (first
     |(refine asW hX twN svGF rfl (aK _) (λv64 hX=>?_);generalize x63.heap.size=qgf at hX|-)
     |(refine ldW 1 hX twN svHE ?_)
     |(refine ldW 0 hX twN svGF ?_))
    refine gvW hX JvX (λx65 hX=>?_);go_wp2_with (first
     |(refine asW hX twN svX rfl (aK _) (λv66 hX=>?_);generalize x65.heap.size=qx at hX|-)
     |(refine ldW 2 hX twN svHE ?_)
     |(refine ldW 1 hX twN svGF ?_))
    refine gvW hX JvY (λx67 hX=>?_);go_wp2_with (first
     |(refine asW hX twN svY rfl (aK _) (λv68 hX=>?_);generalize x67.heap.size=qy at hX|-)
     |(refine ldW 1 hX twN svX ?_))
    refine gvW hX JvC (λx69 hX=>?_);go_wp2_with (first
     |(refine stW 9 hX twN svC slc (aK _) (λv70 hX=>?_))
     |(refine ldW 0 hX twN svY ?_))
    refine gvW hX JvYY (λx71 hX=>?_);go_wp2_with (first
     |(refine stW 0 hX twN svYY svY (aK _) (λv72 hX=>?_))
     |(refine ldW 12 hX twN sU ?_)
     |(refine ldW 0 hX twN svYY ?_))
    refine gvW hX JvD (λx73 hX=>?_);go_wp2_with (first
     |(refine stW 8 hX twN svD sld (aK _) (λv74 hX=>?_))
     |(refine ldW 7 hX twN svE ?_))
    refine gvW hX JvEE (λx75 hX=>?_);go_wp2_with (first
     |(refine asW hX twN aen rfl (aK _) (λv76 hX=>?_);generalize x75.heap.size=qee at hX|-)
     |(refine ldW 7 hX twN svF ?_))
    refine gvW hX JvFF (λx77 hX=>?_);go_wp2_with (first
     |(refine asW hX twN svFF rfl (aK _) (λv78 hX=>?_);generalize x77.heap.size=qff at hX|-)
     |(refine ldW 1 hX twN aen ?_)
     |(refine ldW 0 hX twN svFF ?_))
    refine gvW hX JvM (λx79 hX=>?_);go_wp2_with (first
     |(refine asW hX twN svM rfl (aK _) (λv80 hX=>?_);generalize x79.heap.size=qm at hX|-)
     |(refine ldW 0 hX twN svM ?_)
     |(refine iA rfl 59 _ rfl [(0,Qd .i64 56129),(1,Qd .i64 1)] rfl _ (BN.out _) ?_))
    refine gvW hX JvN (λx81 hX=>?_);go_wp2_with (first
     |(refine asW hX twN svN rfl (aK _) (λv82 hX=>?_);generalize x81.heap.size=qn at hX|-)
     |(refine ldW 3 hX twN aen ?_)
     |(refine ldW 0 hX twN svN ?_))
    refine gvW hX JvNN (λx83 hX=>?_);go_wp2_with (first
     |(refine stW 0 hX twN svNN svN (aK _) (λv84 hX=>?_))
     |(refine ldW 3 hX twN aen ?_)
     |(refine ldW 2 hX twN svFF ?_))
    refine gvW hX JvA (λx85 hX=>?_);go_wp2_with (first
     |(refine stW 15 hX twN svA sla (aK _) (λv86 hX=>?_))
     |(refine ldW 1 hX twN svM ?_)
     |(refine ldW 0 hX twN svNN ?_))
    refine gvW hX JvB (λx87 hX=>?_);go_wp2_with (first
     |(refine stW 14 hX twN svB slb (aK _) (λv88 hX=>?_)))
    go_roundw
    case rel=>
     refine⟨k+1,by omega,by go_num,?_⟩;rw[HS.out];exact WD.sub hX (by repeat (first|exact Qg _|apply Qi))
    case measure=>simp[intOf]
  .have hk255:k=255:=by omega
   subst hk255;have hq0:(254:Int)-((255:Nat):Int)= -1:=by omega
   rw[hq0];clear HA HST;have gL:=HF.out 255;replace HE:=HE.out;generalize fq (fF KY) U 255=LL at HE gL hX;obtain⟨la,lb,lc,ld⟩:=LL;obtain⟨gla,glb,glc,gld⟩:=gL;dsimp only at gla glb glc gld hX HE;have sla:=Nz gla.1;have slb:=Nz glb.1;have slc:=Nz glc.1;have sld:=Nz gld.1;have gI:=j8 lb glb;have J1:Hid (Rv 85 #[Qa (Ns lb)] (Qa (Ns (fh lb)))):=λwx=>tS lb wx glb
   have sI:=Nz gI.1;generalize fh lb=vI at HE J1 gI sI;have gR:=aA la vI gla gI;have J2:Hid (Rv 84 #[Qa (Ns la),Qa (Ns vI)] (Qa (Ns (af la vI)))):=λwx=>gP la vI gla gI wx
   have sR:=Nz gR.1;generalize af la vI=vR at HE J2 gR sR;have J3:Hid (Rv 87 #[Qa (Ns vR)] (Qc ⟨(bF vR).toArray⟩)):=λwx=>IL vR gR wx
   rw[<-HE]at J3;clear gla glb glc gld gI gR HE;have svI:=sI;have svR:=sR;go_wp2_with (first
    |(refine ldW 2 hX twN slb ?_))
   refine gvW hX J1 (λx89 hX=>?_);go_wp2_with (first
    |(refine stW 2 hX twN svI slb (aK _) (λv90 hX=>?_))
    |(refine ldW 3 hX twN sla ?_)
    |(refine ldW 2 hX twN svI ?_))
   refine gvW hX J2 (λx91 hX=>?_);go_wp2_with (first
    |(refine stW 3 hX twN svR sla (aK _) (λv92 hX=>?_))
    |(refine ldW 3 hX twN svR ?_))
   refine gvW hX J3 (λx93 hX=>?_);have aei:=hX.below;go_wp2;go_ret;exact⟨rfl,aei⟩
end Go.Proofs.YtclpbaokadfhhaaGreatDoor
