import Derived.Test.YtclpbaokadfhhaaGreatDoorZi
set_option maxRecDepth 100000
set_option maxHeartbeats 40000000
namespace Go.Proofs.YtclpbaokadfhhaaGreatDoor
open Go.RowKit
namespace Rl
def key(s:ByteArray):ByteArray:=⟨(Rp.xh s.data.toList).toArray⟩
theorem key_size(s:ByteArray)(h:s.size=32):(key s).size=32:=by
 show(Rp.xh s.data.toList).toArray.size=32
 rw[List.size_toArray,Rp.xg];simpa using h
structure Ld where
 a:List Int
 b:List Int
 c:List Int
 d:List Int
def Fine(l:Ld):Prop:=Fd.Good l.a∧Fd.Good l.b∧Fd.Good l.c∧Fd.Good l.d
def swap(l:Ld):Ld:=⟨l.c,l.d,l.a,l.b⟩
def zv(u:List Int)(l:Ld):Ld:=⟨(Fd.by_ (Fd.by_ (Fd.plus l.a l.b) (Fd.plus l.a l.b)) (Fd.by_ (Fd.minus l.a l.b) (Fd.minus l.a l.b))),(Fd.by_ (Fd.minus (Fd.by_ (Fd.plus l.a l.b) (Fd.plus l.a l.b)) (Fd.by_ (Fd.minus l.a l.b) (Fd.minus l.a l.b))) (Fd.plus (Fd.by_ (Fd.plus l.a l.b) (Fd.plus l.a l.b)) (Fd.by_ (Fd.minus (Fd.by_ (Fd.plus l.a l.b) (Fd.plus l.a l.b)) (Fd.by_ (Fd.minus l.a l.b) (Fd.minus l.a l.b))) (Rp.xM 56129 1)))),(Fd.by_ (Fd.plus (Fd.by_ (Fd.minus l.c l.d) (Fd.plus l.a l.b)) (Fd.by_ (Fd.plus l.c l.d) (Fd.minus l.a l.b))) (Fd.plus (Fd.by_ (Fd.minus l.c l.d) (Fd.plus l.a l.b)) (Fd.by_ (Fd.plus l.c l.d) (Fd.minus l.a l.b)))),(Fd.by_ u (Fd.by_ (Fd.minus (Fd.by_ (Fd.minus l.c l.d) (Fd.plus l.a l.b)) (Fd.by_ (Fd.plus l.c l.d) (Fd.minus l.a l.b))) (Fd.minus (Fd.by_ (Fd.minus l.c l.d) (Fd.plus l.a l.b)) (Fd.by_ (Fd.plus l.c l.d) (Fd.minus l.a l.b)))))⟩
theorem Bg(U:List Int)(la lb lc ld:List Int):zv U ⟨la,lb,lc,ld⟩=⟨(Fd.by_ (Fd.by_ (Fd.plus la lb) (Fd.plus la lb)) (Fd.by_ (Fd.minus la lb) (Fd.minus la lb))),(Fd.by_ (Fd.minus (Fd.by_ (Fd.plus la lb) (Fd.plus la lb)) (Fd.by_ (Fd.minus la lb) (Fd.minus la lb))) (Fd.plus (Fd.by_ (Fd.plus la lb) (Fd.plus la lb)) (Fd.by_ (Fd.minus (Fd.by_ (Fd.plus la lb) (Fd.plus la lb)) (Fd.by_ (Fd.minus la lb) (Fd.minus la lb))) (Rp.xM 56129 1)))),(Fd.by_ (Fd.plus (Fd.by_ (Fd.minus lc ld) (Fd.plus la lb)) (Fd.by_ (Fd.plus lc ld) (Fd.minus la lb))) (Fd.plus (Fd.by_ (Fd.minus lc ld) (Fd.plus la lb)) (Fd.by_ (Fd.plus lc ld) (Fd.minus la lb)))),(Fd.by_ U (Fd.by_ (Fd.minus (Fd.by_ (Fd.minus lc ld) (Fd.plus la lb)) (Fd.by_ (Fd.plus lc ld) (Fd.minus la lb))) (Fd.minus (Fd.by_ (Fd.minus lc ld) (Fd.plus la lb)) (Fd.by_ (Fd.plus lc ld) (Fd.minus la lb)))))⟩:=by unfold zv;dsimp only
def rung(t:Bool)(u:List Int)(l:Ld):Ld:=if t then swap (zv u (swap l))else zv u l
def bitf(s:ByteArray)(i:Nat):Bool:=byt s (i/8)/2^(i%8)%2==1
def uQ(f:Nat→Bool)(u:List Int):Nat→Ld
 |0=>⟨Fd.small 1,Fd.small 0,u,Fd.small 1⟩
 |k+1=>rung (f (255 - 1 - k)) u (uQ f u k)
def last(s p:ByteArray):Ld:=uQ (bitf (Rl.key s)) (Fd.num p) 255
def xA(s p:ByteArray):List Int:=Fd.by_ (last s p).a (Fd.inv (last s p).b)
theorem swap_fine{l:Ld}(h:Fine l):Fine (swap l):=⟨h.2.2.1,h.2.2.2,h.1,h.2.1⟩
theorem N_good:Fd.Good (Rp.xM 56129 1):=Rp.yC 56129 1 (by omega) (by omega)
theorem stepped_fine{u:List Int}{l:Ld}(hu:Fd.Good u)(h:Fine l):Fine (zv u l):=by
 have e:=Fd.tS _ _ h.1 h.2.1;have f:=Fd.tO _ _ h.1 h.2.1;have g:=Fd.tS _ _ h.2.2.1 h.2.2.2;have hh:=Fd.tO _ _ h.2.2.1 h.2.2.2;have he:=Fd.tN _ _ hh e;have gf:=Fd.tN _ _ g f;have x:=Fd.tS _ _ he gf;have y:=Fd.tO _ _ he gf;have ee:=Fd.tN _ _ e e;have ff:=Fd.tN _ _ f f;have m:=Fd.tO _ _ ee ff;unfold Fine zv;dsimp only;exact⟨Fd.tN _ _ ee ff,Fd.tN _ _ m (Fd.tS _ _ ee (Fd.tN _ _ m N_good)),Fd.tN _ _ x x,Fd.tN _ _ hu (Fd.tN _ _ y y)⟩
theorem rung_fine{t:Bool}{u:List Int}{l:Ld}(hu:Fd.Good u)(h:Fine l):Fine (rung t u l):=by
 unfold rung;split
 ·exact swap_fine (stepped_fine hu (swap_fine h))
 ·exact stepped_fine hu h
theorem small_ok:Fd.Good (Fd.small 0)∧Fd.Good (Fd.small 1):=⟨Fd.vu 0 (by omega) (by omega),Fd.vu 1 (by omega) (by omega)⟩
theorem zl(f:Nat→Bool){u:List Int}(hu:Fd.Good u): ∀k,Fine (uQ f u k)
 |0=>⟨small_ok.2,small_ok.1,hu,small_ok.2⟩
 |k+1=>rung_fine hu (zl f hu k)
theorem num_good(p:ByteArray):Fd.Good (Fd.num p):=Fd.Norm.good (Fd.zc p)
end Rl
theorem kh(s p:ByteArray)(hs:s.size=32)(hp:p.size=32)(w:World):
  Rw 74 #[.string s,.string p] w (.string ⟨(Fd.told (Rl.xA s p)).toArray⟩):=by
 have hz:=bC;have hu:=Rl.num_good p;have H0:Hid (Rv 38 #[.string s] (.string (Rl.key s))):=fun wx=>fu s wx hs
 have H1:Hid (Rv 139 #[.string p] (.agg (Ns (Fd.num p)))):=fun wx=>gZ p wx hp
 have HA:Hid (∀k,Rl.uQ (Rl.bitf (Rl.key s)) (Fd.num p) (k+1)=Rl.rung (Rl.bitf (Rl.key s) (255 - 1 - k)) (Fd.num p) (Rl.uQ (Rl.bitf (Rl.key s)) (Fd.num p) k)):=fun _=>rfl
 have HF:Hid (∀k,Rl.Fine (Rl.uQ (Rl.bitf (Rl.key s)) (Fd.num p) k)):=Rl.zl _ hu;have HE:Hid (Fd.told (Rl.xA s p)=Fd.told (Fd.by_ (Rl.uQ (Rl.bitf (Rl.key s)) (Fd.num p) 255).a (Fd.inv (Rl.uQ (Rl.bitf (Rl.key s)) (Fd.num p) 255).b))):=rfl;have H00:Hid (Rl.uQ (Rl.bitf (Rl.key s)) (Fd.num p) 0=⟨Fd.small 1,Fd.small 0,Fd.num p,Fd.small 1⟩):=rfl;have hks:(Rl.key s).size=32:=Rl.key_size s hs;generalize Fd.told (Rl.xA s p)=RR at HE⊢;generalize Rl.key s=KY at H0 HA HF HE H00 hks;generalize Fd.num p=U at H1 HA HF HE H00 hu;have sU:=Nz hu.1;have H3:Hid (Rv 81 #[.int .i64 0] (.agg (Ns (Fd.small 0)))):=fun wx=>bj 0 wx
 have H4:Hid (Rv 81 #[.int .i64 1] (.agg (Ns (Fd.small 1)))):=fun wx=>bj 1 wx
 have sO0:(Ns (Fd.small 0)).size=16:=rfl;have sO1:(Ns (Fd.small 1)).size=16:=rfl;generalize Fd.small 0=O0 at H3 H00 sO0;generalize Fd.small 1=O1 at H4 H00 sO1;have BN:Hid (∀wx:World,(Instr.build 59 #[(0,.int .i64 56129),(1,.int .i64 1)]).run Tryz.prog wx= .ok (.agg (Ns (Rp.xM 56129 1))) wx):=Rp.xV _ _;have gN:=Rl.N_good;have HST:Hid (∀la lb lc ld,Rl.zv U ⟨la,lb,lc,ld⟩=⟨(Fd.by_ (Fd.by_ (Fd.plus la lb) (Fd.plus la lb)) (Fd.by_ (Fd.minus la lb) (Fd.minus la lb))),(Fd.by_ (Fd.minus (Fd.by_ (Fd.plus la lb) (Fd.plus la lb)) (Fd.by_ (Fd.minus la lb) (Fd.minus la lb))) (Fd.plus (Fd.by_ (Fd.plus la lb) (Fd.plus la lb)) (Fd.by_ (Fd.minus (Fd.by_ (Fd.plus la lb) (Fd.plus la lb)) (Fd.by_ (Fd.minus la lb) (Fd.minus la lb))) (Rp.xM 56129 1)))),(Fd.by_ (Fd.plus (Fd.by_ (Fd.minus lc ld) (Fd.plus la lb)) (Fd.by_ (Fd.plus lc ld) (Fd.minus la lb))) (Fd.plus (Fd.by_ (Fd.minus lc ld) (Fd.plus la lb)) (Fd.by_ (Fd.plus lc ld) (Fd.minus la lb)))),(Fd.by_ U (Fd.by_ (Fd.minus (Fd.by_ (Fd.minus lc ld) (Fd.plus la lb)) (Fd.by_ (Fd.plus lc ld) (Fd.minus la lb))) (Fd.minus (Fd.by_ (Fd.minus lc ld) (Fd.plus la lb)) (Fd.by_ (Fd.plus lc ld) (Fd.minus la lb)))))⟩):=Rl.Bg U;generalize Rp.xM 56129 1=NN at BN gN HST;replace gN:Hid (Fd.Good NN):=gN;have hX:WD w w.heap.size [] w:=WD.start;replace hu:Hid (Fd.Good U):=hu;replace hs:Hid (s.size=32):=hs;replace hp:Hid (p.size=32):=hp;go_enter Tryz.func74,Tryz.ntmps74;go_wp2_with fail;refine gv H0 fun x1 k1=> ?_
 replace hX:=hX.keep k1;clear k1;go_wp2_with fail;refine gv H1 fun x2 k2=> ?_
 replace hX:=hX.keep k2;clear k2;have hN:=hX.new (Ns Fd.zN) 59;have g3:=hN.gt 0 rfl;replace hX:WD w (w.heap.size) [(x2.heap.size,Ns U,59)] ((x2.alloc (.cells (Ns Fd.zN) 59)).setRow x2.heap.size (Ns U)):=hN.over 0 rfl (Ns U);go_wp2_with (first
  |(refine stN rfl rfl x2.heap.size rfl rfl g3 sU rfl ?_))
 clear hN g3;generalize (x2.alloc (.cells (Ns Fd.zN) 59)).setRow x2.heap.size (Ns U)=v4 at hX⊢;generalize x2.heap.size=qu at hX⊢;refine gv H4 fun x5 k5=> ?_
 replace hX:=hX.keep k5;clear k5;have hN:=hX.new (Ns Fd.zN) 59;have g6:=hN.gt 0 rfl;replace hX:WD w (w.heap.size) [(x5.heap.size,Ns O1,59),(qu,Ns U,59)] ((x5.alloc (.cells (Ns Fd.zN) 59)).setRow x5.heap.size (Ns O1)):=hN.over 0 rfl (Ns O1);go_wp2_with (first
  |(refine stN rfl rfl x5.heap.size rfl rfl g6 sO1 rfl ?_))
 clear hN g6;generalize (x5.alloc (.cells (Ns Fd.zN) 59)).setRow x5.heap.size (Ns O1)=v7 at hX⊢;generalize x5.heap.size=qa at hX⊢;refine gv H3 fun x8 k8=> ?_
 replace hX:=hX.keep k8;clear k8;have hN:=hX.new (Ns Fd.zN) 59;have y1:=hN.gt 0 rfl;replace hX:WD w (w.heap.size) [(x8.heap.size,Ns O0,59),(qa,Ns O1,59),(qu,Ns U,59)] ((x8.alloc (.cells (Ns Fd.zN) 59)).setRow x8.heap.size (Ns O0)):=hN.over 0 rfl (Ns O0);clear hN;have y2:=hX.gt 2 rfl;have hN:=hX.new (Ns Fd.zN) 59;rw[show ((x8.alloc (.cells (Ns Fd.zN) 59)).setRow x8.heap.size (Ns O0)).heap.size=x8.heap.size+1 by rw[size_setRow,Rp.uE]]at hN;have y3:=hN.gt 0 rfl;replace hX:WD w (w.heap.size) [(x8.heap.size+1,Ns U,59),(x8.heap.size,Ns O0,59),(qa,Ns O1,59),(qu,Ns U,59)] ((((x8.alloc (.cells (Ns Fd.zN) 59)).setRow x8.heap.size (Ns O0)).alloc (.cells (Ns Fd.zN) 59)).setRow (x8.heap.size+1) (Ns U)):=hN.over 0 rfl (Ns U);clear hN;go_wp2_with (first
  |(refine stN rfl rfl (x8.heap.size) rfl rfl y1 sO0 rfl ?_)
  |(refine ldN rfl rfl (qu) rfl y2 sU ?_)
  |(refine stN rfl rfl (x8.heap.size+1) rfl rfl y3 sU rfl ?_))
 clear y1 y2 y3;generalize (((x8.alloc (.cells (Ns Fd.zN) 59)).setRow x8.heap.size (Ns O0)).alloc (.cells (Ns Fd.zN) 59)).setRow (x8.heap.size+1) (Ns U)=vv at hX⊢;generalize hqb:x8.heap.size=qb at hX⊢;clear hqb;generalize hqc:qb+1=qc at hX⊢;clear hqc;refine gv H4 fun x9 k9=> ?_
 replace hX:=hX.keep k9;clear k9;have hN:=hX.new (Ns Fd.zN) 59;have g10:=hN.gt 0 rfl;replace hX:WD w (w.heap.size) [(x9.heap.size,Ns O1,59),(qc,Ns U,59),(qb,Ns O0,59),(qa,Ns O1,59),(qu,Ns U,59)] ((x9.alloc (.cells (Ns Fd.zN) 59)).setRow x9.heap.size (Ns O1)):=hN.over 0 rfl (Ns O1);go_wp2_with (first
  |(refine stN rfl rfl x9.heap.size rfl rfl g10 sO1 rfl ?_))
 clear hN g10;generalize (x9.alloc (.cells (Ns Fd.zN) 59)).setRow x9.heap.size (Ns O1)=v11 at hX⊢;generalize x9.heap.size=qd at hX⊢;clear H0 H1 H3 H4 sO0 sO1;go_loopw [11] (fun q wr=> ∃k:Nat,k≤255∧q= .int .i64 (254 - (k:Int))∧WD w (w.heap.size) [(qd,Ns (Rl.uQ (Rl.bitf KY) U k).d,59),(qc,Ns (Rl.uQ (Rl.bitf KY) U k).c,59),(qb,Ns (Rl.uQ (Rl.bitf KY) U k).b,59),(qa,Ns (Rl.uQ (Rl.bitf KY) U k).a,59),(qu,Ns U,59)] wr) (fun q _=>(intOf q+1).toNat)
 case atStart=>exact⟨0,by omega,rfl,by rw[H00.out];exact hX⟩
 case round=>
  clear hX H00;obtain⟨k,hk,rfl,hX⟩:=hrel;by_cases hlt:k<255
  ·have HS:=HA.out k;have gL:=HF.out k;clear HE HF;have hj:(254:Int) - (k:Int)=((255 - 1 - k:Nat):Int):=by omega
   rw[hj];have BX:Hid (∀wx:World,Calls Tryz.prog 83 #[.string KY,.int .i64 ((255 - 1 - k:Nat):Int)] wx fun e w'=>e= .returned (.int .i64 (byt KY ((255 - 1 - k)/8)/2^((255 - 1 - k)%8)%2))∧w'=wx):=fun wx=>fP KY (255 - 1 - k) wx (by omega) (by omega)
   have hbf:Rl.bitf KY (255 - 1 - k)=(byt KY ((255 - 1 - k)/8)/2^((255 - 1 - k)%8)%2==1):=rfl;rw[hbf]at HS;clear hbf;generalize byt KY ((255 - 1 - k)/8)/2^((255 - 1 - k)%8)%2=bt at BX HS;have hjk:Hid (255 - 1 - k+k=254):=(by omega:255 - 1 - k+k=254);generalize 255 - 1 - k=j at hj BX hjk⊢;have i0:(0:Int)≤(j:Int):=by omega
   have j1:(j:Int)≤254:=by omega
   replace HS:Hid (Rl.uQ (Rl.bitf KY) U (k+1)=Rl.rung (bt==1) U (Rl.uQ (Rl.bitf KY) U k)):=HS;generalize Rl.uQ (Rl.bitf KY) U k=LL at HS gL hX;obtain⟨la,lb,lc,ld⟩:=LL;obtain⟨gla,glb,glc,gld⟩:=gL;dsimp only at gla glb glc gld hX;have sla:=Nz gla.1;have slb:=Nz glb.1;have slc:=Nz glc.1;have sld:=Nz gld.1;skip;by_cases hb1:bt=1
   ·have db:(bt==1)=true:=by rw[beq_iff_eq];exact hb1
    have HT:=HST.out lc ld la lb;replace HS:=HS.out;rw[db]at HS;replace HS:Rl.uQ (Rl.bitf KY) U (k+1)=Rl.swap (Rl.zv U ⟨lc,ld,la,lb⟩):=HS;rw[HT]at HS;clear HT HST;replace hb1:Hid (bt=1):=hb1;have gvE:=Fd.tS lc ld glc gld;have JvE:Hid (Rv 80 #[.agg (Ns lc),.agg (Ns ld)] (.agg (Ns (Fd.plus lc ld)))):=fun wx=>bE lc ld glc gld wx
    have svE:=Nz gvE.1;generalize Fd.plus lc ld=vE at gvE JvE svE HS;have gvF:=Fd.tO lc ld glc gld;have JvF:Hid (Rv 140 #[.agg (Ns lc),.agg (Ns ld)] (.agg (Ns (Fd.minus lc ld)))):=fun wx=>aR lc ld glc gld wx
    have svF:=Nz gvF.1;generalize Fd.minus lc ld=vF at gvF JvF svF HS;have gvG:=Fd.tS la lb gla glb;have JvG:Hid (Rv 80 #[.agg (Ns la),.agg (Ns lb)] (.agg (Ns (Fd.plus la lb)))):=fun wx=>bE la lb gla glb wx
    have svG:=Nz gvG.1;generalize Fd.plus la lb=vG at gvG JvG svG HS;have gvH:=Fd.tO la lb gla glb;have JvH:Hid (Rv 140 #[.agg (Ns la),.agg (Ns lb)] (.agg (Ns (Fd.minus la lb)))):=fun wx=>aR la lb gla glb wx
    have svH:=Nz gvH.1;generalize Fd.minus la lb=vH at gvH JvH svH HS;have Ck:=Fd.tN vH vE gvH gvE;have JvHE:Hid (Rv 84 #[.agg (Ns vH),.agg (Ns vE)] (.agg (Ns (Fd.by_ vH vE)))):=fun wx=>aI vH vE gvH gvE wx
    have svHE:=Nz Ck.1;generalize Fd.by_ vH vE=vHE at Ck JvHE svHE HS;have Ci:=Fd.tN vG vF gvG gvF;have JvGF:Hid (Rv 84 #[.agg (Ns vG),.agg (Ns vF)] (.agg (Ns (Fd.by_ vG vF)))):=fun wx=>aI vG vF gvG gvF wx
    have svGF:=Nz Ci.1;generalize Fd.by_ vG vF=vGF at Ci JvGF svGF HS;have gvX:=Fd.tS vHE vGF Ck Ci;have JvX:Hid (Rv 80 #[.agg (Ns vHE),.agg (Ns vGF)] (.agg (Ns (Fd.plus vHE vGF)))):=fun wx=>bE vHE vGF Ck Ci wx
    have svX:=Nz gvX.1;generalize Fd.plus vHE vGF=vX at gvX JvX svX HS;have gvY:=Fd.tO vHE vGF Ck Ci;have JvY:Hid (Rv 140 #[.agg (Ns vHE),.agg (Ns vGF)] (.agg (Ns (Fd.minus vHE vGF)))):=fun wx=>aR vHE vGF Ck Ci wx
    have svY:=Nz gvY.1;generalize Fd.minus vHE vGF=vY at gvY JvY svY HS;have gvC:=Fd.tN vX vX gvX gvX;have JvC:Hid (Rv 84 #[.agg (Ns vX),.agg (Ns vX)] (.agg (Ns (Fd.by_ vX vX)))):=fun wx=>aI vX vX gvX gvX wx
    have svC:=Nz gvC.1;generalize Fd.by_ vX vX=vC at gvC JvC svC HS;have Cy:=Fd.tN vY vY gvY gvY;have JvYY:Hid (Rv 84 #[.agg (Ns vY),.agg (Ns vY)] (.agg (Ns (Fd.by_ vY vY)))):=fun wx=>aI vY vY gvY gvY wx
    have svYY:=Nz Cy.1;generalize Fd.by_ vY vY=vYY at Cy JvYY svYY HS;have gvD:=Fd.tN U vYY hu.out Cy;have JvD:Hid (Rv 84 #[.agg (Ns U),.agg (Ns vYY)] (.agg (Ns (Fd.by_ U vYY)))):=fun wx=>aI U vYY hu.out Cy wx
    have svD:=Nz gvD.1;generalize Fd.by_ U vYY=vD at gvD JvD svD HS;have Ce:=Fd.tN vE vE gvE gvE;have JvEE:Hid (Rv 84 #[.agg (Ns vE),.agg (Ns vE)] (.agg (Ns (Fd.by_ vE vE)))):=fun wx=>aI vE vE gvE gvE wx
    have Cu:=Nz Ce.1;generalize Fd.by_ vE vE=vEE at Ce JvEE Cu HS;have Cl:=Fd.tN vF vF gvF gvF;have JvFF:Hid (Rv 84 #[.agg (Ns vF),.agg (Ns vF)] (.agg (Ns (Fd.by_ vF vF)))):=fun wx=>aI vF vF gvF gvF wx
    have svFF:=Nz Cl.1;generalize Fd.by_ vF vF=vFF at Cl JvFF svFF HS;have gvM:=Fd.tO vEE vFF Ce Cl;have JvM:Hid (Rv 140 #[.agg (Ns vEE),.agg (Ns vFF)] (.agg (Ns (Fd.minus vEE vFF)))):=fun wx=>aR vEE vFF Ce Cl wx
    have svM:=Nz gvM.1;generalize Fd.minus vEE vFF=vM at gvM JvM svM HS;have gvN:=Fd.tN vM NN gvM gN.out;have JvN:Hid (Rv 84 #[.agg (Ns vM),.agg (Ns NN)] (.agg (Ns (Fd.by_ vM NN)))):=fun wx=>aI vM NN gvM gN.out wx
    have svN:=Nz gvN.1;generalize Fd.by_ vM NN=vN at gvN JvN svN HS;have Cx:=Fd.tS vEE vN Ce gvN;have JvNN:Hid (Rv 80 #[.agg (Ns vEE),.agg (Ns vN)] (.agg (Ns (Fd.plus vEE vN)))):=fun wx=>bE vEE vN Ce gvN wx
    have svNN:=Nz Cx.1;generalize Fd.plus vEE vN=vNN at Cx JvNN svNN HS;have gvA:=Fd.tN vEE vFF Ce Cl;have JvA:Hid (Rv 84 #[.agg (Ns vEE),.agg (Ns vFF)] (.agg (Ns (Fd.by_ vEE vFF)))):=fun wx=>aI vEE vFF Ce Cl wx
    have svA:=Nz gvA.1;generalize Fd.by_ vEE vFF=vA at gvA JvA svA HS;have gvB:=Fd.tN vM vNN gvM Cx;have JvB:Hid (Rv 84 #[.agg (Ns vM),.agg (Ns vNN)] (.agg (Ns (Fd.by_ vM vNN)))):=fun wx=>aI vM vNN gvM Cx wx
    have svB:=Nz gvB.1;generalize Fd.by_ vM vNN=vB at gvB JvB svB HS;clear gla glb glc gld gvE gvF gvG gvH Ck Ci gvX gvY gvC Cy gvD Ce Cl gvM gvN Cx gvA gvB;replace HS:Hid (Rl.uQ (Rl.bitf KY) U (k+1)=⟨vC,vD,vA,vB⟩):=HS;go_wp2_with fail;refine(BX.out _).mono ?_;rintro e xb ⟨rfl,hxb⟩;rw[hxb];clear hxb xb;have g12:=hX.gt 1 rfl;have g13:=hX.gt 3 rfl;have g14:=hX.gt 3 rfl;go_wp2_with (first
     |(refine ldN rfl rfl (qc) rfl g12 slc ?_)
     |(refine ldN rfl rfl (qa) rfl g13 sla ?_)
     |(refine stN rfl rfl (qa) rfl rfl g14 slc sla ?_;replace hX:WD w (w.heap.size) [(qd,Ns ld,59),(qc,Ns lc,59),(qb,Ns lb,59),(qa,Ns lc,59),(qu,Ns U,59)] (wr.setRow (qa) (Ns lc)):=hX.over 3 rfl (Ns lc);clear g12 g13 g14;generalize wr.setRow (qa) (Ns lc)=v15 at hX⊢;have g16:=hX.gt 1 rfl)
     |(refine stN rfl rfl (qc) rfl rfl g16 sla slc ?_;replace hX:WD w (w.heap.size) [(qd,Ns ld,59),(qc,Ns la,59),(qb,Ns lb,59),(qa,Ns lc,59),(qu,Ns U,59)] (v15.setRow (qc) (Ns la)):=hX.over 1 rfl (Ns la);clear g16;generalize v15.setRow (qc) (Ns la)=v17 at hX⊢;have g18:=hX.gt 0 rfl;have g19:=hX.gt 2 rfl;have g20:=hX.gt 2 rfl)
     |(refine ldN rfl rfl (qd) rfl g18 sld ?_)
     |(refine ldN rfl rfl (qb) rfl g19 slb ?_)
     |(refine stN rfl rfl (qb) rfl rfl g20 sld slb ?_;replace hX:WD w (w.heap.size) [(qd,Ns ld,59),(qc,Ns la,59),(qb,Ns ld,59),(qa,Ns lc,59),(qu,Ns U,59)] (v17.setRow (qb) (Ns ld)):=hX.over 2 rfl (Ns ld);clear g18 g19 g20;generalize v17.setRow (qb) (Ns ld)=v21 at hX⊢;have g22:=hX.gt 0 rfl)
     |(refine stN rfl rfl (qd) rfl rfl g22 slb sld ?_;replace hX:WD w (w.heap.size) [(qd,Ns lb,59),(qc,Ns la,59),(qb,Ns ld,59),(qa,Ns lc,59),(qu,Ns U,59)] (v21.setRow (qd) (Ns lb)):=hX.over 0 rfl (Ns lb);clear g22;generalize v21.setRow (qd) (Ns lb)=v23 at hX⊢;have g24:=hX.gt 3 rfl;have g25:=hX.gt 2 rfl)
     |(refine ldN rfl rfl (qa) rfl g24 slc ?_)
     |(refine ldN rfl rfl (qb) rfl g25 sld ?_))
    clear g24 g25;refine gv JvE fun x26 k26=> ?_
    replace hX:=hX.keep k26;clear k26;have hN:=hX.new (Ns Fd.zN) 59;have g27:=hN.gt 0 rfl;go_wp2_with (first
     |(refine stN rfl rfl (x26.heap.size) rfl rfl g27 svE rfl ?_;replace hX:WD w (w.heap.size) [(x26.heap.size,Ns vE,59),(qd,Ns lb,59),(qc,Ns la,59),(qb,Ns ld,59),(qa,Ns lc,59),(qu,Ns U,59)] ((x26.alloc (.cells (Ns Fd.zN) 59)).setRow x26.heap.size (Ns vE)):=hN.over 0 rfl (Ns vE);clear g27 hN;generalize (x26.alloc (.cells (Ns Fd.zN) 59)).setRow x26.heap.size (Ns vE)=v28 at hX⊢;generalize x26.heap.size=qe at hX⊢;have g29:=hX.gt 4 rfl;have g30:=hX.gt 3 rfl)
     |(refine ldN rfl rfl (qa) rfl g29 slc ?_)
     |(refine ldN rfl rfl (qb) rfl g30 sld ?_))
    clear g29 g30;refine gv JvF fun x31 k31=> ?_
    replace hX:=hX.keep k31;clear k31;have hN:=hX.new (Ns Fd.zN) 59;have g32:=hN.gt 0 rfl;go_wp2_with (first
     |(refine stN rfl rfl (x31.heap.size) rfl rfl g32 svF rfl ?_;replace hX:WD w (w.heap.size) [(x31.heap.size,Ns vF,59),(qe,Ns vE,59),(qd,Ns lb,59),(qc,Ns la,59),(qb,Ns ld,59),(qa,Ns lc,59),(qu,Ns U,59)] ((x31.alloc (.cells (Ns Fd.zN) 59)).setRow x31.heap.size (Ns vF)):=hN.over 0 rfl (Ns vF);clear g32 hN;generalize (x31.alloc (.cells (Ns Fd.zN) 59)).setRow x31.heap.size (Ns vF)=v33 at hX⊢;generalize x31.heap.size=qf at hX⊢;have g34:=hX.gt 3 rfl;have g35:=hX.gt 2 rfl)
     |(refine ldN rfl rfl (qc) rfl g34 sla ?_)
     |(refine ldN rfl rfl (qd) rfl g35 slb ?_))
    clear g34 g35;refine gv JvG fun x36 k36=> ?_
    replace hX:=hX.keep k36;clear k36;have hN:=hX.new (Ns Fd.zN) 59;have g37:=hN.gt 0 rfl;go_wp2_with (first
     |(refine stN rfl rfl (x36.heap.size) rfl rfl g37 svG rfl ?_;replace hX:WD w (w.heap.size) [(x36.heap.size,Ns vG,59),(qf,Ns vF,59),(qe,Ns vE,59),(qd,Ns lb,59),(qc,Ns la,59),(qb,Ns ld,59),(qa,Ns lc,59),(qu,Ns U,59)] ((x36.alloc (.cells (Ns Fd.zN) 59)).setRow x36.heap.size (Ns vG)):=hN.over 0 rfl (Ns vG);clear g37 hN;generalize (x36.alloc (.cells (Ns Fd.zN) 59)).setRow x36.heap.size (Ns vG)=v38 at hX⊢;generalize x36.heap.size=qg at hX⊢;have g39:=hX.gt 4 rfl;have g40:=hX.gt 3 rfl)
     |(refine ldN rfl rfl (qc) rfl g39 sla ?_)
     |(refine ldN rfl rfl (qd) rfl g40 slb ?_))
    clear g39 g40;refine gv JvH fun x41 k41=> ?_
    replace hX:=hX.keep k41;clear k41;have hN:=hX.new (Ns Fd.zN) 59;have g42:=hN.gt 0 rfl;go_wp2_with (first
     |(refine stN rfl rfl (x41.heap.size) rfl rfl g42 svH rfl ?_;replace hX:WD w (w.heap.size) [(x41.heap.size,Ns vH,59),(qg,Ns vG,59),(qf,Ns vF,59),(qe,Ns vE,59),(qd,Ns lb,59),(qc,Ns la,59),(qb,Ns ld,59),(qa,Ns lc,59),(qu,Ns U,59)] ((x41.alloc (.cells (Ns Fd.zN) 59)).setRow x41.heap.size (Ns vH)):=hN.over 0 rfl (Ns vH);clear g42 hN;generalize (x41.alloc (.cells (Ns Fd.zN) 59)).setRow x41.heap.size (Ns vH)=v43 at hX⊢;generalize x41.heap.size=qh at hX⊢;have g44:=hX.gt 0 rfl;have g45:=hX.gt 3 rfl)
     |(refine ldN rfl rfl (qh) rfl g44 svH ?_)
     |(refine ldN rfl rfl (qe) rfl g45 svE ?_))
    clear g44 g45;refine gv JvHE fun x46 k46=> ?_
    replace hX:=hX.keep k46;clear k46;have hN:=hX.new (Ns Fd.zN) 59;have g47:=hN.gt 0 rfl;go_wp2_with (first
     |(refine stN rfl rfl (x46.heap.size) rfl rfl g47 svHE rfl ?_;replace hX:WD w (w.heap.size) [(x46.heap.size,Ns vHE,59),(qh,Ns vH,59),(qg,Ns vG,59),(qf,Ns vF,59),(qe,Ns vE,59),(qd,Ns lb,59),(qc,Ns la,59),(qb,Ns ld,59),(qa,Ns lc,59),(qu,Ns U,59)] ((x46.alloc (.cells (Ns Fd.zN) 59)).setRow x46.heap.size (Ns vHE)):=hN.over 0 rfl (Ns vHE);clear g47 hN;generalize (x46.alloc (.cells (Ns Fd.zN) 59)).setRow x46.heap.size (Ns vHE)=v48 at hX⊢;generalize x46.heap.size=qhe at hX⊢;have g49:=hX.gt 2 rfl;have g50:=hX.gt 3 rfl)
     |(refine ldN rfl rfl (qg) rfl g49 svG ?_)
     |(refine ldN rfl rfl (qf) rfl g50 svF ?_))
    clear g49 g50;refine gv JvGF fun x51 k51=> ?_
    replace hX:=hX.keep k51;clear k51;have hN:=hX.new (Ns Fd.zN) 59;have g52:=hN.gt 0 rfl;go_wp2_with (first
     |(refine stN rfl rfl (x51.heap.size) rfl rfl g52 svGF rfl ?_;replace hX:WD w (w.heap.size) [(x51.heap.size,Ns vGF,59),(qhe,Ns vHE,59),(qh,Ns vH,59),(qg,Ns vG,59),(qf,Ns vF,59),(qe,Ns vE,59),(qd,Ns lb,59),(qc,Ns la,59),(qb,Ns ld,59),(qa,Ns lc,59),(qu,Ns U,59)] ((x51.alloc (.cells (Ns Fd.zN) 59)).setRow x51.heap.size (Ns vGF)):=hN.over 0 rfl (Ns vGF);clear g52 hN;generalize (x51.alloc (.cells (Ns Fd.zN) 59)).setRow x51.heap.size (Ns vGF)=v53 at hX⊢;generalize x51.heap.size=qgf at hX⊢;have g54:=hX.gt 1 rfl;have g55:=hX.gt 0 rfl)
     |(refine ldN rfl rfl (qhe) rfl g54 svHE ?_)
     |(refine ldN rfl rfl (qgf) rfl g55 svGF ?_))
    clear g54 g55;refine gv JvX fun x56 k56=> ?_
    replace hX:=hX.keep k56;clear k56;have hN:=hX.new (Ns Fd.zN) 59;have g57:=hN.gt 0 rfl;go_wp2_with (first
     |(refine stN rfl rfl (x56.heap.size) rfl rfl g57 svX rfl ?_;replace hX:WD w (w.heap.size) [(x56.heap.size,Ns vX,59),(qgf,Ns vGF,59),(qhe,Ns vHE,59),(qh,Ns vH,59),(qg,Ns vG,59),(qf,Ns vF,59),(qe,Ns vE,59),(qd,Ns lb,59),(qc,Ns la,59),(qb,Ns ld,59),(qa,Ns lc,59),(qu,Ns U,59)] ((x56.alloc (.cells (Ns Fd.zN) 59)).setRow x56.heap.size (Ns vX)):=hN.over 0 rfl (Ns vX);clear g57 hN;generalize (x56.alloc (.cells (Ns Fd.zN) 59)).setRow x56.heap.size (Ns vX)=v58 at hX⊢;generalize x56.heap.size=qx at hX⊢;have g59:=hX.gt 2 rfl;have g60:=hX.gt 1 rfl)
     |(refine ldN rfl rfl (qhe) rfl g59 svHE ?_)
     |(refine ldN rfl rfl (qgf) rfl g60 svGF ?_))
    clear g59 g60;refine gv JvY fun x61 k61=> ?_
    replace hX:=hX.keep k61;clear k61;have hN:=hX.new (Ns Fd.zN) 59;have g62:=hN.gt 0 rfl;go_wp2_with (first
     |(refine stN rfl rfl (x61.heap.size) rfl rfl g62 svY rfl ?_;replace hX:WD w (w.heap.size) [(x61.heap.size,Ns vY,59),(qx,Ns vX,59),(qgf,Ns vGF,59),(qhe,Ns vHE,59),(qh,Ns vH,59),(qg,Ns vG,59),(qf,Ns vF,59),(qe,Ns vE,59),(qd,Ns lb,59),(qc,Ns la,59),(qb,Ns ld,59),(qa,Ns lc,59),(qu,Ns U,59)] ((x61.alloc (.cells (Ns Fd.zN) 59)).setRow x61.heap.size (Ns vY)):=hN.over 0 rfl (Ns vY);clear g62 hN;generalize (x61.alloc (.cells (Ns Fd.zN) 59)).setRow x61.heap.size (Ns vY)=v63 at hX⊢;generalize x61.heap.size=qy at hX⊢;have g64:=hX.gt 1 rfl)
     |(refine ldN rfl rfl (qx) rfl g64 svX ?_))
    clear g64;refine gv JvC fun x65 k65=> ?_
    replace hX:=hX.keep k65;clear k65;have g66:=hX.gt 9 rfl;go_wp2_with (first
     |(refine stN rfl rfl (qc) rfl rfl g66 svC sla ?_;replace hX:WD w (w.heap.size) [(qy,Ns vY,59),(qx,Ns vX,59),(qgf,Ns vGF,59),(qhe,Ns vHE,59),(qh,Ns vH,59),(qg,Ns vG,59),(qf,Ns vF,59),(qe,Ns vE,59),(qd,Ns lb,59),(qc,Ns vC,59),(qb,Ns ld,59),(qa,Ns lc,59),(qu,Ns U,59)] (x65.setRow (qc) (Ns vC)):=hX.over 9 rfl (Ns vC);clear g66;generalize x65.setRow (qc) (Ns vC)=v67 at hX⊢;have g68:=hX.gt 0 rfl)
     |(refine ldN rfl rfl (qy) rfl g68 svY ?_))
    clear g68;refine gv JvYY fun x69 k69=> ?_
    replace hX:=hX.keep k69;clear k69;have g70:=hX.gt 0 rfl;go_wp2_with (first
     |(refine stN rfl rfl (qy) rfl rfl g70 svYY svY ?_;replace hX:WD w (w.heap.size) [(qy,Ns vYY,59),(qx,Ns vX,59),(qgf,Ns vGF,59),(qhe,Ns vHE,59),(qh,Ns vH,59),(qg,Ns vG,59),(qf,Ns vF,59),(qe,Ns vE,59),(qd,Ns lb,59),(qc,Ns vC,59),(qb,Ns ld,59),(qa,Ns lc,59),(qu,Ns U,59)] (x69.setRow (qy) (Ns vYY)):=hX.over 0 rfl (Ns vYY);clear g70;generalize x69.setRow (qy) (Ns vYY)=v71 at hX⊢;have g72:=hX.gt 12 rfl;have g73:=hX.gt 0 rfl)
     |(refine ldN rfl rfl (qu) rfl g72 sU ?_)
     |(refine ldN rfl rfl (qy) rfl g73 svYY ?_))
    clear g72 g73;refine gv JvD fun x74 k74=> ?_
    replace hX:=hX.keep k74;clear k74;have g75:=hX.gt 8 rfl;go_wp2_with (first
     |(refine stN rfl rfl (qd) rfl rfl g75 svD slb ?_;replace hX:WD w (w.heap.size) [(qy,Ns vYY,59),(qx,Ns vX,59),(qgf,Ns vGF,59),(qhe,Ns vHE,59),(qh,Ns vH,59),(qg,Ns vG,59),(qf,Ns vF,59),(qe,Ns vE,59),(qd,Ns vD,59),(qc,Ns vC,59),(qb,Ns ld,59),(qa,Ns lc,59),(qu,Ns U,59)] (x74.setRow (qd) (Ns vD)):=hX.over 8 rfl (Ns vD);clear g75;generalize x74.setRow (qd) (Ns vD)=v76 at hX⊢;have g77:=hX.gt 7 rfl)
     |(refine ldN rfl rfl (qe) rfl g77 svE ?_))
    clear g77;refine gv JvEE fun x78 k78=> ?_
    replace hX:=hX.keep k78;clear k78;have hN:=hX.new (Ns Fd.zN) 59;have g79:=hN.gt 0 rfl;go_wp2_with (first
     |(refine stN rfl rfl (x78.heap.size) rfl rfl g79 Cu rfl ?_;replace hX:WD w (w.heap.size) [(x78.heap.size,Ns vEE,59),(qy,Ns vYY,59),(qx,Ns vX,59),(qgf,Ns vGF,59),(qhe,Ns vHE,59),(qh,Ns vH,59),(qg,Ns vG,59),(qf,Ns vF,59),(qe,Ns vE,59),(qd,Ns vD,59),(qc,Ns vC,59),(qb,Ns ld,59),(qa,Ns lc,59),(qu,Ns U,59)] ((x78.alloc (.cells (Ns Fd.zN) 59)).setRow x78.heap.size (Ns vEE)):=hN.over 0 rfl (Ns vEE);clear g79 hN;generalize (x78.alloc (.cells (Ns Fd.zN) 59)).setRow x78.heap.size (Ns vEE)=v80 at hX⊢;generalize x78.heap.size=qee at hX⊢;have g81:=hX.gt 7 rfl)
     |(refine ldN rfl rfl (qf) rfl g81 svF ?_))
    clear g81;refine gv JvFF fun x82 k82=> ?_
    replace hX:=hX.keep k82;clear k82;have hN:=hX.new (Ns Fd.zN) 59;have g83:=hN.gt 0 rfl;go_wp2_with (first
     |(refine stN rfl rfl (x82.heap.size) rfl rfl g83 svFF rfl ?_;replace hX:WD w (w.heap.size) [(x82.heap.size,Ns vFF,59),(qee,Ns vEE,59),(qy,Ns vYY,59),(qx,Ns vX,59),(qgf,Ns vGF,59),(qhe,Ns vHE,59),(qh,Ns vH,59),(qg,Ns vG,59),(qf,Ns vF,59),(qe,Ns vE,59),(qd,Ns vD,59),(qc,Ns vC,59),(qb,Ns ld,59),(qa,Ns lc,59),(qu,Ns U,59)] ((x82.alloc (.cells (Ns Fd.zN) 59)).setRow x82.heap.size (Ns vFF)):=hN.over 0 rfl (Ns vFF);clear g83 hN;generalize (x82.alloc (.cells (Ns Fd.zN) 59)).setRow x82.heap.size (Ns vFF)=v84 at hX⊢;generalize x82.heap.size=qff at hX⊢;have g85:=hX.gt 1 rfl;have g86:=hX.gt 0 rfl)
     |(refine ldN rfl rfl (qee) rfl g85 Cu ?_)
     |(refine ldN rfl rfl (qff) rfl g86 svFF ?_))
    clear g85 g86;refine gv JvM fun x87 k87=> ?_
    replace hX:=hX.keep k87;clear k87;have hN:=hX.new (Ns Fd.zN) 59;have g88:=hN.gt 0 rfl;go_wp2_with (first
     |(refine stN rfl rfl (x87.heap.size) rfl rfl g88 svM rfl ?_;replace hX:WD w (w.heap.size) [(x87.heap.size,Ns vM,59),(qff,Ns vFF,59),(qee,Ns vEE,59),(qy,Ns vYY,59),(qx,Ns vX,59),(qgf,Ns vGF,59),(qhe,Ns vHE,59),(qh,Ns vH,59),(qg,Ns vG,59),(qf,Ns vF,59),(qe,Ns vE,59),(qd,Ns vD,59),(qc,Ns vC,59),(qb,Ns ld,59),(qa,Ns lc,59),(qu,Ns U,59)] ((x87.alloc (.cells (Ns Fd.zN) 59)).setRow x87.heap.size (Ns vM)):=hN.over 0 rfl (Ns vM);clear g88 hN;generalize (x87.alloc (.cells (Ns Fd.zN) 59)).setRow x87.heap.size (Ns vM)=v89 at hX⊢;generalize x87.heap.size=qm at hX⊢;have g90:=hX.gt 0 rfl)
     |(refine ldN rfl rfl (qm) rfl g90 svM ?_)
     |(refine Rp.uf rfl 59 _ rfl [(0,.int .i64 56129),(1,.int .i64 1)] rfl _ (BN.out _) ?_))
    clear g90;refine gv JvN fun x91 k91=> ?_
    replace hX:=hX.keep k91;clear k91;have hN:=hX.new (Ns Fd.zN) 59;have g92:=hN.gt 0 rfl;go_wp2_with (first
     |(refine stN rfl rfl (x91.heap.size) rfl rfl g92 svN rfl ?_;replace hX:WD w (w.heap.size) [(x91.heap.size,Ns vN,59),(qm,Ns vM,59),(qff,Ns vFF,59),(qee,Ns vEE,59),(qy,Ns vYY,59),(qx,Ns vX,59),(qgf,Ns vGF,59),(qhe,Ns vHE,59),(qh,Ns vH,59),(qg,Ns vG,59),(qf,Ns vF,59),(qe,Ns vE,59),(qd,Ns vD,59),(qc,Ns vC,59),(qb,Ns ld,59),(qa,Ns lc,59),(qu,Ns U,59)] ((x91.alloc (.cells (Ns Fd.zN) 59)).setRow x91.heap.size (Ns vN)):=hN.over 0 rfl (Ns vN);clear g92 hN;generalize (x91.alloc (.cells (Ns Fd.zN) 59)).setRow x91.heap.size (Ns vN)=v93 at hX⊢;generalize x91.heap.size=qn at hX⊢;have g94:=hX.gt 3 rfl;have g95:=hX.gt 0 rfl)
     |(refine ldN rfl rfl (qee) rfl g94 Cu ?_)
     |(refine ldN rfl rfl (qn) rfl g95 svN ?_))
    clear g94 g95;refine gv JvNN fun x96 k96=> ?_
    replace hX:=hX.keep k96;clear k96;have g97:=hX.gt 0 rfl;go_wp2_with (first
     |(refine stN rfl rfl (qn) rfl rfl g97 svNN svN ?_;replace hX:WD w (w.heap.size) [(qn,Ns vNN,59),(qm,Ns vM,59),(qff,Ns vFF,59),(qee,Ns vEE,59),(qy,Ns vYY,59),(qx,Ns vX,59),(qgf,Ns vGF,59),(qhe,Ns vHE,59),(qh,Ns vH,59),(qg,Ns vG,59),(qf,Ns vF,59),(qe,Ns vE,59),(qd,Ns vD,59),(qc,Ns vC,59),(qb,Ns ld,59),(qa,Ns lc,59),(qu,Ns U,59)] (x96.setRow (qn) (Ns vNN)):=hX.over 0 rfl (Ns vNN);clear g97;generalize x96.setRow (qn) (Ns vNN)=v98 at hX⊢;have g99:=hX.gt 3 rfl;have g100:=hX.gt 2 rfl)
     |(refine ldN rfl rfl (qee) rfl g99 Cu ?_)
     |(refine ldN rfl rfl (qff) rfl g100 svFF ?_))
    clear g99 g100;refine gv JvA fun x101 k101=> ?_
    replace hX:=hX.keep k101;clear k101;have g102:=hX.gt 15 rfl;go_wp2_with (first
     |(refine stN rfl rfl (qa) rfl rfl g102 svA slc ?_;replace hX:WD w (w.heap.size) [(qn,Ns vNN,59),(qm,Ns vM,59),(qff,Ns vFF,59),(qee,Ns vEE,59),(qy,Ns vYY,59),(qx,Ns vX,59),(qgf,Ns vGF,59),(qhe,Ns vHE,59),(qh,Ns vH,59),(qg,Ns vG,59),(qf,Ns vF,59),(qe,Ns vE,59),(qd,Ns vD,59),(qc,Ns vC,59),(qb,Ns ld,59),(qa,Ns vA,59),(qu,Ns U,59)] (x101.setRow (qa) (Ns vA)):=hX.over 15 rfl (Ns vA);clear g102;generalize x101.setRow (qa) (Ns vA)=v103 at hX⊢;have g104:=hX.gt 1 rfl;have g105:=hX.gt 0 rfl)
     |(refine ldN rfl rfl (qm) rfl g104 svM ?_)
     |(refine ldN rfl rfl (qn) rfl g105 svNN ?_))
    clear g104 g105;refine gv JvB fun x106 k106=> ?_
    replace hX:=hX.keep k106;clear k106;have g107:=hX.gt 14 rfl;go_wp2_with (first
     |(refine stN rfl rfl (qb) rfl rfl g107 svB sld ?_;replace hX:WD w (w.heap.size) [(qn,Ns vNN,59),(qm,Ns vM,59),(qff,Ns vFF,59),(qee,Ns vEE,59),(qy,Ns vYY,59),(qx,Ns vX,59),(qgf,Ns vGF,59),(qhe,Ns vHE,59),(qh,Ns vH,59),(qg,Ns vG,59),(qf,Ns vF,59),(qe,Ns vE,59),(qd,Ns vD,59),(qc,Ns vC,59),(qb,Ns vB,59),(qa,Ns vA,59),(qu,Ns U,59)] (x106.setRow (qb) (Ns vB)):=hX.over 14 rfl (Ns vB);clear g107;generalize x106.setRow (qb) (Ns vB)=v108 at hX⊢;have g109:=hX.gt 13 rfl;have g110:=hX.gt 15 rfl;have g111:=hX.gt 15 rfl)
     |(refine ldN rfl rfl (qc) rfl g109 svC ?_)
     |(refine ldN rfl rfl (qa) rfl g110 svA ?_)
     |(refine stN rfl rfl (qa) rfl rfl g111 svC svA ?_;replace hX:WD w (w.heap.size) [(qn,Ns vNN,59),(qm,Ns vM,59),(qff,Ns vFF,59),(qee,Ns vEE,59),(qy,Ns vYY,59),(qx,Ns vX,59),(qgf,Ns vGF,59),(qhe,Ns vHE,59),(qh,Ns vH,59),(qg,Ns vG,59),(qf,Ns vF,59),(qe,Ns vE,59),(qd,Ns vD,59),(qc,Ns vC,59),(qb,Ns vB,59),(qa,Ns vC,59),(qu,Ns U,59)] (v108.setRow (qa) (Ns vC)):=hX.over 15 rfl (Ns vC);clear g109 g110 g111;generalize v108.setRow (qa) (Ns vC)=v112 at hX⊢;have g113:=hX.gt 13 rfl)
     |(refine stN rfl rfl (qc) rfl rfl g113 svA svC ?_;replace hX:WD w (w.heap.size) [(qn,Ns vNN,59),(qm,Ns vM,59),(qff,Ns vFF,59),(qee,Ns vEE,59),(qy,Ns vYY,59),(qx,Ns vX,59),(qgf,Ns vGF,59),(qhe,Ns vHE,59),(qh,Ns vH,59),(qg,Ns vG,59),(qf,Ns vF,59),(qe,Ns vE,59),(qd,Ns vD,59),(qc,Ns vA,59),(qb,Ns vB,59),(qa,Ns vC,59),(qu,Ns U,59)] (v112.setRow (qc) (Ns vA)):=hX.over 13 rfl (Ns vA);clear g113;generalize v112.setRow (qc) (Ns vA)=v114 at hX⊢;have g115:=hX.gt 12 rfl;have g116:=hX.gt 14 rfl;have g117:=hX.gt 14 rfl)
     |(refine ldN rfl rfl (qd) rfl g115 svD ?_)
     |(refine ldN rfl rfl (qb) rfl g116 svB ?_)
     |(refine stN rfl rfl (qb) rfl rfl g117 svD svB ?_;replace hX:WD w (w.heap.size) [(qn,Ns vNN,59),(qm,Ns vM,59),(qff,Ns vFF,59),(qee,Ns vEE,59),(qy,Ns vYY,59),(qx,Ns vX,59),(qgf,Ns vGF,59),(qhe,Ns vHE,59),(qh,Ns vH,59),(qg,Ns vG,59),(qf,Ns vF,59),(qe,Ns vE,59),(qd,Ns vD,59),(qc,Ns vA,59),(qb,Ns vD,59),(qa,Ns vC,59),(qu,Ns U,59)] (v114.setRow (qb) (Ns vD)):=hX.over 14 rfl (Ns vD);clear g115 g116 g117;generalize v114.setRow (qb) (Ns vD)=v118 at hX⊢;have g119:=hX.gt 12 rfl)
     |(refine stN rfl rfl (qd) rfl rfl g119 svB svD ?_;replace hX:WD w (w.heap.size) [(qn,Ns vNN,59),(qm,Ns vM,59),(qff,Ns vFF,59),(qee,Ns vEE,59),(qy,Ns vYY,59),(qx,Ns vX,59),(qgf,Ns vGF,59),(qhe,Ns vHE,59),(qh,Ns vH,59),(qg,Ns vG,59),(qf,Ns vF,59),(qe,Ns vE,59),(qd,Ns vB,59),(qc,Ns vA,59),(qb,Ns vD,59),(qa,Ns vC,59),(qu,Ns U,59)] (v118.setRow (qd) (Ns vB)):=hX.over 12 rfl (Ns vB);clear g119;generalize v118.setRow (qd) (Ns vB)=v120 at hX⊢))
    go_roundw
    case rel=>
     refine⟨k+1,by omega,by go_num,?_⟩;rw[HS.out];exact WD.sub hX (by repeat (first|exact List.Sublist.refl _|apply List.Sublist.cons))
    case measure=>simp[intOf]
   ·have db:(bt==1)=false:=by rw[beq_eq_false_iff_ne];exact hb1
    have HT:=HST.out la lb lc ld;replace HS:=HS.out;rw[db]at HS;replace HS:Rl.uQ (Rl.bitf KY) U (k+1)=Rl.zv U ⟨la,lb,lc,ld⟩:=HS;rw[HT]at HS;clear HT HST;replace hb1:Hid (¬bt=1):=hb1;have gvE:=Fd.tS la lb gla glb;have JvE:Hid (Rv 80 #[.agg (Ns la),.agg (Ns lb)] (.agg (Ns (Fd.plus la lb)))):=fun wx=>bE la lb gla glb wx
    have svE:=Nz gvE.1;generalize Fd.plus la lb=vE at gvE JvE svE HS;have gvF:=Fd.tO la lb gla glb;have JvF:Hid (Rv 140 #[.agg (Ns la),.agg (Ns lb)] (.agg (Ns (Fd.minus la lb)))):=fun wx=>aR la lb gla glb wx
    have svF:=Nz gvF.1;generalize Fd.minus la lb=vF at gvF JvF svF HS;have gvG:=Fd.tS lc ld glc gld;have JvG:Hid (Rv 80 #[.agg (Ns lc),.agg (Ns ld)] (.agg (Ns (Fd.plus lc ld)))):=fun wx=>bE lc ld glc gld wx
    have svG:=Nz gvG.1;generalize Fd.plus lc ld=vG at gvG JvG svG HS;have gvH:=Fd.tO lc ld glc gld;have JvH:Hid (Rv 140 #[.agg (Ns lc),.agg (Ns ld)] (.agg (Ns (Fd.minus lc ld)))):=fun wx=>aR lc ld glc gld wx
    have svH:=Nz gvH.1;generalize Fd.minus lc ld=vH at gvH JvH svH HS;have Ck:=Fd.tN vH vE gvH gvE;have JvHE:Hid (Rv 84 #[.agg (Ns vH),.agg (Ns vE)] (.agg (Ns (Fd.by_ vH vE)))):=fun wx=>aI vH vE gvH gvE wx
    have svHE:=Nz Ck.1;generalize Fd.by_ vH vE=vHE at Ck JvHE svHE HS;have Ci:=Fd.tN vG vF gvG gvF;have JvGF:Hid (Rv 84 #[.agg (Ns vG),.agg (Ns vF)] (.agg (Ns (Fd.by_ vG vF)))):=fun wx=>aI vG vF gvG gvF wx
    have svGF:=Nz Ci.1;generalize Fd.by_ vG vF=vGF at Ci JvGF svGF HS;have gvX:=Fd.tS vHE vGF Ck Ci;have JvX:Hid (Rv 80 #[.agg (Ns vHE),.agg (Ns vGF)] (.agg (Ns (Fd.plus vHE vGF)))):=fun wx=>bE vHE vGF Ck Ci wx
    have svX:=Nz gvX.1;generalize Fd.plus vHE vGF=vX at gvX JvX svX HS;have gvY:=Fd.tO vHE vGF Ck Ci;have JvY:Hid (Rv 140 #[.agg (Ns vHE),.agg (Ns vGF)] (.agg (Ns (Fd.minus vHE vGF)))):=fun wx=>aR vHE vGF Ck Ci wx
    have svY:=Nz gvY.1;generalize Fd.minus vHE vGF=vY at gvY JvY svY HS;have gvC:=Fd.tN vX vX gvX gvX;have JvC:Hid (Rv 84 #[.agg (Ns vX),.agg (Ns vX)] (.agg (Ns (Fd.by_ vX vX)))):=fun wx=>aI vX vX gvX gvX wx
    have svC:=Nz gvC.1;generalize Fd.by_ vX vX=vC at gvC JvC svC HS;have Cy:=Fd.tN vY vY gvY gvY;have JvYY:Hid (Rv 84 #[.agg (Ns vY),.agg (Ns vY)] (.agg (Ns (Fd.by_ vY vY)))):=fun wx=>aI vY vY gvY gvY wx
    have svYY:=Nz Cy.1;generalize Fd.by_ vY vY=vYY at Cy JvYY svYY HS;have gvD:=Fd.tN U vYY hu.out Cy;have JvD:Hid (Rv 84 #[.agg (Ns U),.agg (Ns vYY)] (.agg (Ns (Fd.by_ U vYY)))):=fun wx=>aI U vYY hu.out Cy wx
    have svD:=Nz gvD.1;generalize Fd.by_ U vYY=vD at gvD JvD svD HS;have Ce:=Fd.tN vE vE gvE gvE;have JvEE:Hid (Rv 84 #[.agg (Ns vE),.agg (Ns vE)] (.agg (Ns (Fd.by_ vE vE)))):=fun wx=>aI vE vE gvE gvE wx
    have Cu:=Nz Ce.1;generalize Fd.by_ vE vE=vEE at Ce JvEE Cu HS;have Cl:=Fd.tN vF vF gvF gvF;have JvFF:Hid (Rv 84 #[.agg (Ns vF),.agg (Ns vF)] (.agg (Ns (Fd.by_ vF vF)))):=fun wx=>aI vF vF gvF gvF wx
    have svFF:=Nz Cl.1;generalize Fd.by_ vF vF=vFF at Cl JvFF svFF HS;have gvM:=Fd.tO vEE vFF Ce Cl;have JvM:Hid (Rv 140 #[.agg (Ns vEE),.agg (Ns vFF)] (.agg (Ns (Fd.minus vEE vFF)))):=fun wx=>aR vEE vFF Ce Cl wx
    have svM:=Nz gvM.1;generalize Fd.minus vEE vFF=vM at gvM JvM svM HS;have gvN:=Fd.tN vM NN gvM gN.out;have JvN:Hid (Rv 84 #[.agg (Ns vM),.agg (Ns NN)] (.agg (Ns (Fd.by_ vM NN)))):=fun wx=>aI vM NN gvM gN.out wx
    have svN:=Nz gvN.1;generalize Fd.by_ vM NN=vN at gvN JvN svN HS;have Cx:=Fd.tS vEE vN Ce gvN;have JvNN:Hid (Rv 80 #[.agg (Ns vEE),.agg (Ns vN)] (.agg (Ns (Fd.plus vEE vN)))):=fun wx=>bE vEE vN Ce gvN wx
    have svNN:=Nz Cx.1;generalize Fd.plus vEE vN=vNN at Cx JvNN svNN HS;have gvA:=Fd.tN vEE vFF Ce Cl;have JvA:Hid (Rv 84 #[.agg (Ns vEE),.agg (Ns vFF)] (.agg (Ns (Fd.by_ vEE vFF)))):=fun wx=>aI vEE vFF Ce Cl wx
    have svA:=Nz gvA.1;generalize Fd.by_ vEE vFF=vA at gvA JvA svA HS;have gvB:=Fd.tN vM vNN gvM Cx;have JvB:Hid (Rv 84 #[.agg (Ns vM),.agg (Ns vNN)] (.agg (Ns (Fd.by_ vM vNN)))):=fun wx=>aI vM vNN gvM Cx wx
    have svB:=Nz gvB.1;generalize Fd.by_ vM vNN=vB at gvB JvB svB HS;clear gla glb glc gld gvE gvF gvG gvH Ck Ci gvX gvY gvC Cy gvD Ce Cl gvM gvN Cx gvA gvB;replace HS:Hid (Rl.uQ (Rl.bitf KY) U (k+1)=⟨vA,vB,vC,vD⟩):=HS;go_wp2_with fail;refine(BX.out _).mono ?_;rintro e xb ⟨rfl,hxb⟩;rw[hxb];clear hxb xb;have g121:=hX.gt 3 rfl;have g122:=hX.gt 2 rfl;go_wp2_with (first
     |(refine ldN rfl rfl (qa) rfl g121 sla ?_)
     |(refine ldN rfl rfl (qb) rfl g122 slb ?_))
    clear g121 g122;refine gv JvE fun x123 k123=> ?_
    replace hX:=hX.keep k123;clear k123;have hN:=hX.new (Ns Fd.zN) 59;have g124:=hN.gt 0 rfl;go_wp2_with (first
     |(refine stN rfl rfl (x123.heap.size) rfl rfl g124 svE rfl ?_;replace hX:WD w (w.heap.size) [(x123.heap.size,Ns vE,59),(qd,Ns ld,59),(qc,Ns lc,59),(qb,Ns lb,59),(qa,Ns la,59),(qu,Ns U,59)] ((x123.alloc (.cells (Ns Fd.zN) 59)).setRow x123.heap.size (Ns vE)):=hN.over 0 rfl (Ns vE);clear g124 hN;generalize (x123.alloc (.cells (Ns Fd.zN) 59)).setRow x123.heap.size (Ns vE)=v125 at hX⊢;generalize x123.heap.size=qe at hX⊢;have g126:=hX.gt 4 rfl;have g127:=hX.gt 3 rfl)
     |(refine ldN rfl rfl (qa) rfl g126 sla ?_)
     |(refine ldN rfl rfl (qb) rfl g127 slb ?_))
    clear g126 g127;refine gv JvF fun x128 k128=> ?_
    replace hX:=hX.keep k128;clear k128;have hN:=hX.new (Ns Fd.zN) 59;have g129:=hN.gt 0 rfl;go_wp2_with (first
     |(refine stN rfl rfl (x128.heap.size) rfl rfl g129 svF rfl ?_;replace hX:WD w (w.heap.size) [(x128.heap.size,Ns vF,59),(qe,Ns vE,59),(qd,Ns ld,59),(qc,Ns lc,59),(qb,Ns lb,59),(qa,Ns la,59),(qu,Ns U,59)] ((x128.alloc (.cells (Ns Fd.zN) 59)).setRow x128.heap.size (Ns vF)):=hN.over 0 rfl (Ns vF);clear g129 hN;generalize (x128.alloc (.cells (Ns Fd.zN) 59)).setRow x128.heap.size (Ns vF)=v130 at hX⊢;generalize x128.heap.size=qf at hX⊢;have g131:=hX.gt 3 rfl;have g132:=hX.gt 2 rfl)
     |(refine ldN rfl rfl (qc) rfl g131 slc ?_)
     |(refine ldN rfl rfl (qd) rfl g132 sld ?_))
    clear g131 g132;refine gv JvG fun x133 k133=> ?_
    replace hX:=hX.keep k133;clear k133;have hN:=hX.new (Ns Fd.zN) 59;have g134:=hN.gt 0 rfl;go_wp2_with (first
     |(refine stN rfl rfl (x133.heap.size) rfl rfl g134 svG rfl ?_;replace hX:WD w (w.heap.size) [(x133.heap.size,Ns vG,59),(qf,Ns vF,59),(qe,Ns vE,59),(qd,Ns ld,59),(qc,Ns lc,59),(qb,Ns lb,59),(qa,Ns la,59),(qu,Ns U,59)] ((x133.alloc (.cells (Ns Fd.zN) 59)).setRow x133.heap.size (Ns vG)):=hN.over 0 rfl (Ns vG);clear g134 hN;generalize (x133.alloc (.cells (Ns Fd.zN) 59)).setRow x133.heap.size (Ns vG)=v135 at hX⊢;generalize x133.heap.size=qg at hX⊢;have g136:=hX.gt 4 rfl;have g137:=hX.gt 3 rfl)
     |(refine ldN rfl rfl (qc) rfl g136 slc ?_)
     |(refine ldN rfl rfl (qd) rfl g137 sld ?_))
    clear g136 g137;refine gv JvH fun x138 k138=> ?_
    replace hX:=hX.keep k138;clear k138;have hN:=hX.new (Ns Fd.zN) 59;have g139:=hN.gt 0 rfl;go_wp2_with (first
     |(refine stN rfl rfl (x138.heap.size) rfl rfl g139 svH rfl ?_;replace hX:WD w (w.heap.size) [(x138.heap.size,Ns vH,59),(qg,Ns vG,59),(qf,Ns vF,59),(qe,Ns vE,59),(qd,Ns ld,59),(qc,Ns lc,59),(qb,Ns lb,59),(qa,Ns la,59),(qu,Ns U,59)] ((x138.alloc (.cells (Ns Fd.zN) 59)).setRow x138.heap.size (Ns vH)):=hN.over 0 rfl (Ns vH);clear g139 hN;generalize (x138.alloc (.cells (Ns Fd.zN) 59)).setRow x138.heap.size (Ns vH)=v140 at hX⊢;generalize x138.heap.size=qh at hX⊢;have g141:=hX.gt 0 rfl;have g142:=hX.gt 3 rfl)
     |(refine ldN rfl rfl (qh) rfl g141 svH ?_)
     |(refine ldN rfl rfl (qe) rfl g142 svE ?_))
    clear g141 g142;refine gv JvHE fun x143 k143=> ?_
    replace hX:=hX.keep k143;clear k143;have hN:=hX.new (Ns Fd.zN) 59;have g144:=hN.gt 0 rfl;go_wp2_with (first
     |(refine stN rfl rfl (x143.heap.size) rfl rfl g144 svHE rfl ?_;replace hX:WD w (w.heap.size) [(x143.heap.size,Ns vHE,59),(qh,Ns vH,59),(qg,Ns vG,59),(qf,Ns vF,59),(qe,Ns vE,59),(qd,Ns ld,59),(qc,Ns lc,59),(qb,Ns lb,59),(qa,Ns la,59),(qu,Ns U,59)] ((x143.alloc (.cells (Ns Fd.zN) 59)).setRow x143.heap.size (Ns vHE)):=hN.over 0 rfl (Ns vHE);clear g144 hN;generalize (x143.alloc (.cells (Ns Fd.zN) 59)).setRow x143.heap.size (Ns vHE)=v145 at hX⊢;generalize x143.heap.size=qhe at hX⊢;have g146:=hX.gt 2 rfl;have g147:=hX.gt 3 rfl)
     |(refine ldN rfl rfl (qg) rfl g146 svG ?_)
     |(refine ldN rfl rfl (qf) rfl g147 svF ?_))
    clear g146 g147;refine gv JvGF fun x148 k148=> ?_
    replace hX:=hX.keep k148;clear k148;have hN:=hX.new (Ns Fd.zN) 59;have g149:=hN.gt 0 rfl;go_wp2_with (first
     |(refine stN rfl rfl (x148.heap.size) rfl rfl g149 svGF rfl ?_;replace hX:WD w (w.heap.size) [(x148.heap.size,Ns vGF,59),(qhe,Ns vHE,59),(qh,Ns vH,59),(qg,Ns vG,59),(qf,Ns vF,59),(qe,Ns vE,59),(qd,Ns ld,59),(qc,Ns lc,59),(qb,Ns lb,59),(qa,Ns la,59),(qu,Ns U,59)] ((x148.alloc (.cells (Ns Fd.zN) 59)).setRow x148.heap.size (Ns vGF)):=hN.over 0 rfl (Ns vGF);clear g149 hN;generalize (x148.alloc (.cells (Ns Fd.zN) 59)).setRow x148.heap.size (Ns vGF)=v150 at hX⊢;generalize x148.heap.size=qgf at hX⊢;have g151:=hX.gt 1 rfl;have g152:=hX.gt 0 rfl)
     |(refine ldN rfl rfl (qhe) rfl g151 svHE ?_)
     |(refine ldN rfl rfl (qgf) rfl g152 svGF ?_))
    clear g151 g152;refine gv JvX fun x153 k153=> ?_
    replace hX:=hX.keep k153;clear k153;have hN:=hX.new (Ns Fd.zN) 59;have g154:=hN.gt 0 rfl;go_wp2_with (first
     |(refine stN rfl rfl (x153.heap.size) rfl rfl g154 svX rfl ?_;replace hX:WD w (w.heap.size) [(x153.heap.size,Ns vX,59),(qgf,Ns vGF,59),(qhe,Ns vHE,59),(qh,Ns vH,59),(qg,Ns vG,59),(qf,Ns vF,59),(qe,Ns vE,59),(qd,Ns ld,59),(qc,Ns lc,59),(qb,Ns lb,59),(qa,Ns la,59),(qu,Ns U,59)] ((x153.alloc (.cells (Ns Fd.zN) 59)).setRow x153.heap.size (Ns vX)):=hN.over 0 rfl (Ns vX);clear g154 hN;generalize (x153.alloc (.cells (Ns Fd.zN) 59)).setRow x153.heap.size (Ns vX)=v155 at hX⊢;generalize x153.heap.size=qx at hX⊢;have g156:=hX.gt 2 rfl;have g157:=hX.gt 1 rfl)
     |(refine ldN rfl rfl (qhe) rfl g156 svHE ?_)
     |(refine ldN rfl rfl (qgf) rfl g157 svGF ?_))
    clear g156 g157;refine gv JvY fun x158 k158=> ?_
    replace hX:=hX.keep k158;clear k158;have hN:=hX.new (Ns Fd.zN) 59;have g159:=hN.gt 0 rfl;go_wp2_with (first
     |(refine stN rfl rfl (x158.heap.size) rfl rfl g159 svY rfl ?_;replace hX:WD w (w.heap.size) [(x158.heap.size,Ns vY,59),(qx,Ns vX,59),(qgf,Ns vGF,59),(qhe,Ns vHE,59),(qh,Ns vH,59),(qg,Ns vG,59),(qf,Ns vF,59),(qe,Ns vE,59),(qd,Ns ld,59),(qc,Ns lc,59),(qb,Ns lb,59),(qa,Ns la,59),(qu,Ns U,59)] ((x158.alloc (.cells (Ns Fd.zN) 59)).setRow x158.heap.size (Ns vY)):=hN.over 0 rfl (Ns vY);clear g159 hN;generalize (x158.alloc (.cells (Ns Fd.zN) 59)).setRow x158.heap.size (Ns vY)=v160 at hX⊢;generalize x158.heap.size=qy at hX⊢;have g161:=hX.gt 1 rfl)
     |(refine ldN rfl rfl (qx) rfl g161 svX ?_))
    clear g161;refine gv JvC fun x162 k162=> ?_
    replace hX:=hX.keep k162;clear k162;have g163:=hX.gt 9 rfl;go_wp2_with (first
     |(refine stN rfl rfl (qc) rfl rfl g163 svC slc ?_;replace hX:WD w (w.heap.size) [(qy,Ns vY,59),(qx,Ns vX,59),(qgf,Ns vGF,59),(qhe,Ns vHE,59),(qh,Ns vH,59),(qg,Ns vG,59),(qf,Ns vF,59),(qe,Ns vE,59),(qd,Ns ld,59),(qc,Ns vC,59),(qb,Ns lb,59),(qa,Ns la,59),(qu,Ns U,59)] (x162.setRow (qc) (Ns vC)):=hX.over 9 rfl (Ns vC);clear g163;generalize x162.setRow (qc) (Ns vC)=v164 at hX⊢;have g165:=hX.gt 0 rfl)
     |(refine ldN rfl rfl (qy) rfl g165 svY ?_))
    clear g165;refine gv JvYY fun x166 k166=> ?_
    replace hX:=hX.keep k166;clear k166;have g167:=hX.gt 0 rfl;go_wp2_with (first
     |(refine stN rfl rfl (qy) rfl rfl g167 svYY svY ?_;replace hX:WD w (w.heap.size) [(qy,Ns vYY,59),(qx,Ns vX,59),(qgf,Ns vGF,59),(qhe,Ns vHE,59),(qh,Ns vH,59),(qg,Ns vG,59),(qf,Ns vF,59),(qe,Ns vE,59),(qd,Ns ld,59),(qc,Ns vC,59),(qb,Ns lb,59),(qa,Ns la,59),(qu,Ns U,59)] (x166.setRow (qy) (Ns vYY)):=hX.over 0 rfl (Ns vYY);clear g167;generalize x166.setRow (qy) (Ns vYY)=v168 at hX⊢;have g169:=hX.gt 12 rfl;have g170:=hX.gt 0 rfl)
     |(refine ldN rfl rfl (qu) rfl g169 sU ?_)
     |(refine ldN rfl rfl (qy) rfl g170 svYY ?_))
    clear g169 g170;refine gv JvD fun x171 k171=> ?_
    replace hX:=hX.keep k171;clear k171;have g172:=hX.gt 8 rfl;go_wp2_with (first
     |(refine stN rfl rfl (qd) rfl rfl g172 svD sld ?_;replace hX:WD w (w.heap.size) [(qy,Ns vYY,59),(qx,Ns vX,59),(qgf,Ns vGF,59),(qhe,Ns vHE,59),(qh,Ns vH,59),(qg,Ns vG,59),(qf,Ns vF,59),(qe,Ns vE,59),(qd,Ns vD,59),(qc,Ns vC,59),(qb,Ns lb,59),(qa,Ns la,59),(qu,Ns U,59)] (x171.setRow (qd) (Ns vD)):=hX.over 8 rfl (Ns vD);clear g172;generalize x171.setRow (qd) (Ns vD)=v173 at hX⊢;have g174:=hX.gt 7 rfl)
     |(refine ldN rfl rfl (qe) rfl g174 svE ?_))
    clear g174;refine gv JvEE fun x175 k175=> ?_
    replace hX:=hX.keep k175;clear k175;have hN:=hX.new (Ns Fd.zN) 59;have g176:=hN.gt 0 rfl;go_wp2_with (first
     |(refine stN rfl rfl (x175.heap.size) rfl rfl g176 Cu rfl ?_;replace hX:WD w (w.heap.size) [(x175.heap.size,Ns vEE,59),(qy,Ns vYY,59),(qx,Ns vX,59),(qgf,Ns vGF,59),(qhe,Ns vHE,59),(qh,Ns vH,59),(qg,Ns vG,59),(qf,Ns vF,59),(qe,Ns vE,59),(qd,Ns vD,59),(qc,Ns vC,59),(qb,Ns lb,59),(qa,Ns la,59),(qu,Ns U,59)] ((x175.alloc (.cells (Ns Fd.zN) 59)).setRow x175.heap.size (Ns vEE)):=hN.over 0 rfl (Ns vEE);clear g176 hN;generalize (x175.alloc (.cells (Ns Fd.zN) 59)).setRow x175.heap.size (Ns vEE)=v177 at hX⊢;generalize x175.heap.size=qee at hX⊢;have g178:=hX.gt 7 rfl)
     |(refine ldN rfl rfl (qf) rfl g178 svF ?_))
    clear g178;refine gv JvFF fun x179 k179=> ?_
    replace hX:=hX.keep k179;clear k179;have hN:=hX.new (Ns Fd.zN) 59;have g180:=hN.gt 0 rfl;go_wp2_with (first
     |(refine stN rfl rfl (x179.heap.size) rfl rfl g180 svFF rfl ?_;replace hX:WD w (w.heap.size) [(x179.heap.size,Ns vFF,59),(qee,Ns vEE,59),(qy,Ns vYY,59),(qx,Ns vX,59),(qgf,Ns vGF,59),(qhe,Ns vHE,59),(qh,Ns vH,59),(qg,Ns vG,59),(qf,Ns vF,59),(qe,Ns vE,59),(qd,Ns vD,59),(qc,Ns vC,59),(qb,Ns lb,59),(qa,Ns la,59),(qu,Ns U,59)] ((x179.alloc (.cells (Ns Fd.zN) 59)).setRow x179.heap.size (Ns vFF)):=hN.over 0 rfl (Ns vFF);clear g180 hN;generalize (x179.alloc (.cells (Ns Fd.zN) 59)).setRow x179.heap.size (Ns vFF)=v181 at hX⊢;generalize x179.heap.size=qff at hX⊢;have g182:=hX.gt 1 rfl;have g183:=hX.gt 0 rfl)
     |(refine ldN rfl rfl (qee) rfl g182 Cu ?_)
     |(refine ldN rfl rfl (qff) rfl g183 svFF ?_))
    clear g182 g183;refine gv JvM fun x184 k184=> ?_
    replace hX:=hX.keep k184;clear k184;have hN:=hX.new (Ns Fd.zN) 59;have g185:=hN.gt 0 rfl;go_wp2_with (first
     |(refine stN rfl rfl (x184.heap.size) rfl rfl g185 svM rfl ?_;replace hX:WD w (w.heap.size) [(x184.heap.size,Ns vM,59),(qff,Ns vFF,59),(qee,Ns vEE,59),(qy,Ns vYY,59),(qx,Ns vX,59),(qgf,Ns vGF,59),(qhe,Ns vHE,59),(qh,Ns vH,59),(qg,Ns vG,59),(qf,Ns vF,59),(qe,Ns vE,59),(qd,Ns vD,59),(qc,Ns vC,59),(qb,Ns lb,59),(qa,Ns la,59),(qu,Ns U,59)] ((x184.alloc (.cells (Ns Fd.zN) 59)).setRow x184.heap.size (Ns vM)):=hN.over 0 rfl (Ns vM);clear g185 hN;generalize (x184.alloc (.cells (Ns Fd.zN) 59)).setRow x184.heap.size (Ns vM)=v186 at hX⊢;generalize x184.heap.size=qm at hX⊢;have g187:=hX.gt 0 rfl)
     |(refine ldN rfl rfl (qm) rfl g187 svM ?_)
     |(refine Rp.uf rfl 59 _ rfl [(0,.int .i64 56129),(1,.int .i64 1)] rfl _ (BN.out _) ?_))
    clear g187;refine gv JvN fun x188 k188=> ?_
    replace hX:=hX.keep k188;clear k188;have hN:=hX.new (Ns Fd.zN) 59;have g189:=hN.gt 0 rfl;go_wp2_with (first
     |(refine stN rfl rfl (x188.heap.size) rfl rfl g189 svN rfl ?_;replace hX:WD w (w.heap.size) [(x188.heap.size,Ns vN,59),(qm,Ns vM,59),(qff,Ns vFF,59),(qee,Ns vEE,59),(qy,Ns vYY,59),(qx,Ns vX,59),(qgf,Ns vGF,59),(qhe,Ns vHE,59),(qh,Ns vH,59),(qg,Ns vG,59),(qf,Ns vF,59),(qe,Ns vE,59),(qd,Ns vD,59),(qc,Ns vC,59),(qb,Ns lb,59),(qa,Ns la,59),(qu,Ns U,59)] ((x188.alloc (.cells (Ns Fd.zN) 59)).setRow x188.heap.size (Ns vN)):=hN.over 0 rfl (Ns vN);clear g189 hN;generalize (x188.alloc (.cells (Ns Fd.zN) 59)).setRow x188.heap.size (Ns vN)=v190 at hX⊢;generalize x188.heap.size=qn at hX⊢;have g191:=hX.gt 3 rfl;have g192:=hX.gt 0 rfl)
     |(refine ldN rfl rfl (qee) rfl g191 Cu ?_)
     |(refine ldN rfl rfl (qn) rfl g192 svN ?_))
    clear g191 g192;refine gv JvNN fun x193 k193=> ?_
    replace hX:=hX.keep k193;clear k193;have g194:=hX.gt 0 rfl;go_wp2_with (first
     |(refine stN rfl rfl (qn) rfl rfl g194 svNN svN ?_;replace hX:WD w (w.heap.size) [(qn,Ns vNN,59),(qm,Ns vM,59),(qff,Ns vFF,59),(qee,Ns vEE,59),(qy,Ns vYY,59),(qx,Ns vX,59),(qgf,Ns vGF,59),(qhe,Ns vHE,59),(qh,Ns vH,59),(qg,Ns vG,59),(qf,Ns vF,59),(qe,Ns vE,59),(qd,Ns vD,59),(qc,Ns vC,59),(qb,Ns lb,59),(qa,Ns la,59),(qu,Ns U,59)] (x193.setRow (qn) (Ns vNN)):=hX.over 0 rfl (Ns vNN);clear g194;generalize x193.setRow (qn) (Ns vNN)=v195 at hX⊢;have g196:=hX.gt 3 rfl;have g197:=hX.gt 2 rfl)
     |(refine ldN rfl rfl (qee) rfl g196 Cu ?_)
     |(refine ldN rfl rfl (qff) rfl g197 svFF ?_))
    clear g196 g197;refine gv JvA fun x198 k198=> ?_
    replace hX:=hX.keep k198;clear k198;have g199:=hX.gt 15 rfl;go_wp2_with (first
     |(refine stN rfl rfl (qa) rfl rfl g199 svA sla ?_;replace hX:WD w (w.heap.size) [(qn,Ns vNN,59),(qm,Ns vM,59),(qff,Ns vFF,59),(qee,Ns vEE,59),(qy,Ns vYY,59),(qx,Ns vX,59),(qgf,Ns vGF,59),(qhe,Ns vHE,59),(qh,Ns vH,59),(qg,Ns vG,59),(qf,Ns vF,59),(qe,Ns vE,59),(qd,Ns vD,59),(qc,Ns vC,59),(qb,Ns lb,59),(qa,Ns vA,59),(qu,Ns U,59)] (x198.setRow (qa) (Ns vA)):=hX.over 15 rfl (Ns vA);clear g199;generalize x198.setRow (qa) (Ns vA)=v200 at hX⊢;have g201:=hX.gt 1 rfl;have g202:=hX.gt 0 rfl)
     |(refine ldN rfl rfl (qm) rfl g201 svM ?_)
     |(refine ldN rfl rfl (qn) rfl g202 svNN ?_))
    clear g201 g202;refine gv JvB fun x203 k203=> ?_
    replace hX:=hX.keep k203;clear k203;have g204:=hX.gt 14 rfl;go_wp2_with (first
     |(refine stN rfl rfl (qb) rfl rfl g204 svB slb ?_;replace hX:WD w (w.heap.size) [(qn,Ns vNN,59),(qm,Ns vM,59),(qff,Ns vFF,59),(qee,Ns vEE,59),(qy,Ns vYY,59),(qx,Ns vX,59),(qgf,Ns vGF,59),(qhe,Ns vHE,59),(qh,Ns vH,59),(qg,Ns vG,59),(qf,Ns vF,59),(qe,Ns vE,59),(qd,Ns vD,59),(qc,Ns vC,59),(qb,Ns vB,59),(qa,Ns vA,59),(qu,Ns U,59)] (x203.setRow (qb) (Ns vB)):=hX.over 14 rfl (Ns vB);clear g204;generalize x203.setRow (qb) (Ns vB)=v205 at hX⊢))
    go_roundw
    case rel=>
     refine⟨k+1,by omega,by go_num,?_⟩;rw[HS.out];exact WD.sub hX (by repeat (first|exact List.Sublist.refl _|apply List.Sublist.cons))
    case measure=>simp[intOf]
  ·have hk255:k=255:=by omega
   subst hk255;have hq0:(254:Int) - ((255:Nat):Int)= -1:=by omega
   rw[hq0];clear HA HST;have gL:=HF.out 255;replace HE:=HE.out;generalize Rl.uQ (Rl.bitf KY) U 255=LL at HE gL hX;obtain⟨la,lb,lc,ld⟩:=LL;obtain⟨gla,glb,glc,gld⟩:=gL;dsimp only at gla glb glc gld hX HE;have sla:=Nz gla.1;have slb:=Nz glb.1;have slc:=Nz glc.1;have sld:=Nz gld.1;have gI:=Fd.uv lb glb;have J1:Hid (Rv 85 #[.agg (Ns lb)] (.agg (Ns (Fd.inv lb)))):=fun wx=>cq lb wx glb
   have sI:=Nz gI.1;generalize Fd.inv lb=vI at HE J1 gI sI;have gR:=Fd.tN la vI gla gI;have J2:Hid (Rv 84 #[.agg (Ns la),.agg (Ns vI)] (.agg (Ns (Fd.by_ la vI)))):=fun wx=>aI la vI gla gI wx
   have sR:=Nz gR.1;generalize Fd.by_ la vI=vR at HE J2 gR sR;have J3:Hid (Rv 87 #[.agg (Ns vR)] (.string ⟨(Fd.told vR).toArray⟩)):=fun wx=>iC vR gR wx
   rw[←HE]at J3;clear gla glb glc gld gI gR HE;have svI:=sI;have svR:=sR;have g206:=hX.gt 2 rfl;go_wp2_with (first
    |(refine ldN rfl rfl (qb) rfl g206 slb ?_))
   clear g206;refine gv J1 fun x207 k207=> ?_
   replace hX:=hX.keep k207;clear k207;have g208:=hX.gt 2 rfl;go_wp2_with (first
    |(refine stN rfl rfl (qb) rfl rfl g208 svI slb ?_;replace hX:WD w (w.heap.size) [(qd,Ns ld,59),(qc,Ns lc,59),(qb,Ns vI,59),(qa,Ns la,59),(qu,Ns U,59)] (x207.setRow (qb) (Ns vI)):=hX.over 2 rfl (Ns vI);clear g208;generalize x207.setRow (qb) (Ns vI)=v209 at hX⊢;have g210:=hX.gt 3 rfl;have g211:=hX.gt 2 rfl)
    |(refine ldN rfl rfl (qa) rfl g210 sla ?_)
    |(refine ldN rfl rfl (qb) rfl g211 svI ?_))
   clear g210 g211;refine gv J2 fun x212 k212=> ?_
   replace hX:=hX.keep k212;clear k212;have g213:=hX.gt 3 rfl;go_wp2_with (first
    |(refine stN rfl rfl (qa) rfl rfl g213 svR sla ?_;replace hX:WD w (w.heap.size) [(qd,Ns ld,59),(qc,Ns lc,59),(qb,Ns vI,59),(qa,Ns vR,59),(qu,Ns U,59)] (x212.setRow (qa) (Ns vR)):=hX.over 3 rfl (Ns vR);clear g213;generalize x212.setRow (qa) (Ns vR)=v214 at hX⊢;have g215:=hX.gt 3 rfl)
    |(refine ldN rfl rfl (qa) rfl g215 svR ?_))
   clear g215;refine gv J3 fun x216 k216=> ?_
   replace hX:=hX.keep k216;clear k216;have Ct:=hX.below;go_wp2;go_ret;exact⟨rfl,Ct⟩
end Go.Proofs.YtclpbaokadfhhaaGreatDoor
