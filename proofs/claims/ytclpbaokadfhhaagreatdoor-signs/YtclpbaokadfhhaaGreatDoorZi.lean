import Derived.Test.YtclpbaokadfhhaaGreatDoorYj
import Derived.Test.YtclpbaokadfhhaaGreatDoorXm
set_option maxRecDepth 100000
set_option maxHeartbeats 20000000
namespace Go.Proofs.YtclpbaokadfhhaaGreatDoor
open Go.RowKit
namespace Rp
def bitf(s:ByteArray)(i:Nat):Bool:=byt s (i/8)/2^(i%8)%2==1
def tU(s:ByteArray)(p:Pn):Pn:=wH (bitf s) p uP 256 256
theorem start_fine:Fine start:=⟨wF,zj,zj,wF⟩
theorem Bb(f:Nat→Bool)(p:Pn)(tw:List Int)(m:Nat)(hp:Fine p)(ht:Fd.Good tw): ∀k,Fine (wH f p tw m k)
 |0=>start_fine
 |k+1=>by
  have ih:=Bb f p tw m hp ht k;rw[wH];split
  ·exact xU (xU ih ih ht) hp ht
  ·exact xU ih ih ht
theorem vQ(s:ByteArray)(p:Pn)(hp:Fine p):Fine (tU s p):=Bb _ _ _ _ hp wm _
end Rp
theorem dC(s:ByteArray)(p:Rp.Pn)(hs:s.size=32)(hp:Rp.Fine p)(w:World):
  Rw 37 #[.string s,.agg (Ns (Rp.row p))] w (.agg (Ns (Rp.row (Rp.tU s p)))):=by
 have hz:=bC;have hz2:=Rp.xz;have HM:Hid (Rp.row (Rp.tU s p)=Rp.row (Rp.wH (Rp.bitf s) p Rp.uP 256 256)):=rfl;have H1:Hid (Rv 79 #[] (.agg (Ns Rp.factor))):=fun wx=>gQ wx
 have H2:Hid (Rv 80 #[.agg (Ns Rp.factor),.agg (Ns Rp.factor)] (.agg (Ns Rp.uP))):=fun wx=>bE _ _ Rp.ur Rp.ur wx
 have sDD:(Ns Rp.factor).size=16:=by rw[aK,Rp.ur.1]
 have gT:Hid (Fd.Good Rp.uP):=Rp.wm;generalize Rp.factor=DD at H1 H2 sDD;have H3:Hid (Rv 81 #[.int .i64 0] (.agg (Ns (Fd.small 0)))):=fun wx=>bj 0 wx
 have H4:Hid (Rv 81 #[.int .i64 1] (.agg (Ns (Fd.small 1)))):=fun wx=>bj 1 wx
 have B1:Hid (∀wx:World,(Instr.build 61 #[(0,.agg (Ns (Fd.small 0))),(1,.agg (Ns (Fd.small 1))),(2,.agg (Ns (Fd.small 1))),(3,.agg (Ns (Fd.small 0)))]).run Tryz.prog wx= .ok (.agg (Ns (Rp.row Rp.start))) wx):=Rp.xi _ _ _ _ rfl rfl rfl rfl;have sST:(Ns (Rp.row Rp.start)).size=64:=by rw[aK,Rp.start_fine.row]
 have HST:Hid (∀f p tw,Rp.wH f p tw 256 0=Rp.start):=fun _ _ _=>rfl
 generalize hSTE:Rp.row Rp.start=ST at B1 sST;replace hSTE:Hid (Rp.row Rp.start=ST):=hSTE;generalize Fd.small 0=O0 at H3 B1;generalize Fd.small 1=O1 at H4 B1;generalize Rp.row (Rp.tU s p)=RR at HM⊢;have HMS:Hid (∀k,Rp.wH (Rp.bitf s) p Rp.uP 256 (k+1)=if Rp.bitf s (256 - 1 - k)then Rp.sum (Rp.sum (Rp.wH (Rp.bitf s) p Rp.uP 256 k) (Rp.wH (Rp.bitf s) p Rp.uP 256 k) Rp.uP) p Rp.uP else Rp.sum (Rp.wH (Rp.bitf s) p Rp.uP 256 k) (Rp.wH (Rp.bitf s) p Rp.uP 256 k) Rp.uP):=fun k=>rfl
 have HFM:Hid (∀k,Rp.Fine (Rp.wH (Rp.bitf s) p Rp.uP 256 k)):=Rp.Bb _ _ _ _ hp Rp.wm;generalize Rp.uP=TW at H2 gT HM HMS HFM;have sTW:(Ns TW).size=16:=by rw[aK,gT.out.1]
 replace hp:Hid (Rp.Fine p):=hp;have sPP:(Ns (Rp.row p)).size=64:=by rw[aK,hp.out.row]
 have sZ:=Rp.wR;generalize Rp.Z64=ZO at hz2 sZ;have sZ':=Nz sZ;have hX:WD w w.heap.size [(w.heap.size+1,Ns ZO,61),(w.heap.size,Ns (Rp.row p),61)] ((w.alloc (.cells (Ns (Rp.row p)) 61)).alloc (.cells (Ns ZO) 61)):=by
  have h1:=(WD.start (w:=w)).new (Ns (Rp.row p)) 61;have h2:=h1.new (Ns ZO) 61;rw[Rp.uE]at h2;exact h2
 go_enter Tryz.func37,Tryz.ntmps37;go_wp2_with fail;generalize (w.alloc (.cells (Ns (Rp.row p)) 61)).alloc (.cells (Ns ZO) 61)=w1 at hX⊢;refine gv H1 fun x1 k1=> ?_
 replace hX:=hX.keep k1;clear k1;have hN:=hX.new (Ns Fd.zN) 59;have g2:=hN.gt 0 rfl;replace hX:WD w (w.heap.size) [(x1.heap.size,Ns DD,59),(w.heap.size+1,Ns ZO,61),(w.heap.size,Ns (Rp.row p),61)] ((x1.alloc (.cells (Ns Fd.zN) 59)).setRow x1.heap.size (Ns DD)):=hN.over 0 rfl (Ns DD);have g3:=hX.gt 0 rfl;go_wp2_with (first
  |(refine stN rfl rfl x1.heap.size rfl rfl g2 sDD rfl ?_)
  |(refine ldN rfl rfl (x1.heap.size) rfl g3 sDD ?_))
 clear hN g2 g3;generalize (x1.alloc (.cells (Ns Fd.zN) 59)).setRow x1.heap.size (Ns DD)=v4 at hX⊢;generalize x1.heap.size=q5 at hX⊢;refine gv H2 fun x5 k5=> ?_
 replace hX:=hX.keep k5;clear k5;have hN:=hX.new (Ns Fd.zN) 59;have g6:=hN.gt 0 rfl;replace hX:WD w (w.heap.size) [(x5.heap.size,Ns TW,59),(q5,Ns DD,59),(w.heap.size+1,Ns ZO,61),(w.heap.size,Ns (Rp.row p),61)] ((x5.alloc (.cells (Ns Fd.zN) 59)).setRow x5.heap.size (Ns TW)):=hN.over 0 rfl (Ns TW);go_wp2_with (first
  |(refine stN rfl rfl x5.heap.size rfl rfl g6 sTW rfl ?_))
 clear hN g6;generalize (x5.alloc (.cells (Ns Fd.zN) 59)).setRow x5.heap.size (Ns TW)=v7 at hX⊢;generalize x5.heap.size=q6 at hX⊢;refine gv H3 fun x8 k8=> ?_
 replace hX:=hX.keep k8;clear k8;go_wp2_with fail;refine gv H4 fun x9 k9=> ?_
 replace hX:=hX.keep k9;clear k9;go_wp2_with fail;refine gv H4 fun x10 k10=> ?_
 replace hX:=hX.keep k10;clear k10;go_wp2_with fail;refine gv H3 fun x11 k11=> ?_
 replace hX:=hX.keep k11;clear k11;have hN:=hX.new (Ns ZO) 61;have g12:=hN.gt 0 rfl;replace hX:WD w (w.heap.size) [(x11.heap.size,Ns ST,61),(q6,Ns TW,59),(q5,Ns DD,59),(w.heap.size+1,Ns ZO,61),(w.heap.size,Ns (Rp.row p),61)] ((x11.alloc (.cells (Ns ZO) 61)).setRow x11.heap.size (Ns ST)):=hN.over 0 rfl (Ns ST);go_wp2_with (first
  |(refine Rp.uf rfl 61 _ rfl [(0,.agg (Ns O0)),(1,.agg (Ns O1)),(2,.agg (Ns O1)),(3,.agg (Ns O0))] rfl _ (B1.out _) ?_)
  |(refine wpList_store_row rfl 61 _ _ rfl x11.heap.size _ rfl rfl 61 _ g12 (by rw[sST];exact Tryz.infoP64) (by rw[sST,sZ']) (aN _) ?_))
 clear hN g12;generalize (x11.alloc (.cells (Ns ZO) 61)).setRow x11.heap.size (Ns ST)=v13 at hX⊢;generalize x11.heap.size=q7 at hX⊢;clear B1 H1 H2 H3 H4;have hq:Hid True:=trivial;go_loopw [8] (fun q wr=> ∃k:Nat,k≤256∧q= .int .i64 (255 - (k:Int))∧WD w (w.heap.size) [(q7,Ns (Rp.row (Rp.wH (Rp.bitf s) p TW 256 k)),61),(q6,Ns TW,59),(q5,Ns DD,59),(w.heap.size+1,Ns ZO,61),(w.heap.size,Ns (Rp.row p),61)] wr) (fun q _=>(intOf q+1).toNat)
 case atStart=>exact⟨0,by omega,rfl,by rw[HST.out,hSTE.out];exact hX⟩
 case round=>
  clear hX;obtain⟨k,hk,rfl,hX⟩:=hrel;by_cases hlt:k<256
  ·have HS:=HMS.out k;have gC:=HFM.out k;have gD:=Rp.xU gC gC gT.out;have gF:=Rp.xU gD hp.out gT.out;have hj:(255:Int) - (k:Int)=((256 - 1 - k:Nat):Int):=by omega
   rw[hj];have BX:Hid (∀wx:World,Calls Tryz.prog 83 #[.string s,.int .i64 ((256 - 1 - k:Nat):Int)] wx fun e w'=>e= .returned (.int .i64 (byt s ((256 - 1 - k)/8)/2^((256 - 1 - k)%8)%2))∧w'=wx):=fun wx=>fP s (256 - 1 - k) wx (by omega) (by omega)
   have hbf:Rp.bitf s (256 - 1 - k)=(byt s ((256 - 1 - k)/8)/2^((256 - 1 - k)%8)%2==1):=rfl;rw[hbf]at HS;clear hbf;generalize byt s ((256 - 1 - k)/8)/2^((256 - 1 - k)%8)%2=bt at BX HS;have hjk:Hid (256 - 1 - k+k=255):=(by omega:256 - 1 - k+k=255);generalize 256 - 1 - k=j at hj BX hjk⊢;have i0:(0:Int)≤(j:Int):=by omega
   have j1:(j:Int)≤255:=by omega
   generalize hC:Rp.wH (Rp.bitf s) p TW 256 k=C at HS gC gD gF hX;clear hC;have J1:Hid (Rv 82 #[.agg (Ns (Rp.row C)),.agg (Ns (Rp.row C)),.agg (Ns TW)] (.agg (Ns (Rp.row (Rp.sum C C TW))))):=fun wx=>mI C C TW gC gC gT.out wx
   have sC:(Ns (Rp.row C)).size=64:=by rw[aK,gC.row]
   generalize Rp.sum C C TW=D at HS J1 gD gF;have J2:Hid (Rv 82 #[.agg (Ns (Rp.row D)),.agg (Ns (Rp.row p)),.agg (Ns TW)] (.agg (Ns (Rp.row (Rp.sum D p TW))))):=fun wx=>mI D p TW gD hp.out gT.out wx
   generalize Rp.sum D p TW=F at HS J2 gF;have sD1:(Ns (Rp.row D)).size=64:=by rw[aK,gD.row]
   have sF1:(Ns (Rp.row F)).size=64:=by rw[aK,gF.row]
   clear gC gD gF;replace HS:Hid (Rp.wH (Rp.bitf s) p TW 256 (k+1)=if (bt==1)=true then F else D):=HS;generalize Rp.row C=CC at hX J1 sC;generalize hD:Rp.row D=D1 at J1 J2 sD1;replace hD:Hid (Rp.row D=D1):=hD;generalize hF:Rp.row F=F1 at J2 sF1;replace hF:Hid (Rp.row F=F1):=hF;generalize hPP:Ns (Rp.row p)=PA at hX J2 sPP;replace hPP:Hid (Ns (Rp.row p)=PA):=hPP;have hq2:=hq;have g14:=hX.gt 0 rfl;have g15:=hX.gt 1 rfl;go_wp2_with (first
    |(refine ld t61 rfl rfl (q7) rfl g14 sC ?_)
    |(refine ldN rfl rfl (q6) rfl g15 sTW ?_))
   clear g14 g15;refine gv J1 fun x16 k16=> ?_
   replace hX:=hX.keep k16;clear k16;have hq3:=hq;have g17:=hX.gt 0 rfl;replace hX:WD w (w.heap.size) [(q7,Ns D1,61),(q6,Ns TW,59),(q5,Ns DD,59),(w.heap.size+1,Ns ZO,61),(w.heap.size,PA,61)] (x16.setRow (q7) (Ns D1)):=hX.over 0 rfl (Ns D1);go_wp2_with (first
    |(refine st t61 rfl rfl (q7) rfl rfl g17 sD1 sC (aN _) ?_))
   clear g17;generalize x16.setRow (q7) (Ns D1)=v18 at hX⊢;refine(BX.out _).mono ?_;rintro e xb ⟨rfl,hxb⟩;rw[hxb];clear hxb xb;by_cases hb1:bt=1
   ·have db:(bt==1)=true:=by rw[beq_iff_eq];exact hb1
    rw[if_pos db]at HS;replace hb1:Hid (bt=1):=hb1;have g19:=hX.gt 0 rfl;have g20:=hX.gt 4 rfl;have g21:=hX.gt 1 rfl;go_wp2_with (first
     |(refine ld t61 rfl rfl (q7) rfl g19 sD1 ?_)
     |(refine ld t61 rfl rfl (w.heap.size) rfl g20 sPP ?_)
     |(refine ldN rfl rfl (q6) rfl g21 sTW ?_))
    clear g19 g20 g21;refine gv J2 fun x22 k22=> ?_
    replace hX:=hX.keep k22;clear k22;have g23:=hX.gt 0 rfl;replace hX:WD w (w.heap.size) [(q7,Ns F1,61),(q6,Ns TW,59),(q5,Ns DD,59),(w.heap.size+1,Ns ZO,61),(w.heap.size,PA,61)] (x22.setRow (q7) (Ns F1)):=hX.over 0 rfl (Ns F1);go_wp2_with (first
     |(refine st t61 rfl rfl (q7) rfl rfl g23 sF1 sD1 (aN _) ?_))
    clear g23;generalize x22.setRow (q7) (Ns F1)=v24 at hX⊢;go_roundw
    case rel=>
     refine⟨k+1,by omega,by go_num,?_⟩;rw[HS.out,hF.out];exact hX
    case measure=>simp[intOf]
   ·have db:(bt==1)=false:=by rw[beq_eq_false_iff_ne];exact hb1
    rw[if_neg (by rw[db];decide)]at HS;replace hb1:Hid (¬bt=1):=hb1;go_wp2_with fail;go_roundw
    case rel=>
     refine⟨k+1,by omega,by go_num,?_⟩;rw[HS.out,hD.out];exact hX
    case measure=>simp[intOf]
  ·obtain rfl:k=256:=by omega
   rw[show (255:Int) - ((256:Nat):Int)= -1 by omega];rw[←show RR=Rp.row (Rp.wH (Rp.bitf s) p TW 256 256)from HM.out]at hX;have gR:=HFM.out 256;have sRR:(Ns RR).size=64:=by rw[HM.out,aK,gR.row]
   clear gR;have g25:=hX.gt 0 rfl;have g26:=hX.gt 3 rfl;replace hX:WD w (w.heap.size) [(q7,Ns RR,61),(q6,Ns TW,59),(q5,Ns DD,59),(w.heap.size+1,Ns RR,61),(w.heap.size,Ns (Rp.row p),61)] (wr.setRow (w.heap.size+1) (Ns RR)):=hX.over 3 rfl (Ns RR);go_wp2_with (first
    |(refine ld t61 rfl rfl (q7) rfl g25 sRR ?_)
    |(refine wpList_store_row rfl 61 _ _ rfl (w.heap.size+1) _ rfl rfl 61 _ g26 (by rw[sRR];exact Tryz.infoP64) (by rw[sRR,sZ']) (aN _) ?_))
   clear g25 g26;generalize wr.setRow (w.heap.size+1) (Ns RR)=v27 at hX⊢;refine bodyPost_ret (v:= .agg (Ns RR)) ?_ rfl ⟨rfl,hX.below⟩;exact rr t61 rfl rfl (hX.get 3 rfl) sRR
def Rp.xh(l:List UInt8):List UInt8:=(l.set 0 (l.getD 0 0 - l.getD 0 0%8)).set 31 (l.getD 31 0%64+64)
theorem Rp.xg(l:List UInt8):(Rp.xh l).length=l.length:=by simp[Rp.xh]
theorem Rp.Bf(x:UInt8):((x.toNat:Int) - (x.toNat:Int)%8)=((x - x%8).toNat:Int):=by
 have h:=x.toNat_lt;rw[UInt8.toNat_sub_of_le _ _ (UInt8.le_iff_toNat_le.2 (by rw[UInt8.toNat_mod];exact Nat.mod_le _ _)),UInt8.toNat_mod];show _=((x.toNat - x.toNat%8:Nat):Int)
 omega
theorem Rp.Be(x:UInt8):((x.toNat:Int)%64+64)=((x%64+64).toNat:Int):=by
 have h:=x.toNat_lt;rw[UInt8.toNat_add,UInt8.toNat_mod];show _=(((x.toNat%64+64)%256:Nat):Int)
 omega
theorem fu(s:ByteArray)(w:World)(hs:s.size=32):
  Rw 38 #[.string s] w (.string ⟨(Rp.xh s.data.toList).toArray⟩):=by
 obtain⟨cap,w3,hcv,ho,b3⟩:=bytesOf s w.heap.size w nR;replace ho:=ho.at;have hlen:s.data.toList.length=32:=by rw[←hs];simp
 rw[hs]at hcv;generalize hL:s.data.toList=l at ho hlen;replace hL:Hid (s.data.toList=l):=hL;have B8:Hid ((l.set 0 (l.getD 0 0 - l.getD 0 0%8)).set 31 (l.getD 31 0%64+64)=Rp.xh l):=rfl;have e31:(l.set 0 (l.getD 0 0 - l.getD 0 0%8)).getD 31 0=l.getD 31 0:=by simp[List.getD]
 have e0:l.getD 0 0=l.getD 0 0:=rfl;have a0:=Rp.Bf (l.getD 0 0);have a1:=Rp.Be (l.getD 31 0);have u0:=(l.getD 0 0).toNat_lt;have u1:=(l.getD 31 0).toNat_lt;have lC:=Rp.xg l;rw[hlen]at lC;generalize Rp.xh l=R at B8 lC⊢;generalize l.getD 31 0%64+64=y1 at B8 a1;generalize l.getD 0 0 - l.getD 0 0%8=y0 at B8 e31 a0;generalize l.getD 31 0=x1 at e31 a1 u1;generalize hx0:l.getD 0 0=x0 at e0 a0 u0;clear e0;go_enter Tryz.func38,Tryz.ntmps38;go_wp2_with fail;have v0:=y0.toNat_lt;have v1:=y1.toNat_lt;have p0:IntKind.u8.wrap (y0.toNat:Int)=(y0.toNat:Int):=by rw[IntKind.wrap_u8];omega
 have p1:IntKind.u8.wrap (y1.toNat:Int)=(y1.toNat:Int):=by rw[IntKind.wrap_u8];omega
 have hm0:Int.tmod (x0.toNat:Int) 8=(x0.toNat:Int)%8:=Int.tmod_eq_emod_of_nonneg (by omega);have hm1:Int.tmod (x1.toNat:Int) 64=(x1.toNat:Int)%64:=Int.tmod_eq_emod_of_nonneg (by omega);refine ai (S:=fun wx=>OwnR wx w.heap.size cap l∧Below w.heap.size w wx) (ls:= [10]) (by kernel_rfl) ?_;have hS:(fun wx=>OwnR wx w.heap.size cap l∧Below w.heap.size w wx) w3.drew:=⟨ho.drew,b3.drew⟩;clear ho b3;generalize w3.drew=wd at hS⊢;refine ac 0 6 hS ?_;refine ac 1 7 hS ?_;refine ac 2 8 hS ?_;simp only[qQ];refine aa 3 9 (v:= .int .u8 (x0.toNat:Int)) hS ?_ ?_
 ·(intro wx BM;have c0:=BM.1.cell 0 (by omega);rw[hx0]at c0;clear BM;go_simp;try (with_reducible rfl))
 refine ac 4 10 hS ?_;refine ac 5 11 hS ?_;simp only[qQ];refine aa 6 12 (v:= .int .u8 (x0.toNat:Int)) hS ?_ ?_
 ·(intro wx BM;have c0:=BM.1.cell 0 (by omega);rw[hx0]at c0;clear BM;go_simp;try (with_reducible rfl))
 refine ac 7 13 (v:= .int .u8 ((x0.toNat:Int)%8)) hS ?_;refine ac 8 14 (v:= .int .u8 (y0.toNat:Int)) hS ?_;simp only[qQ];refine ac 9 15 hS ?_;simp only[qQ];refine am 10 fun K hK=> ?_
 have f0:=hS.1.frozen 0 (by omega);have c0:=hS.1.cell 0 (by omega);go_simp;refine hK.out _ _ ?_;clear hK K f0 c0;have o1:=hS.1.set 0 y0;have b1:=hS.2.setCell (p:=⟨w.heap.size,0,none⟩) nR (.int .u8 (y0.toNat:Int));clear hS;generalize wd.setCell ⟨w.heap.size,0,none⟩ (.int .u8 (y0.toNat:Int))=we at o1 b1⊢;refine ak ?_;have c31:=o1.cell 31 (by simp[hlen]);rw[e31]at c31;have f31:=o1.frozen 31 (by simp[hlen]);have o2:=o1.set 31 y1;have b2:=b1.setCell (p:=⟨w.heap.size,31,none⟩) nR (.int .u8 (y1.toNat:Int));rw[B8.out]at o2;have hso:=aY (n:=32) o2 (by rw[lC]);clear o1 o2;go_wp2;go_ret;exact⟨rfl,b2⟩
theorem jj(X Y Z T IZ XA YA:List Int)(lt:List UInt8)(od:Bool)(w:World)(hlt:lt.length=32)
  (hX1:X.length=16) (hY:Y.length=16) (hZ:Z.length=16) (hT:T.length=16) (hIZ:IZ.length=16) (hXA:XA.length=16) (hYA:YA.length=16)
  (H1:Hid (Rv 85 #[.agg (Ns Z)] (.agg (Ns IZ))))
  (H2:Hid (Rv 84 #[.agg (Ns X),.agg (Ns IZ)] (.agg (Ns XA))))
  (H3:Hid (Rv 84 #[.agg (Ns Y),.agg (Ns IZ)] (.agg (Ns YA))))
  (H4:Hid (Rv 87 #[.agg (Ns YA)] (.string ⟨lt.toArray⟩)))
  (H5:Hid (Rv 88 #[.agg (Ns XA)] (.bool od))):
  Rw 40 #[.agg (Ns (Rp.qt X Y Z T))] w (.string ⟨(if od=true then lt.set 31 (lt.getD 31 0|||128)else lt).toArray⟩):=by
 have hz:=bC;have sY:=Nz hY;have sZ:=Nz hZ;have sT:=Nz hT;have sIZ:=Nz hIZ;have sXA:=Nz hXA;have sYA:=Nz hYA;have sX:=Nz hX1;have sP:(Ns (Rp.qt X Y Z T)).size=64:=by rw[aK,Rp.uy hX1 hY hZ hT]
 have hX:WD w w.heap.size [(w.heap.size,Ns (Rp.qt X Y Z T),61)] (w.alloc (.cells (Ns (Rp.qt X Y Z T)) 61)):=(WD.start (w:=w)).new (Ns (Rp.qt X Y Z T)) 61;generalize hPa:Ns (Rp.qt X Y Z T)=PA at sP⊢;replace hPa:Hid (Ns (Rp.qt X Y Z T)=PA):=hPa;rw[hPa.out]at hX;have hR:Hid (∀b:Bool,od=b→(if od=true then lt.set 31 (lt.getD 31 0|||128)else lt)=if b=true then lt.set 31 (lt.getD 31 0|||128)else lt):=fun b e=>by rw[e]
 generalize (if od=true then lt.set 31 (lt.getD 31 0|||128)else lt)=RR at hR⊢;go_enter Tryz.func40,Tryz.ntmps40;have c0:=Rp.ptZ (Blk.new w (Ns (Rp.qt X Y Z T)) 61) hX1 hY;rw[hPa.out]at c0;have c1:=c0;clear c1;go_wp2_with (first
  |(refine Rp.ul rfl 59 _ rfl (w.heap.size) 32 rfl (Ns Z) _ c0 Tryz.underlying59 rfl (by rw[sZ];exact Tryz.info16) ?_))
 clear c0;rw[←hPa.out]at hX;clear sP;rw[←hPa.out];generalize w.alloc (.cells (Ns (Rp.qt X Y Z T)) 61)=w1 at hX⊢;refine gv H1 fun x1 k1=> ?_
 replace hX:=hX.keep k1;clear k1;have hN:=hX.new (Ns Fd.zN) 59;have g2:=hN.gt 0 rfl;replace hX:WD w (w.heap.size) [(x1.heap.size,Ns IZ,59),(w.heap.size,Ns (Rp.qt X Y Z T),61)] ((x1.alloc (.cells (Ns Fd.zN) 59)).setRow x1.heap.size (Ns IZ)):=hN.over 0 rfl (Ns IZ);have c3:=Rp.ptX (hX.get 1 rfl);have g4:=hX.gt 0 rfl;go_wp2_with (first
  |(refine stN rfl rfl x1.heap.size rfl rfl g2 sIZ rfl ?_)
  |(refine Rp.ul rfl 59 _ rfl (w.heap.size) 0 rfl (Ns X) _ c3 Tryz.underlying59 rfl (by rw[sX];exact Tryz.info16) ?_)
  |(refine ldN rfl rfl (x1.heap.size) rfl g4 sIZ ?_))
 clear hN g2 c3 g4;generalize (x1.alloc (.cells (Ns Fd.zN) 59)).setRow x1.heap.size (Ns IZ)=v5 at hX⊢;generalize x1.heap.size=q3 at hX⊢;refine gv H2 fun x6 k6=> ?_
 replace hX:=hX.keep k6;clear k6;have hN:=hX.new (Ns Fd.zN) 59;have g7:=hN.gt 0 rfl;replace hX:WD w (w.heap.size) [(x6.heap.size,Ns XA,59),(q3,Ns IZ,59),(w.heap.size,Ns (Rp.qt X Y Z T),61)] ((x6.alloc (.cells (Ns Fd.zN) 59)).setRow x6.heap.size (Ns XA)):=hN.over 0 rfl (Ns XA);have c8:=Rp.ptY (hX.get 2 rfl) hX1;have g9:=hX.gt 1 rfl;go_wp2_with (first
  |(refine stN rfl rfl x6.heap.size rfl rfl g7 sXA rfl ?_)
  |(refine Rp.ul rfl 59 _ rfl (w.heap.size) 16 rfl (Ns Y) _ c8 Tryz.underlying59 rfl (by rw[sY];exact Tryz.info16) ?_)
  |(refine ldN rfl rfl (q3) rfl g9 sIZ ?_))
 clear hN g7 c8 g9;generalize (x6.alloc (.cells (Ns Fd.zN) 59)).setRow x6.heap.size (Ns XA)=v10 at hX⊢;generalize x6.heap.size=q4 at hX⊢;refine gv H3 fun x11 k11=> ?_
 replace hX:=hX.keep k11;clear k11;have hN:=hX.new (Ns Fd.zN) 59;have g12:=hN.gt 0 rfl;replace hX:WD w (w.heap.size) [(x11.heap.size,Ns YA,59),(q4,Ns XA,59),(q3,Ns IZ,59),(w.heap.size,Ns (Rp.qt X Y Z T),61)] ((x11.alloc (.cells (Ns Fd.zN) 59)).setRow x11.heap.size (Ns YA)):=hN.over 0 rfl (Ns YA);have g13:=hX.gt 0 rfl;go_wp2_with (first
  |(refine stN rfl rfl x11.heap.size rfl rfl g12 sYA rfl ?_)
  |(refine ldN rfl rfl (x11.heap.size) rfl g13 sYA ?_))
 clear hN g12 g13;generalize (x11.alloc (.cells (Ns Fd.zN) 59)).setRow x11.heap.size (Ns YA)=v14 at hX⊢;generalize x11.heap.size=q5 at hX⊢;refine gv H4 fun x15 k15=> ?_
 replace hX:=hX.keep k15;clear k15;obtain⟨cap,wb,hcv,ho,b3⟩:=bytesOf ⟨lt.toArray⟩ x15.heap.size x15 nR;replace ho:=ho.at;rw[show (⟨lt.toArray⟩:ByteArray).size=32 by rw[←hlt];rfl]at hcv;replace ho:OwnR wb _ cap lt:=ho;have hgb:w.heap.size≤x15.heap.size:=hX.below.size;replace hX:=hX.keep b3;clear b3;have g16:=hX.gt 1 rfl;go_wp2_with (first
  |(refine ldN rfl rfl (q4) rfl g16 sXA ?_))
 clear g16;generalize x15.heap.size=gb at ho hgb⊢;refine gv H5 fun wc kc=> ?_
 replace ho:=ho.below kc ho.lt;replace hX:=hX.keep kc;clear kc;cases od with
 |true=>
  have hr:=hR.out true rfl;rw[if_pos rfl]at hr;clear hR;have c31:=ho.cell 31 (by omega);have f31:=ho.frozen 31 (by omega);have o2:=ho.set 31 (lt.getD 31 0|||128);have a2:bits BinOp.or IntKind.u8 ((lt.getD 31 0).toNat:Int) 128=((lt.getD 31 0|||128).toNat:Int):=iI _ 128;rw[←hr]at o2;have lR:RR.length=32:=by rw[hr,List.length_set,hlt]
  clear hr;generalize lt.getD 31 0|||128=y at*
  generalize lt.getD 31 0=x at*;have hso:=aY (n:=32) o2 (by rw[lR]);have bel:=hX.below.setCell (p:=⟨gb,31,none⟩) hgb (.int .u8 (y.toNat:Int));clear o2 hX ho;go_wp2;go_ret;exact⟨rfl,bel⟩
 |false=>
  have hr:=hR.out false rfl;rw[if_neg (by decide)]at hr;clear hR;subst hr;have hso:=aY (n:=32) ho (by rw[hlt]);have bel:=hX.below;clear hX ho;go_wp2;go_ret;exact⟨rfl,bel⟩
def Rp.bytes(p:Rp.Pn):List UInt8:=if Fd.odd (Fd.by_ p.x (Fd.inv p.z))=true then(Fd.told (Fd.by_ p.y (Fd.inv p.z))).set 31 ((Fd.told (Fd.by_ p.y (Fd.inv p.z))).getD 31 0|||128)else Fd.told (Fd.by_ p.y (Fd.inv p.z))
theorem Rp.bytes_length(p:Rp.Pn):(Rp.bytes p).length=32:=by
 unfold Rp.bytes;split
 ·rw[List.length_set,Fd.us]
 ·rw[Fd.us]
theorem dM(p:Rp.Pn)(hp:Rp.Fine p)(w:World):
  Rw 40 #[.agg (Ns (Rp.row p))] w (.string ⟨(Rp.bytes p).toArray⟩):=by
 have gi:=Fd.uv _ hp.2.2.1;have gx:=Fd.tN _ _ hp.1 gi;have gy:=Fd.tN _ _ hp.2.1 gi;exact jj p.x p.y p.z p.t (Fd.inv p.z) (Fd.by_ p.x (Fd.inv p.z)) (Fd.by_ p.y (Fd.inv p.z)) (Fd.told (Fd.by_ p.y (Fd.inv p.z))) (Fd.odd (Fd.by_ p.x (Fd.inv p.z))) w (Fd.us _)
  hp.1.1 hp.2.1.1 hp.2.2.1.1 hp.2.2.2.1 gi.1 gx.1 gy.1 (fun wx=>cq _ wx hp.2.2.1) (fun wx=>aI _ _ hp.1 gi wx) (fun wx=>aI _ _ hp.2.1 gi wx) (fun wx=>iC _ gy wx) (fun wx=>iD _ gx wx)
end Go.Proofs.YtclpbaokadfhhaaGreatDoor
